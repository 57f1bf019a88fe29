import PyProof.Rows.All
import Wide.All
import OpenK.AllK
import Wide.FinOn
import HandS.ForMost
import HandS.ForExc
import HandS.TupAny
import HandS.Wide
import HandS.IsInst
import HandS.Defaults
import HandS.AnyAll
import HandS.Walk
import HandS.TupLen
import PySem.Challenge.RW_tellsnone_k78_whole_texts_of_players_and
import KE.KExcSuper
import KE.KSuper
import KE.KExcMake
import HandS.ExcInit
import HandS.Nested
import HandS.FStr
import PyProof.FitsInt
import HandS.OwnEq
import HandS.ExcIs
import HandS.ExcOwn
import HandS.Gcd
import HandS.SlotsOwn
import KE.IntTextLaws
import HandS.Dict
import HandS.DictComp
import HandS.WrittenGet
import HandS.Zip
import HandS.Star
import HandS.RaiseMore
import HandS.Text
import KE.KRevSl
import KE.KDictList
import HandS.Sort
import HandS.Conv
import HandS.TupMul
import KE.KExcIs
import HandS.ExcField
import HandS.HotCalls
set_option Elab.async false
set_option linter.all false
set_option maxRecDepth 100000
set_option maxHeartbeats 4000000
/-! An own error under ValueError whose __init__ begins with super().__init__(e): its __init__ as a def that keeps a promise (pmk_oex makes of it the rule of C(e, ..)). -/
namespace Mine
open PySem PySem.Calls L2 NdefX PyProof.Rows
section
variable {X : Cx} {pins : List (Addr × Obj)} {σ : L2.St} {H : Hp} {s : Shared} {A : Around} {E : Value → Shared → Prop}
/-- the built-in __init__, bound to an exception that is being made, is called -/
theorem call_mw {a C u : Addr} {us : List Value} {Q : Value → Shared → Prop} (T : OexC X.K C) (I : Inv X pins σ H s) (e : H a = some (exo a C none)) (hu : s.heap.get? u = some (PySem.W.kxs_mw "ValueError.__init__" a)) (hl : us.length ≤ sizeLine)
    (h : ∀ s', Inv X pins σ H s' → Q .none s') : wpAny (model X.prog X.w) A (call (.ref u) us) Q E s := by
  obtain ⟨nm, q, N, bs, bm, sn, sub, ab, col, dd, k0, k1, k2, k3, k5, hC, hbm⟩ := T.cls
  obtain ⟨t1, ho⟩ := exo_at I.hok e
  have hCh := I.kIn _ _ hC
  obtain ⟨hp, g, d, t, os⟩ := s
  refine wpAny_call (codeAny_of_tree ?_)
  show wpAny _ A.in1 (callAny (.ref u) ⟨us, []⟩) _ _ _
  simp only [callAny]
  refine wpAny_bind (wpAny_load hu ?_)
  simp only [PySem.W.kxs_mw, show (Value.type "method-wrapper" == Value.type "method" || Value.type "method-wrapper" == Value.type "builtin_function_or_method" || Value.type "method-wrapper" == Value.type "method-wrapper") = true by decide, if_true]
  refine PySem.W.KFB.if_so (by decide) ?_
  refine wpAny_bind (PySem.W.check_bound_init F.excBase_ValueError.toExcCallFacts hCh ho rfl ?_)
  refine wpAny_bind (wpAny_pure (wpAny_pure ?_))
  refine ⟨plainId_quiet F.excBase_ValueError.init.plain _, codeAny_builtin F.excBase_ValueError.initEntry ?_⟩
  refine PySem.W.exc_init_tree (cls := .ref C) (t0 := t1) (dv := none) (c2 := .none) (c3 := .none) (b4 := .bool false) ho hl fun h' k hx _ => ?_
  have J := I.write (t' := t) (x := a) (e := a) (o := exo a C none) (by rw [e]; exact True.intro) (.inl rfl) k ⟨_, hx⟩ (exo_ok hx)
  have eu : upd H a (exo a C none) = H := by
    funext b
    by_cases hb : b = a
    · rw [hb, upd_same, e]
    · rw [upd_ne hb]
  rw [eu] at J
  exact h _ J
end
section
variable {CX : CXT} {P : Program} {w : World} {K : PySem.W.Frag} {mg : Str → Option Value} {base : Heap} {k : Nat} {f cda cc D : Addr} {name qual self : Str} {params : Arguments} {scope : Scope} {dV kV doc pm ct oc ccl cl : Value} {an od cdd cld : Option Addr}
  {osl ccs csl : Array (Option Value)} {vs0 : Array Value} {file : Str} {tf : Tok} {N ps0 : List Str} {sp : Sp} {p0 p1 p2 p3 p4 : Pos} {arg : Expr} {rest : List Stmt} {ar : Arg} {cdD : ClassData}
theorem one_look {n y : Str} {c0 c : Addr} (h : ([(n, c0)] : List (Str × Addr)).lookup y = some c) : y = n ∧ c = c0 := by
  unfold List.lookup at h
  split at h
  · rename_i e
    exact ⟨eq_of_beq e, (Option.some.inj h).symm⟩
  · cases h
/-- what the written part says of such an __init__ -/
structure SupIn (K : PySem.W.Frag) (D cda cc : Addr) : Prop where
  code : ∃ ccl cdd vs0 ccs file tf, K.lookup cda = some (⟨ccl, cdd, .fields vs0, ccs⟩ : Obj) ∧ vs0[2]? = some (Value.str file tf)
  cell : ∃ cl cld csl, K.lookup cc = some (⟨cl, cld, .cell (some (.ref D)), csl⟩ : Obj)
  any : PySem.W.nsIn K cStatics "thirdparty.any" = some none
  sup : PySem.W.ks_superIn K D D "__init__" = some (some (.builtin "ValueError.__init__"))
  subV : PySem.W.subIn K (.ref D) (.type "ValueError") = some true
  mro : PySem.W.mroIn K D (.ref D) = some true
theorem fn_super (lk : K.lookup f = some ⟨oc, od, .func (PySem.W.ksFn name qual params (.Expr (.Call (.Attribute (.Call (.Name "super" p0) [] [] p1) "__init__" p2) [arg] [] p3) p4 :: rest) scope dV kV doc pm an (.ref cda) ct cc), osl⟩)
    (hcd : PySem.W.codeIn K (.ref cda) qual = true) (S : NScope N (self :: ps0) ["__class__"] scope) (TO : OexC K D)
    (hcode : K.lookup cda = some ⟨ccl, cdd, .fields vs0, ccs⟩) (hvs : vs0[2]? = some (.str file tf)) (hfile : ((P.main.file : Str) == file) = true)
    (hcell : K.lookup cc = some ⟨cl, cld, .cell (some (.ref D)), csl⟩) (any : PySem.W.nsIn K cStatics "thirdparty.any" = some none)
    (sup : PySem.W.ks_superIn K D D "__init__" = some (some (.builtin "ValueError.__init__"))) (subV : PySem.W.subIn K (.ref D) (.type "ValueError") = some true) (mro : PySem.W.mroIn K D (.ref D) = some true)
    (hpar : (params.posonlyargs ++ params.args).head? = some ar) (har : ar.arg = self) (hks : scope.names.lookup ("super" : Str) = some .globalImplicit) (htop : (P.main.scope.names.lookup ("super" : Str)).isSome = false) (hsuper : mg "super" = none)
    (he : ∀ env, starEach [arg] env = [(false, eval arg env)] := by intro _; rfl) (hsw : ∀ L, swapsWith (.Call (.Attribute (.Call (.Name "super" p0) [] [] p1) "__init__" p2) [arg] [] p3) none p4.line (PySem.W.ksEnv qual scope L f (.ref cda) cc) = pure false := by intro _; rfl)
    {pl : Env → Sem Bool} (hev : ∀ env, eval (.Call (.Attribute (.Call (.Name "super" p0) [] [] p1) "__init__" p2) [arg] [] p3) env = (do
      let ov ← attributeBase (.Call (.Name "super" p0) [] [] p1) "__init__" env (eval (.Call (.Name "super" p0) [] [] p1) env)
      standAt p2.atName
      let (f, first) ← holding [ov] (getMethod ov "__init__" (pl env))
      callWith p3 f first (backTo p3 (starEach [arg] env)) []) := by intro _; rfl)
    (len : ∀ vs H Q E, sp vs H Q E → vs.length = (self :: ps0).length)
    (hbody : ∀ (A : Around) (outer : List Env) (s : Shared) (H : Hp) (vs : List V) (Q : VK) (E : XK), Room k (A.deeper (PySem.W.ksEnv qual scope s.heap.objs.size f (.ref cda) cc)) → sp vs H Q E →
      ∃ (a : Addr) (vr : List V) (ta : TA) (t : TS), vs = .ref a :: vr ∧ H a = some (exo a D none) ∧
        PA (ncx CX P w K mg base N ⟨name, qual, params, .Expr (.Call (.Attribute (.Call (.Name "super" p0) [] [] p1) "__init__" p2) [arg] [] p3) p4 :: rest, scope, [("__class__", cc)], cda⟩ f A outer s H E) [arg] ta ∧
        PSs (ncx CX P w K mg base N ⟨name, qual, params, .Expr (.Call (.Attribute (.Call (.Name "super" p0) [] [] p1) "__init__" p2) [arg] [] p3) p4 :: rest, scope, [("__class__", cc)], cda⟩ f A outer s H E) rest t ∧
        ta (startF N vs [none]) H fun ws H1 => ws.length ≤ 1000 ∧ H1 a = some (exo a D none) ∧ t { nx := fun _ H' => Q .non H', rt := Q } (startF N vs [none]) H1) :
    FnOk P w K mg base CX (k + 1) f (PySem.W.ksFn name qual params (.Expr (.Call (.Attribute (.Call (.Name "super" p0) [] [] p1) "__init__" p2) [arg] [] p3) p4 :: rest) scope dV kV doc pm an (.ref cda) ct cc) (self :: ps0) sp := by
  refine ⟨len, fun A outer s H args us vs Q E hr e0 hb r hsp => ?_⟩
  have hl := len _ _ _ _ hsp
  have KX : K.In s.heap := e0.mod.kin.keeps fun b o e => (e0.bs b o e).1
  have lim : s.heap.NoLimit := e0.mod.nolimit.keeps fun b o e => (e0.bs b o e).1
  refine PySem.ks_codeAny_call_defAt hr.depth (KX _ _ lk) rfl lim (PySem.W.codeRec_of KX hcd) rfl hb (fun x hx => S.nocell x hx) (fun ⟨n, v⟩ hy => S.par n (List.of_mem_zip hy).1) (fun h₁ hns kp => ?_) S.co S.gen S.kind
  obtain ⟨a, vr, ta, t, ev, ea, hA, hS, hta⟩ := hbody A outer s H vs Q E (hr.deeper _) hsp
  have C : CellsAt [("__class__", cc)] ["__class__"] [none] s.heap H := by
    have cb := e0.bs _ _ (e0.mod.kin _ _ hcell)
    refine ⟨rfl, fun y c e => ?_, fun x y c e1 e2 => ?_, fun i y e => ?_⟩
    · obtain ⟨_, rfl⟩ := one_look e
      exact ⟨cb.2, _, _, cb.1, rfl⟩
    · rw [(one_look e1).1, (one_look e2).1]
    · cases i with
      | zero =>
        have : y = "__class__" := (Option.some.inj e).symm
        subst this
        exact ⟨cc, rfl, fun v z => by cases z⟩
      | succ i => simp at e
  have I := inv_startN (F := ⟨name, qual, params, .Expr (.Call (.Attribute (.Call (.Name "super" p0) [] [] p1) "__init__" p2) [arg] [] p3) p4 :: rest, scope, [("__class__", cc)], cda⟩) (f := f) (CX := CX) (E := E) (tk := s.toks + ((self :: ps0).zip us).length) S hr.hd e0 hl r C hns kp
  have hN0 : N[0]? = some self := by
    have q := S.pre
    cases N with
    | nil => simp at q
    | cons n N' =>
      have q2 : n :: N'.take (ps0.length + 1) = self :: (ps0 ++ [("__class__" : Str)]) := q
      exact congrArg some (List.cons.inj q2).1
  have hself : ∃ m, h₁.Ns s.heap.objs.size m ∧ m self = some (.ref a) := by
    obtain ⟨m, hn, hlk⟩ := I.loc
    obtain ⟨u, ru, L⟩ := hlk 0 self (.ref a) hN0 (by subst ev; rfl) (.inl (S.par self List.mem_cons_self))
    obtain rfl : u = .ref a := ru
    rcases L with ⟨_, e⟩ | ⟨z | z, _⟩
    · exact ⟨m, hn, e⟩
    · have := S.par self List.mem_cons_self
      rw [show scope.names.lookup self = some .cell from z] at this
      cases this
    · have := S.par self List.mem_cons_self
      rw [show scope.names.lookup self = some .free from z] at this
      cases this
  obtain ⟨m, hm, hms⟩ := hself
  obtain ⟨mb, b1, b2⟩ := I.mod.blt
  obtain ⟨nm, q, NN, bs, bm, sn, sub, ab, col, dd, k0, k1, k2, k3, k5, hC, hbm⟩ := TO.cls
  have hDc : PySem.W.clsIn K D = some { name := nm, bases := bs, mro := .ref D :: bm, ns := NN, qualname := q, hasDict := true, slotNames := sn, subclasses := sub, abstract := ab, collection := col, hasDel := false } := by unfold PySem.W.clsIn; rw [hC] <;> rfl
  obtain ⟨t1, ho⟩ := exo_at I.hok ea
  have KH := I.kIn
  have hkc : scope.names.lookup ("__class__" : Str) = some .free := S.frk _ (List.mem_singleton.mpr rfl)
  have hint : ∀ L, interactive (PySem.W.ksEnv qual scope L f (.ref cda) cc) = false := fun L => by
    unfold interactive
    rw [show (PySem.W.ksEnv qual scope L f (.ref cda) cc).scope.kind = .function from S.kind]
    rfl
  refine PySem.ks_wpAt_execs_cons (PySem.ks_wpAt_Expr_any (PySem.ks_wpAt_MethodCall ?_ (hev _)) (hint _) (hsw _))
  refine PySem.ks_wpAt_super_base (ar := ar) hks hkc (by decide) rfl (KH _ _ lk) rfl hpar rfl (KH _ _ hcode) rfl hvs hfile htop ?_
  refine PySem.W.ks_loadName_global S.kind hks (Calls.loadGlobal_builtin (I.mod.glob.keeps I.bk) hsuper (b1.keeps I.bk) ((b2 "super" (by decide)).trans (by decide +kernel)) ⟨rfl, ?_⟩)
  refine wpAny_loadName_free S.kind hkc rfl ⟨_, KH _ _ hcell, rfl⟩ ?_
  refine wpAny_loadName_local S.kind (show scope.names.lookup ar.arg = some .local by rw [har]; exact S.par self List.mem_cons_self) hm (by rw [har]; exact hms) ?_
  refine PySem.ks_wpAny_isType_cls (KH _ _ hC) rfl ⟨rfl, ?_⟩
  refine PySem.ks_wpAny_call_super (KH _ _ hC) rfl ho rfl (fun c e => by cases e) (PySem.W.looks_mroIn KH mro) (fun h' e2 k2 => ?_)
  have I2 := I.kept (t' := s.toks + ((self :: ps0).zip us).length) k2
  obtain ⟨t2, ho2⟩ := exo_at I2.hok ea
  have IA : PySem.W.InstAt h' a ({ cls := .ref D, dict := none, data := .fields #[.ref t2, .none, .none, .none, .bool false, .none] } : Obj) D none := ⟨ho2, rfl, rfl, trivial⟩
  have KH2 : K.In h' := I2.kIn
  have supA : PySem.W.alongIn K "__init__" (((Value.ref D :: bm).dropWhile (· != .ref D)).drop 1) = some (some (.builtin "ValueError.__init__")) := by
    have z := sup
    unfold PySem.W.ks_superIn at z
    rw [hDc] at z
    exact z
  refine PySem.W.kxs_getMethod PySem.W.kxs_ValueError e2 (PySem.W.looks_opaque KH2 any) (l₀ := Value.ref D :: bm) (fun A Q E s k q => wpAny_bind ((PySem.W.looks_clsIn KH2 hDc) A _ E s k (wpAny_pure q))) rfl KH2 supA (IA.type.andThen (PySem.W.looks_subIn KH2 subV)) (PySem.W.ks_ne KH2 IA hDc) (by decide) ?_
  have I3 := I2.kept (h' := h'.push (PySem.W.kxs_mw "ValueError.__init__" a)) (t' := s.toks + ((self :: ps0).zip us).length + 1) (fun b u e => Heap.get?_push_of_some _ e)
  have I4 := I3.pins_of (pins' := [(h'.objs.size, PySem.W.kxs_mw "ValueError.__init__" a)]) (fun p hp => by
    obtain rfl : p = (h'.objs.size, PySem.W.kxs_mw "ValueError.__init__" a) := List.mem_singleton.mp hp
    exact ⟨Heap.get?_push_at rfl rfl, I2.hok.fresh (Nat.le_refl _), fun z => absurd I2.lt (by rw [← z]; exact Nat.lt_irrefl _), I2.nofs (Nat.le_refl _), fun v z => by cases z⟩)
  have hA4 := hA.run p3 _ _ _ _ _ I4 hta
  rw [he] at hA4 ⊢
  refine PySem.W.kxs_callWith (i := "ValueError.__init__") (x := a) rfl ?_
  refine evalArgs_plain (thn hA4 fun us4 s4 ⟨ws, H1, I5, r5, hz, ea5, ht⟩ => ⟨(I5.pin _ (List.mem_append_right _ (List.mem_singleton.mpr rfl))).1, ?_⟩)
  have hlen : us4.length ≤ sizeLine := by
    rw [← Paired.length r5, sizeLine_eq]
    omega
  refine call_mw TO I5 ea5 (I5.pin _ (List.mem_append_right _ (List.mem_singleton.mpr rfl))).1 hlen fun s5 J => ?_
  refine wpAt_of_wpAny (wpAny_mono (hS.run _ s5 _ _ _ J ht) (fun fl s' hs => ?_) fun e s' hs => hs)
  have fin : ∀ {σ' : L2.St} {H' : Hp} {v : V} {u : Value} {pn : List (Addr × Obj)}, Inv (ncx CX P w K mg base N ⟨name, qual, params, .Expr (.Call (.Attribute (.Call (.Name "super" p0) [] [] p1) "__init__" p2) [arg] [] p3) p4 :: rest, scope, [("__class__", cc)], cda⟩ f A outer s H E) pn σ' H' s' → L2.RelV v u → Q v H' → CE outer P w H s Q u s' :=
    fun {σ' H' v u pn} J rv q => ⟨v, H', J.os, J.bare, J.base, J.hok, rv, q⟩
  cases fl with
  | ret u =>
    obtain ⟨v, σ', H', J, rv, q⟩ := hs
    exact fin J rv q
  | next =>
    obtain ⟨σ', H', J, q⟩ := hs
    exact fin (v := V.non) (u := Value.none) J rfl q
  | brk =>
    obtain ⟨_, _, _, q⟩ := hs
    exact False.elim q
  | cont =>
    obtain ⟨_, _, _, q⟩ := hs
    exact False.elim q
end
end Mine
set_option Elab.async false
set_option linter.all false
set_option maxRecDepth 100000
set_option maxHeartbeats 4000000
/-! class E(..): def __init__(self, x): super().__init__(f"..{x}.."); self.f = x, E under ValueError: C(e) as a rule. -/
namespace Mine
open PySem PySem.Calls L2 NdefX PyProof.Rows
structure ErrF (K : PySem.W.Frag) (mg : Str → Option Value) (C f : Addr) (fd : FuncData) (qual : Str) (st : Stmt) (file fld : Str) : Prop where
  ex : ∃ (oc : Value) (od : Option Addr) (osl : Array (Option Value)) (dV kV doc pm : Value) (an : Option Addr) (cda : Addr) (ct : Value) (cc : Addr) (ccl : Value) (cdd : Option Addr) (ccs : Array (Option Value)) (vs0 : Array Value) (tf : Tok) (cl : Value) (cld : Option Addr) (csl : Array (Option Value)),
    fd = PySem.W.ksFn "__init__" qual (defArgs st) (defBody st) (defScope st) dV kV doc pm an (.ref cda) ct cc ∧ K.lookup f = some ⟨oc, od, .func fd, osl⟩ ∧ PySem.W.codeIn K (.ref cda) qual = true ∧
    K.lookup cda = some ⟨ccl, cdd, .fields vs0, ccs⟩ ∧ vs0[2]? = some (.str file tf) ∧ K.lookup cc = some ⟨cl, cld, .cell (some (.ref C)), csl⟩
  any : PySem.W.nsIn K cStatics "thirdparty.any" = some none
  sup : PySem.W.ks_superIn K C C "__init__" = some (some (.builtin "ValueError.__init__"))
  subV : PySem.W.subIn K (.ref C) (.type "ValueError") = some true
  mro : PySem.W.mroIn K C (.ref C) = some true
  T : OexC K C
  iC : PySem.W.findIn K (.ref C) "__init__" = some (some (.ref f))
  tI : PySem.W.typeIn K (.ref f) = some (.type "function")
  no : PySem.W.findIn K (.ref C) fld = some none
  z : mg "super" = none
/-- the program's own file -/
def PrF (P : Program) (file : Str) : Prop := ((P.main.file : Str) == file) = true ∧ (P.main.scope.names.lookup ("super" : Str)).isSome = false
theorem len_app {a b : Str} {m n : Nat} (ha : a.length ≤ m) (hb : b.length ≤ n) : (a ++ b).length ≤ m + n := by rw [Str.length_append]; exact Nat.add_le_add ha hb
theorem int_len {i : Int} (hi : i.natAbs < 2 ^ 64) : (Str.ofString (toString i)).length ≤ 65 ∧ i.natAbs.log2 < 1920 := by
  have h := PySem.Flt.log2_lt_of (k := 64) (by decide) hi
  refine ⟨?_, Nat.lt_of_lt_of_le h (by decide)⟩
  rw [PySem.ofString_length]
  exact int_text_length_le (k := 64) (by decide) h
theorem emp_len : Str.empty.length ≤ 0 := by decide +kernel
section
variable {a b : Str} {σ : L2.St} {H : Hp} {Q : VK}
theorem js_I3 {i : Int} (ha : a.length ≤ 1000) (hb : b.length ≤ 1000) (e : σ[1]? = some (some (.int i))) (hi : i.natAbs < 2 ^ 64) (q : ∀ t : Str, Q (.str t) H) :
    tJs [tC (.str a), tFmt (tVar 1), tC (.str b)] Str.empty σ H fun out H1 => Q (.str out) H1 := by
  have l1 := len_app emp_len ha
  have l2 := len_app l1 (int_len hi).1
  have l3 := len_app l2 hb
  exact ⟨_, rfl, Nat.le_trans l1 (by decide), _, e, .inr ⟨i, rfl, (int_len hi).2, _, rfl, Nat.le_trans l2 (by decide), _, rfl, Nat.le_trans l3 (by decide), q _⟩⟩
theorem js_S3 {y : Str} (ha : a.length ≤ 1000) (hb : b.length ≤ 1000) (e : σ[1]? = some (some (.str y))) (hi : y.length ≤ 1000) (q : ∀ t : Str, Q (.str t) H) :
    tJs [tC (.str a), tFmt (tVar 1), tC (.str b)] Str.empty σ H fun out H1 => Q (.str out) H1 := by
  have l1 := len_app emp_len ha
  have l2 := len_app l1 hi
  have l3 := len_app l2 hb
  exact ⟨_, rfl, Nat.le_trans l1 (by decide), _, e, .inl ⟨y, rfl, Nat.le_trans hi (by decide), _, rfl, Nat.le_trans l2 (by decide), _, rfl, Nat.le_trans l3 (by decide), q _⟩⟩
theorem js_S2 {y : Str} (ha : a.length ≤ 1000) (e : σ[1]? = some (some (.str y))) (hi : y.length ≤ 1000) (q : ∀ t : Str, Q (.str t) H) :
    tJs [tC (.str a), tFmt (tVar 1)] Str.empty σ H fun out H1 => Q (.str out) H1 := by
  have l1 := len_app emp_len ha
  have l2 := len_app l1 hi
  exact ⟨_, rfl, Nat.le_trans l1 (by decide), _, e, .inl ⟨y, rfl, Nat.le_trans hi (by decide), _, rfl, Nat.le_trans l2 (by decide), q _⟩⟩
end
/-- what such an __init__ promises -/
def spErr (D : Addr) (fld : Str) (ok : V → Prop) : Sp := fun vs H Q _ => ∃ (a : Addr) (y : V), vs = [.ref a, y] ∧ H a = some (exo a D none) ∧ ok y ∧ ∀ dx, H dx = none → dx ≠ a → Q .non (upd (upd H dx (exd dx [(fld, y)])) a (exo a D (some dx)))
section
variable {P : Program} {w : World} {K : PySem.W.Frag} {mg : Str → Option Value} {base : Heap} {k : Nat} {C f : Addr} {fd : FuncData} {qual file fld x : Str} {st : Stmt} {p0 p1 p2 p3 p4 a1 a2 a3 a4 : Pos} {arg : Expr} {ar : Arg} {targ : TE} {ok : V → Prop}
theorem err_ok (F : ErrF K mg C f fd qual st file fld) (hfile : ((P.main.file : Str) == file) = true) (htop : (P.main.scope.names.lookup ("super" : Str)).isSome = false)
    (hb : defBody st = [.Expr (.Call (.Attribute (.Call (.Name "super" p0) [] [] p1) "__init__" p2) [arg] [] p3) p4, .Assign [.Attribute (.Name "self" a1) fld a2] (.Name x a3) a4])
    (S : NScope [("self" : Str), x, "__class__"] [("self" : Str), x] ["__class__"] (defScope st)) (hpar : ((defArgs st).posonlyargs ++ (defArgs st).args).head? = some ar) (har : ar.arg = "self") (hks : (defScope st).names.lookup ("super" : Str) = some .globalImplicit)
    (he : ∀ env, starEach [arg] env = [(false, eval arg env)]) (hsw : ∀ env, swapsWith (.Call (.Attribute (.Call (.Name "super" p0) [] [] p1) "__init__" p2) [arg] [] p3) none p4.line env = pure false)
    {pl : Env → Sem Bool} (hev : ∀ env, eval (.Call (.Attribute (.Call (.Name "super" p0) [] [] p1) "__init__" p2) [arg] [] p3) env = (do
      let ov ← attributeBase (.Call (.Name "super" p0) [] [] p1) "__init__" env (eval (.Call (.Name "super" p0) [] [] p1) env)
      standAt p2.atName
      let (f, first) ← holding [ov] (getMethod ov "__init__" (pl env))
      callWith p3 f first (backTo p3 (starEach [arg] env)) []))
    (hsw2 : ∀ env, swapsWith (.Name x a3) (some (.Attribute (.Name "self" a1) fld a2)) a4.line env = pure false)
    (hx : (x == ("__debug__" : Str)) = false) (hx2 : (x == ("__classdict__" : Str)) = false)
    (harg : ∀ X : Cx, X.N = [("self" : Str), x, "__class__"] → X.env.scope = defScope st → PE X arg targ)
    (htarg : ∀ (σ : L2.St) (H : Hp) (y : V) (Q : VK), σ[1]? = some (some y) → ok y → (∀ t : Str, Q (.str t) H) → targ σ H Q) :
    FnOk P w K mg base CX0 (k + 1) f fd [("self" : Str), x] (spErr C fld ok) := by
  obtain ⟨oc, od, osl, dV, kV, doc, pm, an, cda, ct, cc, ccl, cdd, ccs, vs0, tf, cl, cld, csl, efd, lk, hcd, hcode, hvs, hcell⟩ := F.ex
  rw [hb] at efd
  subst efd
  refine fn_super lk hcd S F.T hcode hvs hfile hcell F.any F.sup F.subV F.mro hpar har hks htop F.z he (fun _ => hsw _) hev (fun vs H Q E ⟨a, y, e, _⟩ => by rw [e]; rfl) (fun A outer s H vs Q E hr h => ?_)
  obtain ⟨a, y, e, ea, oy, q⟩ := h
  subst e
  have vx : ∀ z : Str, z ∈ [("self" : Str), x] → Vis (defScope st) z := fun z hz => .inl (S.par z hz)
  refine ⟨a, [y], _, _, rfl, ea, pa_cons (harg _ rfl rfl) pa_nil (by rw [he] <;> first | rfl | simp [starEach]), pss_one (ps_ost (pe_var (i := 0) rfl (vx _ List.mem_cons_self)) (pe_var (i := 1) rfl (vx _ (List.mem_cons_of_mem _ List.mem_cons_self)) hx hx2) (hsw2 _)), ?_⟩
  refine htarg _ _ y _ rfl oy fun t => ?_
  show _ ∧ _
  refine ⟨by simp, ea, y, rfl, .ref a, rfl, a, C, rfl, F.T, F.no, .inl ⟨ea, fun dx hn hd => q dx hn hd⟩⟩
/-- C(e) -/
def tErr (C : Addr) (fld : Str) (ok : V → Prop) (ta : TA) : L2.St → Hp → XK → Prop := fun σ H Q => ta σ H fun vs H1 => ∃ y, vs = [y] ∧ ok y ∧ ∀ d, H1 d = none → Q (.ref C) (some d) (upd H1 d (.xd [(fld, y)]))
theorem pmk_err {X : Cx} {nm : Str} {e : Expr} {es : List Expr} {ta : TA} {p pos : Pos} (F : ErrF X.K X.mg C f fd qual st file fld) (G : FnOk X.prog X.w X.K X.mg X.base CX0 k f fd [("self" : Str), x] (spErr C fld ok)) (hb : Binds X.K fd [("self" : Str), x] [])
    (hr : Room (k + 1) X.A) (hg : Gl X nm) (hm : X.mg nm = some (.ref C)) (ha : PA X (e :: es) ta)
    (hdb : (nm == ("__debug__" : Str)) = false := by decide) (he : starEach (e :: es) X.env = (false, eval e X.env) :: starEach es X.env := by rfl) (hpl : (backTo pos (starEach es X.env)).any (·.1) = false := by rfl) :
    PMk X (.Call (.Name nm p) (e :: es) [] pos) (tErr C fld ok ta) := by
  intro pins s σ H Q I h
  have ha' : PA X (e :: es) (fun σ H Q => ∃ Q', ta σ H Q' ∧ ∀ vs H1, Q' vs H1 → Q vs H1) := ⟨fun pos pins s σ H Q I ⟨Q', q, m⟩ => thn (ha.run pos pins s σ H Q' I q) fun us s1 ⟨vs, H1, J, r, z⟩ => ⟨vs, H1, J, r, m _ _ z⟩⟩
  refine pmk_oex F.T F.iC F.tI G hr hb .nil pass0 hg hm ha' hdb he hpl pins s σ H Q I ⟨_, h, fun vs H1 z => ?_⟩
  obtain ⟨y, rfl, oy, q⟩ := z
  refine ⟨by simp, fun a hna => ?_⟩
  show spErr C fld ok [.ref a, y] _ _ _
  refine ⟨a, y, rfl, upd_same, oy, fun dx hd hn => ⟨rfl, dx, [(fld, y)], upd_same, ?_, ?_, ?_⟩⟩
  · rw [upd_ne hn, upd_same]
  · rw [upd_ne hn] at hd
    exact hd
  · rw [upd_ne hn] at hd
    have e : upd (del (upd (upd (upd H1 a (exo a C none)) dx (exd dx [(fld, y)])) a (exo a C (some dx))) a) dx (.xd [(fld, y)]) = upd H1 dx (.xd [(fld, y)]) := by
      funext b
      by_cases h1 : b = dx
      · rw [h1, upd_same, upd_same]
      · rw [upd_ne h1, upd_ne h1]
        by_cases h2 : b = a
        · rw [h2, del_same, hna]
        · rw [del_ne h2, upd_ne h2, upd_ne h1, upd_ne h2]
    rw [e]
    exact q dx hd
end
end Mine
set_option Elab.async false
set_option linter.all false
set_option maxRecDepth 100000
set_option maxHeartbeats 2000000
/-! Rules of my own over the hand layer: operators, ==, str of own instances; a call that makes an instance within a try; isinstance of a held error with several classes. -/
namespace Mine
open PySem PySem.Spec PyProof.Rows L2
section
variable {X : Cx} {CX : CXT} {C f : Addr} {fd : FuncData} {ps : List Str} {sp : Sp} {E : XK} {n : Nat}

/-- a binary operator of two instances of one class -/
def rOwn (C : Addr) (sp : Sp) (E : XK) : R2 := fun x y H Q => ∃ a b dx dy fs gs, x = .ref a ∧ y = .ref b ∧ H a = some (.ins C dx fs) ∧ H b = some (.ins C dy gs) ∧ sp [.ref a, .ref b] H Q E
theorem op_own {op : Operator} (F : FnOk X.prog X.w X.K X.mg X.base CX n f fd ps sp) (hr : Room n X.A) (hb : Binds X.K fd ps []) (hx : Passes CX X E)
    (hc : PySem.W.selfFirst X.K C = true) (hs : PySem.W.findIn X.K (.ref C) (PySem.dunder op.info.2) = some (some (.ref f))) (hf : PySem.W.isFn X.K (.ref f) = true) : OpR X (binaryOp op) (rOwn C sp E) := by
  intro pins s σ H x y v u Q I rx ry h
  obtain ⟨a, b, dx, dy, fs, gs, rfl, rfl, ha, hb', q⟩ := h
  cases rx
  cases ry
  obtain ⟨mA, J, _⟩ := ins_get I.hok ha
  obtain ⟨mB, J', _⟩ := ins_get I.hok hb'
  obtain ⟨od, J, _⟩ := J.look
  obtain ⟨od', J', _⟩ := J'.look
  obtain ⟨m, hF⟩ := I.fr
  refine PySem.W.binop_K hF I.ok.mod.kin J J'.type hc hs hf ?_
  have r2 : Vals [V.ref a, V.ref b] [Value.ref a, Value.ref b] := .cons rfl (.cons rfl .nil)
  refine wpAny_mono (run_fn (dvs := []) (ds := []) F hr hb .nil hx I r2 (by simpa using q)) (fun v s' hv => ?_) fun _ _ z => z
  obtain ⟨z, H', I', rz, q'⟩ := hv
  exact SlX.cmpback rz ⟨z, H', I', rz, q'⟩

/-- == of two instances of one class with an own __eq__ -/
theorem op_ownEq (F : FnOk X.prog X.w X.K X.mg X.base CX n f fd ps sp) (hr : Room n X.A) (hb : Binds X.K fd ps []) (hx : Passes CX X E)
    (hs : PySem.W.findIn X.K (.ref C) "__eq__" = some (some (.ref f))) (hf : PySem.W.isFn X.K (.ref f) = true) : OpR X (compareOp .Eq) (rOwn C sp E) := by
  intro pins s σ H x y v u Q I rx ry h
  obtain ⟨a, b, dx, dy, fs, gs, rfl, rfl, ha, hb', q⟩ := h
  cases rx
  cases ry
  obtain ⟨mA, J, _⟩ := ins_get I.hok ha
  obtain ⟨mB, J', _⟩ := ins_get I.hok hb'
  obtain ⟨od, J, _⟩ := J.look
  obtain ⟨od', J', _⟩ := J'.look
  obtain ⟨m, hF⟩ := I.fr
  show wpAny (model X.prog X.w) X.A (richCompare .Eq _ _) (EP X pins σ Q) X.xe s
  refine PySem.W.cmp_K (op := .Eq) (tb := .ref C) hr.units0 hF I.ok.mod.kin J J'.type (by simp [PySem.W.notFirst]) hs hf ?_
  have r2 : Vals [V.ref a, V.ref b] [Value.ref a, Value.ref b] := .cons rfl (.cons rfl .nil)
  refine wpAny_mono (run_fn (dvs := []) (ds := []) F hr hb .nil hx I r2 (by simpa using q)) (fun v s' hv => ?_) fun _ _ z => z
  obtain ⟨z, H', I', rz, q'⟩ := hv
  exact SlX.cmpback rz ⟨z, H', I', rz, q'⟩

theorem strback {P : Value → Shared → Prop} {z : Str} {v : Value} {s' : Shared} (r : RelV (.str z) v) (h : P v s') : PySem.W.StrBack P v s' := by
  obtain ⟨t, rfl⟩ := r
  exact h
/-- str(x) of an instance with an own __str__ -/
def rStrOwn (C : Addr) (sp : Sp) (E : XK) : List V → Hp → VK → Prop := fun xs H Q => ∃ a dx fs, xs = [.ref a] ∧ H a = some (.ins C dx fs) ∧ sp [.ref a] H (fun v H' => ∃ z, v = .str z ∧ Q (.str z) H') E
theorem call_strOwn (F : FnOk X.prog X.w X.K X.mg X.base CX n f fd ps sp) (hr : Room (n + 2) X.A) (hb : Binds X.K fd ps []) (hx : Passes CX X E)
    (hs : PySem.W.findIn X.K (.ref C) "__str__" = some (some (.ref f))) (hf : PySem.W.isFn X.K (.ref f) = true) : CallR X (.type "str") (rStrOwn C sp E) := by
  intro pins s σ H xs us Q I r h
  obtain ⟨a, dx, fs, rfl, ha, q⟩ := h
  obtain ⟨u, rfl, ru⟩ := vals1 r
  cases ru
  obtain ⟨mA, J, _⟩ := ins_get I.hok ha
  obtain ⟨od, J, _⟩ := J.look
  have hr2 : Room n X.A.in1.in1 := hr.in1.in1
  refine PySem.W.kso_call hr2.units0 I.kIn J hs hf ?_
  have e0 : Env0 X.prog X.w X.K X.mg X.base X.A.in1.in1 X.stack s H := by
    have e := I.env0
    exact ⟨e.frames, e.mod, e.bs, e.bsz, e.funs, e.frf, e.hok, e.bare⟩
  have hl := F.len _ _ _ _ q
  have r2 : Vals [V.ref a] [Value.ref a] := .cons rfl .nil
  refine wpAny_call (codeAny_mono (F.run _ X.stack s H ⟨[.ref a], []⟩ [.ref a] [.ref a] _ E hr2 e0 (by
    have := hb s [.ref a] I.kIn (by simpa using hl)
    simpa using this) r2 q) fun r s' hq => ?_)
  cases r with
  | error e => exact hx pins σ H s e s' I hq
  | ok fl =>
    cases fl with
    | ret w =>
      obtain ⟨z, H', I', rz, z', ez, q'⟩ := I.after hq
      subst ez
      exact strback rz ⟨.str z', H', I', rz, q'⟩
    | next => exact False.elim hq
    | brk => exact False.elim hq
    | cont => exact False.elim hq
end

/-! ### C(e, ..) that may raise, within a try body -/
section
variable {X : Cx} {CX : CXT} {k : Nat} {f C : Addr} {fd : FuncData} {ps : List Str} {sp : Sp} {E : L2.St → XK} {x : Str} {p pos : Pos} {e : Expr} {es : List Expr} {t : TA}
theorem run_makeS {pins : List (Addr × Obj)} {σ : L2.St} {H : Hp} {s : Shared} {Q : VK} {us : List Value} {vs : List V} (M : Mk X.K C f) (F : FnOk X.prog X.w X.K X.mg X.base CX k f fd ps sp) (hr : Room (k + 1) X.A) (hb : Binds X.K fd ps [])
    (hx : PassesAt CX X σ (E σ)) (I : Inv X pins σ H s) (r : Vals vs us)
    (h : ∀ x dx, H x = none → H dx = none → dx ≠ x → sp (.ref x :: vs) (upd (upd H dx (.own x)) x (.ins C dx [])) (fun v H2 => v = .non ∧ Q (.ref x) H2) (E σ)) :
    wpAny (model X.prog X.w) X.A (call (.ref C) us) (EP X pins σ Q) X.xe s := by
  have hq := h (s.heap.objs.size + 1) s.heap.objs.size (I.hok.fresh (Nat.le_succ _)) (I.hok.fresh (Nat.le_refl _)) (Nat.ne_of_lt (Nat.lt_succ_self _))
  have I2 := Inv.made (C := C) I
  have r2 : Vals (V.ref (s.heap.objs.size + 1) :: vs) (Value.ref (s.heap.objs.size + 1) :: us) := .cons rfl r
  have hl : (Value.ref (s.heap.objs.size + 1) :: us ++ []).length = ps.length := by
    have e := r2.length
    rw [F.len _ _ _ _ hq] at e
    rw [List.append_nil]
    exact e.symm
  refine wpAny_call ((make_map (f := f) I.kIn M.makes M.init (beq_iff_eq.mp M.fn) (codeAny_mono (F.run _ X.stack _ _ ⟨Value.ref (s.heap.objs.size + 1) :: us, []⟩ (Value.ref (s.heap.objs.size + 1) :: us) _ _ (E σ) (hr.make C us [])
    (I2.env0.make C us []) (by have z := hb _ (Value.ref (s.heap.objs.size + 1) :: us) I2.kIn hl; rw [List.append_nil] at z; exact z) r2 hq) fun r s' hq' => ?_)))
  cases r with
  | error e => exact hx pins _ _ e s' I2 hq'
  | ok fl =>
    cases fl with
    | ret u =>
      obtain ⟨v, H', I3, rv, ev, q3⟩ := I2.after hq'
      subst ev
      exact ⟨rv, ⟨V.ref (s.heap.objs.size + 1), H', I3, rfl, q3⟩⟩
    | next => exact False.elim hq'
    | brk => exact False.elim hq'
    | cont => exact False.elim hq'
end
/-- C(e, ..) within a try body -/
def tMakeS (C : Addr) (sp : Sp) (E : L2.St → XK) (t : TA) : TE := fun σ H Q => t σ H fun vs H1 => ∀ x dx, H1 x = none → H1 dx = none → dx ≠ x →
  sp (.ref x :: vs) (upd (upd H1 dx (.own x)) x (.ins C dx [])) (fun v H2 => v = .non ∧ Q (.ref x) H2) (E σ)
section
variable {X : Cx} {CX : CXT} {k : Nat} {f C : Addr} {fd : FuncData} {ps : List Str} {sp : Sp} {E : L2.St → XK} {x : Str} {p pos : Pos} {e : Expr} {es : List Expr} {t : TA}
theorem pe_makeS (M : Mk X.K C f) (F : FnOk X.prog X.w X.K X.mg X.base CX k f fd ps sp) (hr : Room (k + 1) X.A) (hg : Gl X x) (hm : X.mg x = some (.ref C)) (hb : L2.Binds X.K fd ps []) (hx : ∀ σ, PassesAt CX X σ (E σ))
    (ha : PA X (e :: es) t) (hdb : (x == ("__debug__" : Str)) = false := by decide) (he : starEach (e :: es) X.env = (false, eval e X.env) :: starEach es X.env := by rfl) (hpl : (backTo pos (starEach es X.env)).any (·.1) = false := by rfl) :
    PE X (.Call (.Name x p) (e :: es) [] pos) (tMakeS C sp E t) := by
  refine ⟨fun pins s σ H Q I h => ?_⟩
  refine wpAny_Call_Name_kw (ld_glob I hg hm ?_ hdb)
  refine PySem.W.callWith_K (h₀ := X.base) I.ok.mod.kin M.kp (thn (ha.run pos pins s σ H _ I h) fun us s1 ⟨vs, H1, I1, r, q⟩ => ⟨I1.kIn, ?_⟩) he hpl
  exact run_makeS M F hr hb (hx σ) I1 r q
end

/-! ### isinstance of the error that a suite holds -/
def rIsE1 (K : PySem.W.Frag) (D a : Addr) (cls : Value) (d : Option Addr) : List V → Hp → VK → Prop := fun xs H Q => ∃ (c : V) (cv : Value) (b : Bool), xs = [.ref a, c] ∧ cls = .ref D ∧ d = none ∧ (∀ u, RelV c u → u = cv) ∧ PySem.W.kitOne K (.ref D) cv = some b ∧ Q (.bl b) H
def rIsET (K : PySem.W.Frag) (D a : Addr) (cls : Value) (d : Option Addr) : List V → Hp → VK → Prop := fun xs H Q => ∃ (tp : Addr) (cs : List V) (us : List Value) (b : Bool), xs = [.ref a, .ref tp] ∧ cls = .ref D ∧ d = none ∧ H tp = some (.tup cs) ∧ Paired ClsV cs us ∧ PySem.W.kitAny K (.ref D) us = some b ∧ Q (.bl b) H
section
variable {X : Cx} {a D : Addr} {oe : Obj} {pn : List (Addr × Obj)} {cls : Value} {d : Option Addr}
theorem call_isE1 (C : ExcC X.K D) (hz : Zc cls d oe) (hf : ∃ vs, oe.data = .fields vs) : CallR (X.suite a ((a, oe) :: pn)) (.builtin "isinstance") (rIsE1 X.K D a cls d) := by
  intro pins s σ H xs us Q I r h
  obtain ⟨c, cv, b, e1, rfl, rfl, hcv, e, q⟩ := h
  exact call_isE C hz hf pins s σ H xs us Q I r ⟨c, cv, b, e1, hcv, e, q⟩
theorem call_isET (C : ExcC X.K D) (hz : Zc cls d oe) (hf : ∃ vs, oe.data = .fields vs) : CallR (X.suite a ((a, oe) :: pn)) (.builtin "isinstance") (rIsET X.K D a cls d) := by
  intro pins s σ H xs us Q I r h
  obtain ⟨tp, cs, ws, b, rfl, rfl, rfl, hT, k, e, q⟩ := h
  obtain ⟨u1, u2, rfl, r1, r2⟩ := vals2 r
  cases (show u1 = Value.ref a from r1)
  cases (show u2 = Value.ref tp from r2)
  obtain ⟨hget, _⟩ := I.pin (a, oe) (List.mem_append.mpr (.inl List.mem_cons_self))
  obtain ⟨vs, hv⟩ := hf
  have J : PySem.W.InstAt s.heap a oe D none := by
    obtain ⟨oc, od, oda, osl⟩ := oe
    obtain ⟨h1, h2⟩ := hz
    dsimp only at h1 h2 hv
    subst h1 h2 hv
    exact ⟨hget, rfl, rfl, trivial⟩
  obtain ⟨_, its, rv, o, h1, h2, n, h3⟩ := (show ObjOk X.prog X.w H s.heap tp (.tup cs) from I.hok tp _ hT)
  have e3 := ClsV.all k rv
  subst e3
  obtain ⟨oc, od, dt, sl⟩ := o
  simp only at h2 h3
  subst h2 h3
  exact PySem.W.kia_tup (PySem.W.handS_kitx_exc C.hg C.hk C.hs C.hd C.ha C.hn C.ht C.hm) I.kIn J h1 e (fun z => nomatch z) fun tk => ⟨.bl b, H, I.kept (t' := tk) fun _ _ z => z, rfl, q⟩
end

/-! ### small words -/
theorem same_new {H : Hp} {p : Addr} (h : H p = none) (o : HO) : Same H (upd H p o) := fun b u q => by rw [upd_ne (ne_of_none q h)]; exact q
theorem same_make {H : Hp} {x dx C : Addr} (nx : H x = none) (nd : H dx = none) : Same H (upd (upd H dx (.own x)) x (.ins C dx [])) := fun b o e => by
  rw [upd_ne (ne_of_none e nx), upd_ne (ne_of_none e nd)]
  exact e
theorem ite_no {c A B : Prop} [Decidable c] (hc : ¬ c) (h : B) : if c then A else B := by rw [if_neg hc]; exact h
theorem ite_yes {c A B : Prop} [Decidable c] (hc : c) (h : A) : if c then A else B := by rw [if_pos hc]; exact h
end Mine
set_option Elab.async false
set_option linter.all false
set_option maxRecDepth 100000
set_option maxHeartbeats 2000000
/-! Games as data: expressions, statements, blocks, games; how they stand in the heap. -/
namespace Gm
open PySem L2
/-! ### data that stands keeps standing -/
theorem same_new {H : Hp} {p : Addr} (h : H p = none) (o : HO) : Same H (upd H p o) := fun b u q => by rw [upd_ne (ne_of_none q h)]; exact q
theorem sqT_mono {K : PySem.W.Frag} {H H' : Hp} {a : Addr} {xs : List V} (e : Same H H') (h : SqT K H a xs) : SqT K H' a xs := by
  rcases h with (h | ⟨o, h⟩) | h
  · exact .inl (.inl (e _ _ h))
  · exact .inl (.inr ⟨o, e _ _ h⟩)
  · exact .inr h
mutual
theorem dp_mono {K : PySem.W.Frag} {H H' : Hp} (s : Same H H') : ∀ (d : PyData) (v : V), Dp K H v d → Dp K H' v d
  | .none, _, h => by cases h; exact .non
  | .bool b, _, h => by cases h; exact .bl b
  | .int i, _, h => by cases h; exact .int i
  | .str x, _, h => by cases h; exact .str x
  | .list ds, _, h => by
    cases h with
    | lst hs ha => exact .lst (s.seq hs) (dp_monoAll s ds _ ha)
  | .tuple ds, _, h => by
    cases h with
    | tup hs ha => exact .tup (sqT_mono s hs) (dp_monoAll s ds _ ha)
  | .dict _, _, h => by cases h
theorem dp_monoAll {K : PySem.W.Frag} {H H' : Hp} (s : Same H H') : ∀ (ds : List PyData) (vs : List V), DpAll K H vs ds → DpAll K H' vs ds
  | [], _, h => by cases h; exact .nil
  | d :: ds, _, h => by
    cases h with
    | cons h1 h2 => exact .cons (dp_mono s d _ h1) (dp_monoAll s ds _ h2)
end
section
variable {K : PySem.W.Frag} {H : Hp}
theorem DpAll.len : ∀ {vs : List V} {ds : List PyData}, DpAll K H vs ds → vs.length = ds.length
  | _, _, .nil => rfl
  | _, _, .cons _ t => congrArg Nat.succ (DpAll.len t)
theorem DpAll.app : ∀ {vs ws : List V} {ds es : List PyData}, DpAll K H vs ds → DpAll K H ws es → DpAll K H (vs ++ ws) (ds ++ es)
  | _, _, _, _, .nil, q => q
  | _, _, _, _, .cons h t, q => .cons h (DpAll.app t q)
theorem DpAll.get : ∀ {vs : List V} {ds : List PyData} {i : Nat} {d : PyData}, DpAll K H vs ds → ds[i]? = some d → ∃ v, vs[i]? = some v ∧ Dp K H v d
  | _, _, _, _, .nil, e => by simp at e
  | _, _, 0, _, .cons h _, e => by simp at e; subst e; exact ⟨_, rfl, h⟩
  | _, _, i + 1, _, .cons _ t, e => by
    obtain ⟨v, h1, h2⟩ := DpAll.get (i := i) t (by simpa using e)
    exact ⟨v, by simpa using h1, h2⟩
theorem dp_strs : ∀ xs : List Str, DpAll K H (xs.map V.str) (xs.map PyData.str)
  | [] => .nil
  | x :: xs => .cons (.str x) (dp_strs xs)
/-- a new tuple of data -/
theorem dp_tup {p : Addr} {vs : List V} {ds : List PyData} (hp : H p = none) (h : DpAll K H vs ds) : Dp K (upd H p (.tup vs)) (.ref p) (.tuple ds) := .tup (SqT.of upd_same) (dp_monoAll (same_new hp _) _ _ h)
end
/-! ### rules whose written part is named (within comprehensions) -/
section
variable {X : Cx}
theorem ixlK (K : PySem.W.Frag) (h : X.K = K) : IxR X (rIxL K) := by subst h; exact ix_list
theorem ixtK (K : PySem.W.Frag) (h : X.K = K) : IxR X (rIxT K) := by subst h; exact ix_tup
theorem lenK (K : PySem.W.Frag) (h : X.K = K) : CallR X (.builtin "len") (fun xs H Q => ∃ p ys, xs = [.ref p] ∧ (SqL K H p ys ∨ SqT K H p ys) ∧ Q (.int ys.length) H) := by subst h; exact call_len_seq
theorem inK (K : PySem.W.Frag) (h : X.K = K) : OpR X (compareOp .In) (rIn K false) := by subst h; exact op_in_seq
theorem eqDK (K : PySem.W.Frag) (h : X.K = K) (hu : X.A.units + 64 < cLine) : OpR X (compareOp .Eq) (rEqD K) := by subst h; exact op_eqD hu
theorem neDK (K : PySem.W.Frag) (h : X.K = K) (hu : X.A.units + 64 < cLine) : OpR X (compareOp .NotEq) (rNeD K) := by subst h; exact op_neD hu
theorem slLK (K : PySem.W.Frag) (h : X.K = K) : SlR X (rSlL K) := by subst h; exact sl_list
theorem slTK (K : PySem.W.Frag) (h : X.K = K) : SlR X (rSlA K) := by subst h; exact sl_tupA
end
/-! ### data without lists: it stands as long as the tuples stand -/
mutual
def nol : PyData → Bool
  | .list _ => false
  | .dict _ => false
  | .tuple ds => nolAll ds
  | _ => true
def nolAll : List PyData → Bool
  | [] => true
  | d :: ds => nol d && nolAll ds
end
theorem nolAll_app : ∀ (xs ys : List PyData), nolAll (xs ++ ys) = (nolAll xs && nolAll ys)
  | [], ys => by show nolAll ys = (nolAll [] && nolAll ys); unfold nolAll; rw [Bool.true_and]; all_goals rfl
  | x :: xs, ys => by show (nol x && nolAll (xs ++ ys)) = ((nol x && nolAll xs) && nolAll ys); rw [nolAll_app xs ys, Bool.and_assoc]
theorem nolAll_strs : ∀ xs : List Str, nolAll (xs.map PyData.str) = true
  | [] => rfl
  | x :: xs => by show (nol (.str x) && nolAll (xs.map PyData.str)) = true; rw [nolAll_strs xs]; rfl
/-- tuples and what is locked stand -/
def Tups (H H' : Hp) : Prop := ∀ b o, H b = some o → ((∃ xs, o = .tup xs) ∨ ∃ ob u, o = .frz ob u) → H' b = some o
theorem Tups.of {H H' : Hp} (s : Same H H') : Tups H H' := fun b o e _ => s b o e
theorem Tups.refl (H : Hp) : Tups H H := fun _ _ e _ => e
theorem Tups.trans {H H1 H2 : Hp} (a : Tups H H1) (b : Tups H1 H2) : Tups H H2 := fun c o e k => b c o (a c o e k) k
theorem Tups.lst {H : Hp} {l : Addr} {xs : List V} {o : HO} (h : H l = some (.lst xs)) : Tups H (upd H l o) := fun b u e k => by
  rw [upd_ne]
  · exact e
  · intro z
    subst z
    rw [h] at e
    cases e
    rcases k with ⟨_, z⟩ | ⟨_, _, z⟩ <;> cases z
theorem sqT_tups {K : PySem.W.Frag} {H H' : Hp} {a : Addr} {xs : List V} (e : Tups H H') (h : SqT K H a xs) : SqT K H' a xs := by
  rcases h with (h | ⟨o, h⟩) | h
  · exact .inl (.inl (e _ _ h (.inl ⟨_, rfl⟩)))
  · exact .inl (.inr ⟨o, e _ _ h (.inr ⟨_, _, rfl⟩)⟩)
  · exact .inr h
mutual
theorem dp_tups {K : PySem.W.Frag} {H H' : Hp} (s : Tups H H') : ∀ (d : PyData) (v : V), nol d = true → Dp K H v d → Dp K H' v d
  | .none, _, _, h => by cases h; exact .non
  | .bool b, _, _, h => by cases h; exact .bl b
  | .int i, _, _, h => by cases h; exact .int i
  | .str x, _, _, h => by cases h; exact .str x
  | .list ds, _, n, h => by unfold nol at n; cases n
  | .tuple ds, _, n, h => by
    unfold nol at n
    cases h with
    | tup hs ha => exact .tup (sqT_tups s hs) (dp_tupsAll s ds _ n ha)
  | .dict _, _, _, h => by cases h
theorem dp_tupsAll {K : PySem.W.Frag} {H H' : Hp} (s : Tups H H') : ∀ (ds : List PyData) (vs : List V), nolAll ds = true → DpAll K H vs ds → DpAll K H' vs ds
  | [], _, _, h => by cases h; exact .nil
  | d :: ds, _, n, h => by
    unfold nolAll at n
    rw [Bool.and_eq_true] at n
    cases h with
    | cons h1 h2 => exact .cons (dp_tups s d _ n.1 h1) (dp_tupsAll s ds _ n.2 h2)
end
/-! ### expressions and statements -/
inductive Ex where
  | num (n : Int) | loc (x : Str) | var (x : Str) | has (t : Str) (e : Ex) | cell (t : Str) (e : Ex) | op (o : Str) (a b : Ex)
mutual
inductive Stm where
  | set (x : Str) (e : Ex) | lt (l : Str) (e : Ex) | draw (l : Str) (n : Int) | put (t : Str) (e f : Ex) | lot (l o : Str) (e : Ex) | ask (l p : Str) (e : Ex) | ite (e : Ex) (a b : Blk) | bad | after (a : Blk)
inductive Blk where
  | nil | cons (s : Stm) (r : Blk)
end
def Ex.d : Ex → PyData
  | .num n => .tuple [.str "number", .int n]
  | .loc x => .tuple [.str "local", .str x]
  | .var x => .tuple [.str "variable", .str x]
  | .has t e => .tuple [.str "has", .str t, e.d]
  | .cell t e => .tuple [.str "cell", .str t, e.d]
  | .op o a b => .tuple [.str o, a.d, b.d]
mutual
def Stm.d : Stm → PyData
  | .set x e => .tuple [.str "set", .str x, e.d]
  | .lt l e => .tuple [.str "let", .str l, e.d]
  | .draw l n => .tuple [.str "draw", .str l, .int n]
  | .put t e f => .tuple [.str "put", .str t, e.d, f.d]
  | .lot l o e => .tuple [.str "lot", .str l, .str o, e.d]
  | .ask l p e => .tuple [.str "ask", .str l, .str p, e.d]
  | .ite e a b => .tuple [.str "if", e.d, .tuple a.ds, .tuple b.ds]
  | .bad => .tuple [.str "bad"]
  | .after a => .tuple [.str "after", .tuple a.ds]
def Blk.ds : Blk → List PyData
  | .nil => []
  | .cons s r => s.d :: r.ds
end
def Blk.d (b : Blk) : PyData := .tuple b.ds
theorem Ex.nol : ∀ e : Ex, nol e.d = true
  | .num n => rfl
  | .loc x => rfl
  | .var x => rfl
  | .has t e => by show (Gm.nol (.str "has") && (Gm.nol (.str t) && (Gm.nol e.d && nolAll []))) = true; rw [Ex.nol e]; rfl
  | .cell t e => by show (Gm.nol (.str "cell") && (Gm.nol (.str t) && (Gm.nol e.d && nolAll []))) = true; rw [Ex.nol e]; rfl
  | .op o a b => by show (Gm.nol (.str o) && (Gm.nol a.d && (Gm.nol b.d && nolAll []))) = true; rw [Ex.nol a, Ex.nol b]; rfl
mutual
theorem Stm.nol : ∀ x : Stm, nol x.d = true
  | .set x e => by unfold Stm.d; show (Gm.nol (.str "set") && (Gm.nol (.str x) && (Gm.nol e.d && nolAll []))) = true; rw [Ex.nol e]; rfl
  | .lt x e => by unfold Stm.d; show (Gm.nol (.str "let") && (Gm.nol (.str x) && (Gm.nol e.d && nolAll []))) = true; rw [Ex.nol e]; rfl
  | .draw l n => by unfold Stm.d; rfl
  | .put t e f => by unfold Stm.d; show (Gm.nol (.str "put") && (Gm.nol (.str t) && (Gm.nol e.d && (Gm.nol f.d && nolAll [])))) = true; rw [Ex.nol e, Ex.nol f]; rfl
  | .lot l o e => by unfold Stm.d; show (Gm.nol (.str "lot") && (Gm.nol (.str l) && (Gm.nol (.str o) && (Gm.nol e.d && nolAll [])))) = true; rw [Ex.nol e]; rfl
  | .ask l p e => by unfold Stm.d; show (Gm.nol (.str "ask") && (Gm.nol (.str l) && (Gm.nol (.str p) && (Gm.nol e.d && nolAll [])))) = true; rw [Ex.nol e]; rfl
  | .ite e a b => by unfold Stm.d; show (Gm.nol (.str "if") && (Gm.nol e.d && (nolAll a.ds && (nolAll b.ds && nolAll [])))) = true; rw [Ex.nol e, Blk.nol a, Blk.nol b]; rfl
  | .bad => by unfold Stm.d; rfl
  | .after a => by unfold Stm.d; show (Gm.nol (.str "after") && (nolAll a.ds && nolAll [])) = true; rw [Blk.nol a]; rfl
theorem Blk.nol : ∀ b : Blk, nolAll b.ds = true
  | .nil => by unfold Blk.ds; rfl
  | .cons s r => by unfold Blk.ds; show (Gm.nol s.d && nolAll r.ds) = true; rw [Stm.nol s, Blk.nol r]; rfl
end
def Blk.of : List Stm → Blk
  | [] => .nil
  | s :: r => .cons s (Blk.of r)
def Blk.app : Blk → Blk → Blk
  | .nil, c => c
  | .cons s r, c => .cons s (r.app c)
theorem Blk.ds_app : ∀ (b c : Blk), (b.app c).ds = b.ds ++ c.ds
  | .nil, c => by rw [Blk.app, Blk.ds]; rfl
  | .cons s r, c => by rw [Blk.app, Blk.ds, Blk.ds, Blk.ds_app r c]; rfl
def Ex.dep : Ex → Nat
  | .num _ => 1
  | .loc _ => 1
  | .var _ => 1
  | .has _ e => e.dep + 1
  | .cell _ e => e.dep + 1
  | .op _ a b => max a.dep b.dep + 1
/-! the depth of ifs and afters, 0 without -/
mutual
def Stm.dep : Stm → Nat
  | .ite _ a b => max a.dep b.dep + 1
  | .after a => a.dep + 1
  | _ => 0
def Blk.dep : Blk → Nat
  | .nil => 0
  | .cons s r => max s.dep r.dep
end
def ops : List Str := ["+", "-", "*", "/", "mod", "<", "="]
/-- the names in scope -/
structure Sc where
  locs : List Str
  vars : List Str
  tabs : List Str
  lots : List Str
  asks : List Str
/-- an expression over the names of a scope, at most k deep -/
def Ex.Ok (s : Sc) : Nat → Ex → Prop
  | 0, _ => False
  | _ + 1, .num n => 0 ≤ n ∧ n ≤ 65535
  | _ + 1, .loc x => x ∈ s.locs
  | _ + 1, .var x => x ∈ s.vars
  | k + 1, .has t e => t ∈ s.tabs ∧ e.Ok s k
  | k + 1, .cell t e => t ∈ s.tabs ∧ e.Ok s k
  | k + 1, .op o a b => o ∈ ops ∧ a.Ok s k ∧ b.Ok s k
theorem Ex.Ok.mono {s : Sc} : ∀ {k j : Nat} {e : Ex}, e.Ok s k → k ≤ j → e.Ok s j
  | 0, _, _, h, _ => h.elim
  | _ + 1, 0, _, _, hj => absurd hj (by omega)
  | _ + 1, _ + 1, .num _, h, _ => h
  | _ + 1, _ + 1, .loc _, h, _ => h
  | _ + 1, _ + 1, .var _, h, _ => h
  | k + 1, j + 1, .has _ _, h, hj => ⟨h.1, h.2.mono (by omega)⟩
  | k + 1, j + 1, .cell _ _, h, hj => ⟨h.1, h.2.mono (by omega)⟩
  | k + 1, j + 1, .op _ _ _, h, hj => ⟨h.1, h.2.1.mono (by omega), h.2.2.mono (by omega)⟩
/-! a statement over a scope: expressions at most k deep, ifs and afters at most d deep -/
mutual
def Stm.Ok (s : Sc) (k : Nat) : Nat → Stm → Prop
  | _, .set x e => x ∈ s.vars ∧ e.Ok s k
  | _, .lt l e => l ∈ s.locs ∧ e.Ok s k
  | _, .draw l n => l ∈ s.locs ∧ 1 ≤ n ∧ n ≤ 64
  | _, .put t e f => t ∈ s.tabs ∧ e.Ok s k ∧ f.Ok s k
  | _, .lot l o e => l ∈ s.locs ∧ o ∈ s.lots ∧ e.Ok s k
  | _, .ask l p e => l ∈ s.locs ∧ p ∈ s.asks ∧ e.Ok s k
  | 0, .ite _ _ _ => False
  | d + 1, .ite e a b => e.Ok s k ∧ a.Ok s k d ∧ b.Ok s k d
  | _, .bad => True
  | 0, .after _ => False
  | d + 1, .after a => a.Ok s k d
def Blk.Ok (s : Sc) (k : Nat) : Nat → Blk → Prop
  | _, .nil => True
  | d, .cons x r => x.Ok s k d ∧ r.Ok s k d
end
def Blk.len : Blk → Nat
  | .nil => 0
  | .cons _ r => r.len + 1
theorem Blk.len_ds : ∀ b : Blk, b.ds.length = b.len
  | .nil => by rw [Blk.ds]; rfl
  | .cons s r => by rw [Blk.ds, Blk.len, List.length_cons, Blk.len_ds r]
theorem Blk.len_app : ∀ (b c : Blk), (b.app c).len = b.len + c.len
  | .nil, c => by rw [Blk.app, Blk.len, Nat.zero_add]
  | .cons s r, c => by rw [Blk.app, Blk.len, Blk.len, Blk.len_app r c]; omega
theorem Blk.ok_app {s : Sc} {k d : Nat} : ∀ {b c : Blk}, b.Ok s k d → c.Ok s k d → (b.app c).Ok s k d
  | .nil, c, _, h => by rw [Blk.app]; exact h
  | .cons x r, c, h1, h2 => by
    rw [Blk.app]
    unfold Blk.Ok at h1 ⊢
    exact ⟨h1.1, Blk.ok_app h1.2 h2⟩
/-! ### picks -/
theorem pick_mem {xs : List Str} {r : Int} (h : xs ≠ []) : ∃ x ∈ xs, atI (xs.map V.str) (r % (((xs.map V.str).length : Nat) : Int)) = some (.str x) := by
  have hl : 0 < xs.length := List.length_pos_iff.mpr h
  rw [List.length_map]
  have h0 := Int.emod_nonneg r (by omega : (xs.length : Int) ≠ 0)
  have h1 := Int.emod_lt_of_pos r (by omega : (0 : Int) < xs.length)
  have hk : (r % (xs.length : Int)).toNat < xs.length := by omega
  refine ⟨xs[(r % (xs.length : Int)).toNat], List.getElem_mem hk, ?_⟩
  exact at_of (j := (r % (xs.length : Int)).toNat) (by omega) (by rw [List.getElem?_map, List.getElem?_eq_getElem hk] <;> rfl)
theorem len_pos {xs : List Str} (h : xs ≠ []) : (0 : Int) < (((xs.map V.str).length : Nat) : Int) := by
  rw [List.length_map]
  have := List.length_pos_iff.mpr h
  omega
/-- an item of a written display, whatever the rest -/
theorem pick_disp {vs : List V} {r : Int} {n : Nat} (hn : vs.length = n) (h : 0 < n) : ∃ x ∈ vs, atI vs (r % (n : Int)) = some x := by
  subst hn
  have h0 := Int.emod_nonneg r (by omega : (vs.length : Int) ≠ 0)
  have h1 := Int.emod_lt_of_pos r (by omega : (0 : Int) < vs.length)
  have hk : (r % (vs.length : Int)).toNat < vs.length := by omega
  exact ⟨vs[(r % (vs.length : Int)).toNat], List.getElem_mem hk, at_of (j := (r % (vs.length : Int)).toNat) (by omega) (List.getElem?_eq_getElem hk)⟩
theorem pick_op {r : Int} : ∃ o ∈ ops, atI ([.str "+", .str "-", .str "*", .str "/", .str "mod", .str "<", .str "="] : List V) (r % 7) = some (.str o) := by
  obtain ⟨x, hx, e⟩ := pick_mem (xs := ops) (r := r) (by decide)
  exact ⟨x, hx, e⟩
theorem pick_two {a b : V} {r : Int} : atI ([a, b] : List V) (r % 2) = some a ∨ atI ([a, b] : List V) (r % 2) = some b := by
  have h0 := Int.emod_nonneg r (by decide : (2 : Int) ≠ 0)
  have h1 := Int.emod_lt_of_pos r (by decide : (0 : Int) < 2)
  have : r % 2 = 0 ∨ r % 2 = 1 := by omega
  rcases this with e | e
  · rw [e]; exact .inl rfl
  · rw [e]; exact .inr rfl
theorem and_if {c A B T1 : Prop} [Decidable c] (hB : B) (hT : c → B → T1) : if c then T1 else (if false = true then A else B) := by
  by_cases h : c
  · rw [if_pos h]; exact hT h hB
  · rw [if_neg h, if_neg Bool.false_ne_true]; exact hB
theorem ne_of_len {xs : List Str} (h : decide ((0 : Int) < (((xs.map V.str).length : Nat) : Int)) = true) : xs ≠ [] := by
  intro e
  subst e
  exact absurd (of_decide_eq_true h) (by decide)
/-- an if without an else: what holds behind it, both ways -/
theorem if_rest {b A : Prop} [Decidable b] {D : Ends} {σ : L2.St} {H : Hp} (I : L2.St → Hp → Prop) (rest : ∀ σ H, I σ H → D.nx σ H) (ht : b → (∀ σ H, I σ H → D.nx σ H) → A) (he : ¬ b → I σ H) : if b then A else tNext D σ H := by
  by_cases h : b
  · rw [if_pos h]; exact ht h rest
  · rw [if_neg h]; exact rest σ H (he h)
theorem Blk.ok_nil {s : Sc} {k d : Nat} : Blk.nil.Ok s k d := by unfold Blk.Ok; trivial
theorem Blk.ok_cons {s : Sc} {k d : Nat} {x : Stm} {r : Blk} (h : x.Ok s k d) (hr : r.Ok s k d) : (Blk.cons x r).Ok s k d := by unfold Blk.Ok; exact ⟨h, hr⟩
theorem Stm.ok_ite {s : Sc} {k d : Nat} {e : Ex} {a b : Blk} (h : e.Ok s k) (ha : a.Ok s k d) (hb : b.Ok s k d) : (Stm.ite e a b).Ok s k (d + 1) := by unfold Stm.Ok; exact ⟨h, ha, hb⟩
theorem Stm.ok_after {s : Sc} {k d : Nat} {a : Blk} (ha : a.Ok s k d) : (Stm.after a).Ok s k (d + 1) := by unfold Stm.Ok; exact ha
theorem Stm.ok_bad {s : Sc} {k d : Nat} : Stm.bad.Ok s k d := by cases d <;> (unfold Stm.Ok; trivial)
mutual
theorem Stm.ok_mono {s : Sc} {k : Nat} : ∀ {d e : Nat} {x : Stm}, x.Ok s k d → d ≤ e → x.Ok s k e
  | d, e, .set _ _, h, _ => by unfold Stm.Ok at h ⊢; exact h
  | d, e, .lt _ _, h, _ => by unfold Stm.Ok at h ⊢; exact h
  | d, e, .draw _ _, h, _ => by unfold Stm.Ok at h ⊢; exact h
  | d, e, .put _ _ _, h, _ => by unfold Stm.Ok at h ⊢; exact h
  | d, e, .lot _ _ _, h, _ => by unfold Stm.Ok at h ⊢; exact h
  | d, e, .ask _ _ _, h, _ => by unfold Stm.Ok at h ⊢; exact h
  | d, e, .bad, _, _ => Stm.ok_bad
  | 0, e, .ite _ _ _, h, _ => by unfold Stm.Ok at h; exact h.elim
  | d + 1, 0, .ite _ _ _, h, he => absurd he (by omega)
  | d + 1, e + 1, .ite _ _ _, h, he => by unfold Stm.Ok at h ⊢; exact ⟨h.1, Blk.ok_mono h.2.1 (by omega), Blk.ok_mono h.2.2 (by omega)⟩
  | 0, e, .after _, h, _ => by unfold Stm.Ok at h; exact h.elim
  | d + 1, 0, .after _, h, he => absurd he (by omega)
  | d + 1, e + 1, .after _, h, he => by unfold Stm.Ok at h ⊢; exact Blk.ok_mono h (by omega)
theorem Blk.ok_mono {s : Sc} {k : Nat} : ∀ {d e : Nat} {b : Blk}, b.Ok s k d → d ≤ e → b.Ok s k e
  | d, e, .nil, _, _ => Blk.ok_nil
  | d, e, .cons x r, h, he => by unfold Blk.Ok at h ⊢; exact ⟨Stm.ok_mono h.1 he, Blk.ok_mono h.2 he⟩
end
/-! ### a list of data that grows -/
structure Acc (K : PySem.W.Frag) (H0 H : Hp) (l : Addr) (vs : List V) (ds : List PyData) : Prop where
  s : Same H0 H
  f : H0 l = none
  l : H l = some (.lst vs)
  d : DpAll K H vs ds
  n : nolAll ds = true
section
variable {K : PySem.W.Frag} {H0 H H' : Hp} {l : Addr} {vs : List V} {ds : List PyData} {v : V} {d : PyData}
theorem Acc.start (h : H0 l = none) : Acc K H0 (upd H0 l (.lst [])) l [] [] := ⟨same_new h _, h, upd_same, .nil, rfl⟩
theorem Acc.grow (a : Acc K H0 H l vs ds) (e : Same H H') : Acc K H0 H' l vs ds := ⟨a.s.trans e, a.f, e _ _ a.l, dp_monoAll e _ _ a.d, a.n⟩
theorem Acc.add (a : Acc K H0 H l vs ds) (hd : Dp K H v d) (hn : nol d = true) : Acc K H0 (upd H l (.lst (vs ++ [v]))) l (vs ++ [v]) (ds ++ [d]) := by
  have tp : Tups H (upd H l (.lst (vs ++ [v]))) := Tups.lst a.l
  refine ⟨fun b o e => by rw [upd_ne (ne_of_none e a.f)]; exact a.s _ _ e, a.f, upd_same, DpAll.app (dp_tupsAll tp _ _ a.n a.d) (.cons (dp_tups tp _ _ hn hd) .nil), ?_⟩
  rw [nolAll_app, a.n]
  show (true && (nol d && nolAll [])) = true
  rw [hn]
  rfl
theorem Acc.len (a : Acc K H0 H l vs ds) : vs.length = ds.length := DpAll.len a.d
end
/-! ### a slice of a tuple, whichever it is -/
def rSlB (K : PySem.W.Frag) : V → Option Int → Option Int → Hp → VK → Prop := fun x lo hi H Q => ∃ a xs, x = .ref a ∧ SqT K H a xs ∧ ∀ p H', Same H H' → SqT K H' p (cutV xs lo hi) → Q (.ref p) H'
theorem slTB {X : Cx} (K : PySem.W.Frag) (h : X.K = K) : SlR X (rSlB K) := by
  subst h
  intro pins s σ H x v vl vu lo hi sl Q I rx hs pl pu h
  obtain ⟨a, xs, rfl, hx, q⟩ := h
  refine sl_tupA pins s σ H _ v vl vu lo hi sl Q I rx hs pl pu ⟨a, xs, rfl, hx, fun w => q a H (Same.refl _) ?_, fun _ p hp => q p _ (same_new hp _) (SqT.of upd_same)⟩
  have e : cutV xs lo hi = xs := by
    unfold cutV
    rw [w.1, w.2, List.drop_zero, Nat.sub_zero, List.take_length]
  rw [e]
  exact hx
theorem cut3 {r : Int} (h0 : 0 ≤ r) (h1 : r < 2) : cutV [.str "g", .str "a", .str "b"] none (some (2 + r)) = ([("g" : Str), "a"]).map V.str ∨ cutV [.str "g", .str "a", .str "b"] none (some (2 + r)) = ([("g" : Str), "a", "b"]).map V.str := by
  have : r = 0 ∨ r = 1 := by omega
  rcases this with rfl | rfl
  · exact .inl rfl
  · exact .inr rfl
theorem take_more {α : Type} : ∀ {l : List α} {i : Nat} {x : α}, l[i]? = some x → l.take (i + 1) = l.take i ++ [x]
  | [], i, x, h => by simp at h
  | a :: l, 0, x, h => by
    have e : a = x := Option.some.inj h
    subst e
    rfl
  | a :: l, i + 1, x, h => by
    have ih := take_more (l := l) (i := i) (x := x) h
    show a :: l.take (i + 1) = a :: l.take i ++ [x]
    rw [ih]
    rfl
theorem str_at {xs : List Str} {i : Nat} (h : i < (((xs.map V.str).length : Nat) : Int).toNat) : ∃ x, xs[i]? = some x ∧ atI (xs.map V.str) (0 + (i : Int)) = some (.str x) := by
  rw [List.length_map] at h
  have hi : i < xs.length := by omega
  exact ⟨xs[i], List.getElem?_eq_getElem hi, at_of (j := i) (by omega) (by rw [List.getElem?_map, List.getElem?_eq_getElem hi] <;> rfl)⟩
/-! ### games -/
structure Pr where
  name : Str
  size : Int
  ans : Int
  locs : List Str
  block : Blk
  res : Ex
structure Ga where
  vars : List (Str × Int × Int)
  tabs : List (Str × Int × Int)
  lots : List (Str × Int × Int)
  procs : List Pr
def trip (t : Str × Int × Int) : PyData := .tuple [.str t.1, .int t.2.1, .int t.2.2]
def strD (xs : List Str) : PyData := .tuple (xs.map PyData.str)
def Pr.d (p : Pr) : PyData := .tuple [.str p.name, .int p.size, .int p.ans, strD p.locs, p.block.d, p.res.d]
def trips (ts : List (Str × Int × Int)) : PyData := .tuple (ts.map trip)
def Ga.d (g : Ga) : PyData := .tuple [trips g.vars, trips g.tabs, trips g.lots, .tuple (g.procs.map Pr.d)]
theorem nol_trip (t : Str × Int × Int) : nol (trip t) = true := rfl
theorem nolAll_trips : ∀ ts : List (Str × Int × Int), nolAll (ts.map trip) = true
  | [] => rfl
  | t :: ts => by show (nol (trip t) && nolAll (ts.map trip)) = true; rw [nolAll_trips ts]; rfl
theorem Pr.nol (p : Pr) : nol p.d = true := by
  show (Gm.nol (.str p.name) && (Gm.nol (.int p.size) && (Gm.nol (.int p.ans) && (nolAll (p.locs.map PyData.str) && (nolAll p.block.ds && (Gm.nol p.res.d && nolAll [])))))) = true
  rw [nolAll_strs, Blk.nol, Ex.nol]
  rfl
theorem nolAll_procs : ∀ ps : List Pr, nolAll (ps.map Pr.d) = true
  | [] => rfl
  | p :: ps => by show (nol p.d && nolAll (ps.map Pr.d)) = true; rw [nolAll_procs ps, Pr.nol]; rfl
theorem Ga.nol (g : Ga) : nol g.d = true := by
  show (nolAll (g.vars.map trip) && (nolAll (g.tabs.map trip) && (nolAll (g.lots.map trip) && (nolAll (g.procs.map Pr.d) && nolAll [])))) = true
  rw [nolAll_trips, nolAll_trips, nolAll_trips, nolAll_procs]
  rfl
def Ga.sc (g : Ga) (locs asks : List Str) : Sc := ⟨locs, g.vars.map (·.1), g.tabs.map (·.1), g.lots.map (·.1), asks⟩
/-! ### the games that the laws draw -/
structure PrOk (g : Ga) (p : Pr) : Prop where
  size : 1 ≤ p.size ∧ p.size ≤ 3
  ans : 2 ≤ p.ans ∧ p.ans ≤ 4
  locs : p.locs = (["g", "a"] : List Str) ∨ p.locs = (["g", "a", "b"] : List Str)
  block : p.block.Ok (g.sc p.locs []) 3 2
  len : 1 ≤ p.block.len ∧ p.block.len ≤ 4
  res : p.res.Ok (g.sc p.locs []) 3
structure GaOk (g : Ga) : Prop where
  vars : g.vars.map (·.1) = ([] : List Str) ∨ g.vars.map (·.1) = (["x"] : List Str) ∨ g.vars.map (·.1) = (["x", "y"] : List Str)
  var : ∀ v ∈ g.vars, (v.2.1 = 2 ∨ v.2.1 = 3 ∨ v.2.1 = 65535) ∧ (v.2.2 = 0 ∨ v.2.2 = 1)
  tabs : g.tabs.map (·.1) = ([] : List Str) ∨ g.tabs.map (·.1) = (["t"] : List Str) ∨ g.tabs.map (·.1) = (["t", "m"] : List Str)
  tab : ∀ v ∈ g.tabs, (v.2.1 = 2 ∨ v.2.1 = 3) ∧ (v.2.2 = 2 ∨ v.2.2 = 3)
  lots : g.lots.map (·.1) = ([] : List Str) ∨ g.lots.map (·.1) = (["o"] : List Str) ∨ g.lots.map (·.1) = (["o", "k"] : List Str)
  lot : ∀ v ∈ g.lots, (v.2.1 = 2 ∨ v.2.1 = 3) ∧ v.2.2 = 2
  procs : g.procs.map (·.name) = (["p"] : List Str) ∨ g.procs.map (·.name) = (["p", "r"] : List Str)
  proc : ∀ p ∈ g.procs, PrOk g p
/-! ### more picks -/
theorem dig_at {ds : List Int} {i : Int} (h0 : 0 ≤ i) (h1 : i < (ds.length : Int)) : ∃ d ∈ ds, atI (ds.map V.int) i = some (.int d) := by
  have hk : i.toNat < ds.length := by omega
  exact ⟨ds[i.toNat], List.getElem_mem hk, at_of (j := i.toNat) (by omega) (by rw [List.getElem?_map, List.getElem?_eq_getElem hk] <;> rfl)⟩
theorem cut2 {a b : Str} {j : Int} (h0 : 0 ≤ j) (h1 : j ≤ 2) : cutV ([V.str a, V.str b]) none (some j) = (([a, b] : List Str).take j.toNat).map V.str := by
  have : j = 0 ∨ j = 1 ∨ j = 2 := by omega
  rcases this with rfl | rfl | rfl <;> rfl
theorem take2 {a b : Str} (n : Nat) (h : n ≤ 2) : ([a, b] : List Str).take n = [] ∨ ([a, b] : List Str).take n = [a] ∨ ([a, b] : List Str).take n = [a, b] := by
  have : n = 0 ∨ n = 1 ∨ n = 2 := by omega
  rcases this with rfl | rfl | rfl
  · exact .inl rfl
  · exact .inr (.inl rfl)
  · exact .inr (.inr rfl)
end Gm
set_option Elab.async false
set_option linter.all false
set_option maxRecDepth 100000
set_option maxHeartbeats 2000000
/-! Words of a text: names, numbers; an object that takes them one after the other. -/
namespace Pz
open PySem L2 Gm
def lets : Str := "abcdefghijklmnopqrstuvwxyz"
def digs : Str := "0123456789"
def letB (c : Nat) : Bool := decide (c ∈ lets.cps.toList)
def digB (c : Nat) : Bool := decide (c ∈ digs.cps.toList)
def keys : List Str := ["var", "table", "lots", "proc", "local", "set", "let", "draw", "put", "lot", "ask", "if", "else", "end", "bad", "after", "answer", "has", "cell", "mod"]
def signs (w : Str) : List Nat := w.cps.toList
def isName (w : Str) : Bool := decide (1 ≤ w.length ∧ w.length ≤ 12) && !decide (w ∈ keys) && (match signs w with | [] => false | c :: _ => letB c) && (signs w).all fun c => letB c || digB c
def numW (w : Str) : Nat := NumText.digitsVal (signs w)
def isNum (w : Str) : Bool := decide (1 ≤ w.length ∧ w.length ≤ 5) && (signs w).all digB && (match signs w with | [] => false | c :: _ => if c = 48 then decide (w = "0") else decide (numW w ≤ 65535))
theorem len_signs (w : Str) : (signs w).length = w.length := Array.length_toList
theorem digB_iff {c : Nat} : digB c = true ↔ 48 ≤ c ∧ c ≤ 57 := by
  unfold digB
  rw [decide_eq_true_iff, show digs.cps.toList = [48, 49, 50, 51, 52, 53, 54, 55, 56, 57] from by decide +kernel]
  simp only [List.mem_cons, List.not_mem_nil, or_false]
  omega
theorem num_text {w : Str} (h : (signs w).all digB = true) (h1 : 1 ≤ w.length) (h2 : w.length ≤ 5) : intText? w = some ((numW w : Nat) : Int) := by
  refine _root_.PySem.intText_digits (fun c hc => ?_) (fun z => ?_) (by omega)
  · exact digB_iff.mp (List.all_eq_true.mp h c hc)
  · have := len_signs w
    unfold signs at this
    rw [z] at this
    simp at this
    omega
theorem flat_strs : ∀ xs : List Str, (xs.map V.str).all flatV = true
  | [] => rfl
  | x :: xs => by rw [List.map_cons, List.all_cons, flat_strs xs]; rfl
theorem inV_strs (x : Str) : ∀ xs : List Str, inV (.str x) (xs.map V.str) = decide (x ∈ xs)
  | [] => rfl
  | y :: xs => by
    have ih := inV_strs x xs
    unfold inV at ih ⊢
    rw [List.map_cons, List.any_cons, ih]
    by_cases h : y = x
    · subst h
      rw [show eqV (.str y) (.str y) = true from by simp [eqV], Bool.true_or]
      exact (decide_eq_true List.mem_cons_self).symm
    · rw [show eqV (.str y) (.str x) = false from by simp [eqV, h], Bool.false_or]
      refine decide_eq_decide.mpr ⟨List.mem_cons_of_mem _, fun m => ?_⟩
      rcases List.mem_cons.mp m with e | e
      · exact absurd e.symm h
      · exact e
/-- the word at a place, the empty word behind the last one -/
def wd (ws : List Str) (i : Nat) : Str := ws.getD i Str.empty
/-- all but the object at p stands -/
def But (p : Addr) (H H' : Hp) : Prop := ∀ b o, H b = some o → b ≠ p → H' b = some o
theorem But.refl (p : Addr) (H : Hp) : But p H H := fun _ _ e _ => e
theorem But.trans {p : Addr} {H H1 H2 : Hp} (a : But p H H1) (b : But p H1 H2) : But p H H2 := fun c o e n => b c o (a c o e n) n
theorem But.same {p : Addr} {H H' : Hp} (s : Same H H') : But p H H' := fun b o e _ => s b o e
theorem But.upd {p : Addr} {H : Hp} {o : HO} : But p H (upd H p o) := fun b u e n => by rw [upd_ne n]; exact e
/-- an object that takes words: ws in the list at l, the next one i -/
structure WAt (C : Addr) (H : Hp) (p l : Addr) (ws : List Str) (i : Nat) : Prop where
  ob : ∃ dx fs, H p = some (.ins C dx fs) ∧ fs.lookup ("words" : Str) = some (.ref l) ∧ fs.lookup ("at" : Str) = some (.int i) ∧ (∀ m : Str, m ≠ "words" → m ≠ "at" → fs.lookup m = none) ∧ fs.length < 900
  li : H l = some (.lst (ws.map V.str))
  le : i ≤ ws.length
  sz : ws.length < 1000000
  wl : ∀ w ∈ ws, w.length ≤ 1000000
section
variable {C : Addr} {H H' : Hp} {p l : Addr} {ws : List Str} {i : Nat}
theorem WAt.ne (h : WAt C H p l ws i) : l ≠ p := fun e => by
  obtain ⟨dx, fs, e1, _⟩ := h.ob
  have e2 := h.li
  rw [e, e1] at e2
  cases e2
theorem WAt.same (h : WAt C H p l ws i) (s : Same H H') : WAt C H' p l ws i :=
  let ⟨dx, fs, e1, e2⟩ := h.ob
  ⟨⟨dx, fs, s _ _ e1, e2⟩, s _ _ h.li, h.le, h.sz, h.wl⟩
theorem But.tups {H H' : Hp} {p : Addr} {C : Addr} {dx : Addr} {fs : List (Str × V)} (b : But p H H') (h : H p = some (.ins C dx fs)) : Tups H H' := fun c o e k => b c o e fun z => by
  rw [z, h] at e
  cases e
  rcases k with ⟨_, z⟩ | ⟨_, _, z⟩ <;> cases z
theorem WAt.tups (h : WAt C H p l ws i) (b : But p H H') : Tups H H' :=
  let ⟨dx, fs, e1, _⟩ := h.ob
  b.tups e1
theorem wd_len (h : WAt C H p l ws i) : (wd ws i).length ≤ 1000000 := by
  unfold wd
  rw [List.getD_eq_getElem?_getD]
  cases e : ws[i]? with
  | none => exact Nat.zero_le _
  | some w => exact h.wl w (List.mem_of_getElem? e)
theorem putF_len {f : Str} {v x : V} : ∀ {fs : List (Str × V)}, fs.lookup f = some x → (putF f v fs).length = fs.length
  | [], h => by cases h
  | (g, y) :: r, h => by
    by_cases e : g = f
    · rw [putF, if_pos e] <;> rfl
    · have e2 : (f == g) = false := by
        cases z : f == g with
        | false => rfl
        | true => exact absurd (eq_of_beq z).symm e
      rw [putF, if_neg e, List.length_cons, List.length_cons, putF_len (fs := r) (by simpa [List.lookup, e2] using h)]
theorem WAt.lt_of (h : WAt C H p l ws i) (n : wd ws i ≠ Str.empty) : i < ws.length := by
  refine Nat.lt_of_le_of_ne h.le fun e => n ?_
  unfold wd
  rw [e, List.getD_eq_getElem?_getD, List.getElem?_eq_none (Nat.le_refl _)]
  rfl
theorem isNum_text {w : Str} (h : isNum w = true) : intText? w = some ((numW w : Nat) : Int) ∧ w.length ≤ 640 := by
  unfold isNum at h
  rw [Bool.and_eq_true, Bool.and_eq_true] at h
  have l := of_decide_eq_true h.1.1
  exact ⟨num_text h.1.2 l.1 l.2, by omega⟩
/-- the words that v offers -/
def Amg (K : PySem.W.Frag) (H : Hp) (v : V) (cs : List Str) : Prop :=
  ∃ a, v = .ref a ∧ (SqL K H a (cs.map V.str) ∨ SqT K H a (cs.map V.str) ∨ ∃ kvs, H a = some (.dK kvs) ∧ ∀ x : Str, (valV kvs (.inr x)).isSome = decide (x ∈ cs))
def rNotU (K : PySem.W.Frag) : R2 := fun x y H Q => rIn K true x y H Q ∨ ∃ a ov, y = .ref a ∧ DGet H a x ov ∧ Q (.bl (!ov.isSome)) H
theorem op_notU {X : Cx} (hu : X.A.units + 1 < cLine) : OpR X (compareOp .NotIn) (rNotU X.K) := by
  intro pins s σ H x y v u Q I rx ry h
  rcases h with h | ⟨a, ov, rfl, g, q⟩
  · exact op_notIn_seq pins s σ H x y v u Q I rx ry h
  · obtain rfl : u = Value.ref a := ry
    exact d_notIn hu I g rx fun s3 I3 => ⟨.bl (!ov.isSome), H, I3, rfl, q⟩
theorem Amg.notU {K : PySem.W.Frag} {H : Hp} {v : V} {cs : List Str} {x : Str} {Q : VK} (h : Amg K H v cs) (q : Q (.bl (!decide (x ∈ cs))) H) : rNotU K (.str x) v H Q := by
  obtain ⟨a, rfl, h | h | ⟨kvs, h, k⟩⟩ := h
  · refine .inl ⟨a, _, rfl, .inl h, rfl, flat_strs _, ?_⟩
    rw [if_pos rfl, inV_strs]
    exact q
  · refine .inl ⟨a, _, rfl, .inr h, rfl, flat_strs _, ?_⟩
    rw [if_pos rfl, inV_strs]
    exact q
  · refine .inr ⟨a, _, rfl, DGet.k (k := .inr x) h, ?_⟩
    rw [k x]
    exact q
/-- a text refused at the word i -/
def Ref (p B : Addr) (H : Hp) (i : Nat) (E : XK) : Prop := ∀ d H', But p H H' → H' d = some (.xd [("at", .int i)]) → E (.ref B) (some d) H'
theorem Ref.later {p B : Addr} {H H1 : Hp} {i : Nat} {E : XK} (h : Ref p B H i E) (b : But p H H1) : Ref p B H1 i E := fun d H' c e => h d H' (b.trans c) e
theorem WAt.nomt {m : Str} (h : WAt C H p l ws i) (h1 : m ≠ "words" := by decide) (h2 : m ≠ "at" := by decide) : ∃ dx fs, H p = some (.ins C dx fs) ∧ fs.lookup m = none :=
  let ⟨dx, fs, e1, _, _, e4, _⟩ := h.ob
  ⟨dx, fs, e1, e4 m h1 h2⟩
end
/-! ### what the methods promise -/
section
variable (C B : Addr)
def spEnded : Sp := fun vs H Q _ => ∃ (p l : Addr) (ws : List Str) (i : Nat), vs = [.ref p] ∧ WAt C H p l ws i ∧ Q (.bl (decide (i = ws.length))) H
def spAhead : Sp := fun vs H Q _ => ∃ (p l : Addr) (ws : List Str) (i : Nat), vs = [.ref p] ∧ WAt C H p l ws i ∧ Q (.str (wd ws i)) H
def toWords (x : Str) : List Str := if x.length = 0 then [] else Txt.split x " "
def spWords : Sp := fun vs H Q _ => ∃ (p dx : Addr) (x : Str), vs = [.ref p, .str x] ∧ H p = some (.ins C dx []) ∧ x.length ≤ 900000 ∧ (toWords x).length < 1000000 ∧ (∀ w ∈ toWords x, w.length ≤ 1000000) ∧
  ∀ l H', But p H H' → WAt C H' p l (toWords x) 0 → Q .non H'
def spRefuse : Sp := fun vs H _ E => ∃ (p l : Addr) (ws : List Str) (i : Nat), vs = [.ref p] ∧ WAt C H p l ws i ∧ Ref p B H i E
def spTake : Sp := fun vs H Q _ => ∃ (p l : Addr) (ws : List Str) (i : Nat), vs = [.ref p] ∧ WAt C H p l ws i ∧ i < ws.length ∧ ∀ H', But p H H' → WAt C H' p l ws (i + 1) → Q (.str (wd ws i)) H'
/-- one word is taken, or refused -/
def Tk1 (p l : Addr) (ws : List Str) (i : Nat) (H : Hp) (Q : V → Hp → Prop) (E : XK) (c : Bool) (y : V) : Prop := if c = true then ∀ H', But p H H' → WAt C H' p l ws (i + 1) → Q y H' else Ref p B H i E
def spOneOf (K : PySem.W.Frag) : Sp := fun vs H Q E => ∃ (p l : Addr) (ws : List Str) (i : Nat) (v : V) (cs : List Str), vs = [.ref p, v] ∧ WAt C H p l ws i ∧ Amg K H v cs ∧ Str.empty ∉ cs ∧ Tk1 C B p l ws i H Q E (decide (wd ws i ∈ cs)) (.str (wd ws i))
def spName (K : PySem.W.Frag) : Sp := fun vs H Q E => ∃ (p l : Addr) (ws : List Str) (i : Nat) (a : Addr) (cs : List Str), vs = [.ref p, .ref a] ∧ WAt C H p l ws i ∧ (SqL K H a (cs.map V.str) ∨ SqT K H a (cs.map V.str)) ∧ Tk1 C B p l ws i H Q E (isName (wd ws i) && !decide (wd ws i ∈ cs)) (.str (wd ws i))
def spNumber : Sp := fun vs H Q E => ∃ (p l : Addr) (ws : List Str) (i : Nat), ∃ lo hi : Int, vs = [.ref p, .int lo, .int hi] ∧ WAt C H p l ws i ∧ Tk1 C B p l ws i H Q E (isNum (wd ws i) && decide (lo ≤ (numW (wd ws i) : Nat) ∧ ((numW (wd ws i) : Nat) : Int) ≤ hi)) (.int (numW (wd ws i) : Nat))
def spFinish : Sp := fun vs H Q E => ∃ (p l : Addr) (ws : List Str) (i : Nat), vs = [.ref p] ∧ WAt C H p l ws i ∧ if i = ws.length then Q .non H else Ref p B H i E
end
/-! ### expressions: what is read -/
def looks : List Str := ["has", "cell"]
def lookEx (x t : Str) (e : Ex) : Ex := if x = "has" then .has t e else .cell t e
def pAtom (ws : List Str) (s : Sc) (i : Nat) : Except Nat (Ex × Nat) :=
  if isNum (wd ws i) = true then .ok (.num (numW (wd ws i) : Nat), i + 1)
  else if wd ws i ∈ s.vars then .ok (.var (wd ws i), i + 1)
  else if wd ws i ∈ s.locs then .ok (.loc (wd ws i), i + 1)
  else .error i
def pExpr (ws : List Str) (s : Sc) : Nat → Nat → Except Nat (Ex × Nat)
  | 0, i => pAtom ws s i
  | k + 1, i =>
    if wd ws i ∈ ops then
      match pExpr ws s k (i + 1) with
      | .error j => .error j
      | .ok (a, j) => match pExpr ws s k j with
        | .error m => .error m
        | .ok (b, m) => .ok (.op (wd ws i) a b, m)
    else if wd ws i ∈ looks ∧ s.tabs ≠ [] then
      if wd ws (i + 1) ∈ s.tabs then
        match pExpr ws s k (i + 2) with
        | .error j => .error j
        | .ok (e, j) => .ok (lookEx (wd ws i) (wd ws (i + 1)) e, j)
      else .error (i + 1)
    else pAtom ws s i
/-- the data of the words that are an expression by themselves -/
def MeanAt (K : PySem.W.Frag) (H : Hp) (m : Addr) (s : Sc) : Prop :=
  ∃ kvs, H m = some (.dK kvs) ∧ ∀ x : Str, (x ∈ s.vars → ∃ v, valV kvs (.inr x) = some v ∧ Dp K H v (Ex.var x).d) ∧ (x ∉ s.vars → x ∈ s.locs → ∃ v, valV kvs (.inr x) = some v ∧ Dp K H v (Ex.loc x).d) ∧
    (x ∉ s.vars → x ∉ s.locs → valV kvs (.inr x) = none)
section
variable {K : PySem.W.Frag} {C : Addr} {H H' : Hp} {p l m : Addr} {ws : List Str} {i : Nat} {s : Sc}
theorem WAt.other (h : WAt C H p l ws i) {a : Addr} {o : HO} (e : H a = some o) (n : ∀ C dx fs, o ≠ .ins C dx fs) : a ≠ p := fun z => by
  obtain ⟨dx, fs, e1, _⟩ := h.ob
  rw [z, e1] at e
  exact n _ _ _ (Option.some.inj e).symm
theorem WAt.sqL (h : WAt C H p l ws i) (b : But p H H') {a : Addr} {xs : List V} (e : SqL K H a xs) : SqL K H' a xs := by
  rcases e with (e | ⟨o, e⟩) | e
  · exact .inl (.inl (b _ _ e (h.other e fun _ _ _ z => by cases z)))
  · exact .inl (.inr ⟨o, b _ _ e (h.other e fun _ _ _ z => by cases z)⟩)
  · exact .inr e
theorem WAt.sqT (h : WAt C H p l ws i) (b : But p H H') {a : Addr} {xs : List V} (e : SqT K H a xs) : SqT K H' a xs := sqT_tups (h.tups b) e
theorem WAt.dp (h : WAt C H p l ws i) (b : But p H H') {v : V} (e : Ex) (d : Dp K H v e.d) : Dp K H' v e.d := dp_tups (h.tups b) _ _ (Ex.nol e) d
theorem WAt.mean (h : WAt C H p l ws i) (b : But p H H') (M : MeanAt K H m s) : MeanAt K H' m s := by
  obtain ⟨kvs, e, f⟩ := M
  refine ⟨kvs, b _ _ e (h.other e fun _ _ _ z => by cases z), fun x => ⟨fun hx => ?_, fun h1 h2 => ?_, (f x).2.2⟩⟩
  · obtain ⟨v, e1, d⟩ := (f x).1 hx
    exact ⟨v, e1, h.dp b _ d⟩
  · obtain ⟨v, e1, d⟩ := (f x).2.1 h1 h2
    exact ⟨v, e1, h.dp b _ d⟩
theorem MeanAt.amg (M : MeanAt K H m s) : Amg K H (.ref m) (s.vars ++ s.locs) := by
  obtain ⟨kvs, e, f⟩ := M
  refine ⟨m, rfl, .inr (.inr ⟨kvs, e, fun x => ?_⟩)⟩
  by_cases h1 : x ∈ s.vars
  · obtain ⟨v, e1, _⟩ := (f x).1 h1
    rw [e1]
    exact (decide_eq_true (List.mem_append_left _ h1)).symm
  · by_cases h2 : x ∈ s.locs
    · obtain ⟨v, e1, _⟩ := (f x).2.1 h1 h2
      rw [e1]
      exact (decide_eq_true (List.mem_append_right _ h2)).symm
    · rw [(f x).2.2 h1 h2]
      exact (decide_eq_false fun z => (List.mem_append.mp z).elim h1 h2).symm
end
/-- what is known of the names in scope -/
structure NoE (s : Sc) : Prop where
  v : Str.empty ∉ s.vars
  l : Str.empty ∉ s.locs
  t : Str.empty ∉ s.tabs
/-- how a reading of an expression ends -/
def ExEnd (C B : Addr) (K : PySem.W.Frag) (p l : Addr) (ws : List Str) (H : Hp) (Q : VK) (E : XK) : Except Nat (Ex × Nat) → Prop
  | .ok (e, j) => ∀ v H', But p H H' → WAt C H' p l ws j → Dp K H' v e.d → Q v H'
  | .error j => Ref p B H j E
def spExpr (C B : Addr) (K : PySem.W.Frag) (k : Nat) : Sp := fun vs H Q E => ∃ (p l m tb : Addr) (ws : List Str) (i : Nat) (s : Sc), vs = [.ref p, .ref m, .ref tb, .int (8 - (k : Int))] ∧ WAt C H p l ws i ∧ MeanAt K H m s ∧ SqL K H tb (s.tabs.map V.str) ∧ NoE s ∧
  ExEnd C B K p l ws H Q E (pExpr ws s k i)
theorem isNum_le {x : Str} (h : isNum x = true) : numW x ≤ 65535 := by
  unfold isNum at h
  rw [Bool.and_eq_true] at h
  have h2 := h.2
  cases e : signs x with
  | nil => rw [e] at h2; cases h2
  | cons c cs =>
    rw [e] at h2
    have h2 : (if c = 48 then decide (x = "0") else decide (numW x ≤ 65535)) = true := h2
    by_cases z : c = 48
    · rw [if_pos z] at h2
      have : x = "0" := of_decide_eq_true h2
      rw [this]
      decide +kernel
    · rw [if_neg z] at h2
      exact of_decide_eq_true h2
theorem dp_look {K : PySem.W.Frag} {H : Hp} {q : Addr} {x t : Str} {v : V} {e : Ex} (hq : H q = none) (h : x ∈ looks) (d : Dp K H v e.d) : Dp K (upd H q (.tup [.str x, .str t, v])) (.ref q) (lookEx x t e).d := by
  unfold lookEx
  rcases List.mem_cons.mp h with rfl | h
  · rw [if_pos rfl]
    unfold Ex.d
    exact dp_tup hq (.cons (.str _) (.cons (.str _) (.cons d .nil)))
  · obtain rfl := List.mem_singleton.mp h
    rw [if_neg (by decide +kernel)]
    unfold Ex.d
    exact dp_tup hq (.cons (.str _) (.cons (.str _) (.cons d .nil)))
/-- the statements behind two ifs, where both fall through -/
theorem tail_split {a a' : TT} {A A' B B' R : TS} {D : Ends} {σ : L2.St} {H : Hp} (c : Prop) (h : (c → R D σ H) → tSeq (tIfS a A A') (tSeq (tIfS a' B B') R) D σ H) (hr : c → R D σ H) : tSeq (tIfS a A A') (tSeq (tIfS a' B B') R) D σ H := h hr
end Pz
set_option Elab.async false
set_option linter.all false
set_option maxRecDepth 100000
set_option maxHeartbeats 2000000
/-! Statements and games: what is read. -/
namespace Pz
open PySem L2 Gm
/-- a part of a statement -/
inductive Pt where
  | s (x : Str) | n (v : Int) | e (x : Ex)
def Pt.d : Pt → PyData
  | .s x => .str x
  | .n v => .int v
  | .e x => x.d
theorem Pt.nol : ∀ x : Pt, nol x.d = true
  | .s _ => rfl
  | .n _ => rfl
  | .e x => Ex.nol x
def kindNames (s : Sc) (k : Str) : Option (List Str) := if k = "variable" then some s.vars else if k = "local" then some s.locs else if k = "table" then some s.tabs else if k = "lots" then some s.lots else if k = "asked" then some s.asks else none
def forms : List (Str × List Str) := [("set", ["variable", "expression"]), ("let", ["local", "expression"]), ("draw", ["local", "number"]), ("put", ["table", "expression", "expression"]), ("lot", ["local", "lots", "expression"]), ("ask", ["local", "asked", "expression"]), ("bad", [])]
def words : List Str := ["set", "let", "draw", "put", "lot", "ask", "bad"]
def formOf (w : Str) : List Str := (forms.lookup w).getD []
def canFollow (s : Sc) (k : Str) : Bool := match kindNames s k with
  | none => true
  | some xs => decide (0 < xs.length)
def startsOf (s : Sc) : List Str := words.filter fun w => (formOf w).all (canFollow s)
/-- whether a statement with this first word may stand where k more levels are left -/
def can (s : Sc) (k : Nat) (w : Str) : Bool := if w = "if" ∨ w = "after" then decide (0 < k) else decide (w ∈ startsOf s)
section
variable (ws : List Str) (s : Sc)
def pPart (k : Str) (i : Nat) : Except Nat (Pt × Nat) :=
  if k = "expression" then (match pExpr ws s 7 i with
    | .error j => .error j
    | .ok (e, j) => .ok (.e e, j))
  else if k = "number" then (if (isNum (wd ws i) && decide ((1 : Int) ≤ (numW (wd ws i) : Nat) ∧ ((numW (wd ws i) : Nat) : Int) ≤ 64)) = true then .ok (.n (numW (wd ws i) : Nat), i + 1) else .error i)
  else match kindNames s k with
    | some xs => if decide (wd ws i ∈ xs) = true then .ok (.s (wd ws i), i + 1) else .error i
    | none => .error i
def pParts : List Str → Nat → Except Nat (List Pt × Nat)
  | [], i => .ok ([], i)
  | k :: ks, i => match pPart ws s k i with
    | .error j => .error j
    | .ok (x, j) => match pParts ks j with
      | .error m => .error m
      | .ok (xs, m) => .ok (x :: xs, m)
def mkStm (w : Str) (xs : List Pt) : Stm :=
  if w = "set" then (match xs with | [.s x, .e v] => .set x v | _ => .bad)
  else if w = "let" then (match xs with | [.s x, .e v] => .lt x v | _ => .bad)
  else if w = "draw" then (match xs with | [.s x, .n v] => .draw x v | _ => .bad)
  else if w = "put" then (match xs with | [.s x, .e v, .e u] => .put x v u | _ => .bad)
  else if w = "lot" then (match xs with | [.s x, .s y, .e u] => .lot x y u | _ => .bad)
  else if w = "ask" then (match xs with | [.s x, .s y, .e u] => .ask x y u | _ => .bad)
  else .bad
def pSimple (i : Nat) : Except Nat (Stm × Nat) := match pParts ws s (formOf (wd ws i)) (i + 1) with
  | .error j => .error j
  | .ok (xs, j) => .ok (mkStm (wd ws i) xs, j)
/-- statements as long as one can begin, at most f of them -/
def pLoop (st : Nat → Except Nat (Stm × Nat)) (k : Nat) : Nat → Nat → Except Nat (Blk × Nat)
  | 0, i => .ok (.nil, i)
  | f + 1, i => if can s k (wd ws i) = true then (match st i with
      | .error j => .error j
      | .ok (x, j) => match pLoop st k f j with
        | .error m => .error m
        | .ok (b, m) => .ok (.cons x b, m))
    else .ok (.nil, i)
def pChoice (blk : Nat → Except Nat (Blk × Nat)) (i : Nat) : Except Nat (Stm × Nat) :=
  match pExpr ws s 7 i with
  | .error j => .error j
  | .ok (t, j) => match blk j with
    | .error m => .error m
    | .ok (a, m) => if wd ws m = "end" then .ok (.ite t a .nil, m + 1)
      else if wd ws m = "else" then (match blk (m + 1) with
        | .error q => .error q
        | .ok (b, q) => if b.len = 0 then .error q else if wd ws q = "end" then .ok (.ite t a b, q + 1) else .error q)
      else .error m
def pAfter (blk : Nat → Except Nat (Blk × Nat)) (i : Nat) : Except Nat (Stm × Nat) :=
  match blk i with
  | .error m => .error m
  | .ok (a, m) => if wd ws m = "end" then .ok (.after a, m + 1) else .error m
def pStm : Nat → Nat → Except Nat (Stm × Nat)
  | 0, i => pSimple ws s i
  | k + 1, i => if wd ws i = "if" then pChoice ws s (pLoop ws s (pStm k) k ws.length) (i + 1)
    else if wd ws i = "after" then pAfter ws (pLoop ws s (pStm k) k ws.length) (i + 1)
    else pSimple ws s i
def pBlk (k : Nat) : Nat → Except Nat (Blk × Nat) := pLoop ws s (pStm ws s k) k ws.length
end
/-! ### they go on -/
section
variable {ws : List Str} {s : Sc}
theorem pAtom_lt {i j : Nat} {e : Ex} (h : pAtom ws s i = .ok (e, j)) : i < j := by
  unfold pAtom at h
  split at h
  · cases h; omega
  · split at h
    · cases h; omega
    · split at h
      · cases h; omega
      · cases h
theorem pExpr_lt : ∀ {k i j : Nat} {e : Ex}, pExpr ws s k i = .ok (e, j) → i < j
  | 0, i, j, e, h => pAtom_lt h
  | k + 1, i, j, e, h => by
    unfold pExpr at h
    split at h
    · split at h
      · cases h
      · rename_i h1
        have l1 := pExpr_lt h1
        split at h
        · cases h
        · rename_i h2
          have l2 := pExpr_lt h2
          cases h
          omega
    · split at h
      · split at h
        · split at h
          · cases h
          · rename_i h1
            have l1 := pExpr_lt h1
            cases h
            omega
        · cases h
      · exact pAtom_lt h
theorem pPart_lt {k : Str} {i j : Nat} {x : Pt} (h : pPart ws s k i = .ok (x, j)) : i < j := by
  unfold pPart at h
  split at h
  · split at h
    · cases h
    · rename_i h1
      have := pExpr_lt h1
      cases h
      omega
  · split at h
    · split at h
      · cases h; omega
      · cases h
    · split at h
      · split at h
        · cases h; omega
        · cases h
      · cases h
theorem pParts_le : ∀ {ks : List Str} {i j : Nat} {xs : List Pt}, pParts ws s ks i = .ok (xs, j) → i ≤ j
  | [], i, j, xs, h => by unfold pParts at h; cases h; exact Nat.le_refl _
  | k :: ks, i, j, xs, h => by
    unfold pParts at h
    split at h
    · cases h
    · rename_i h1
      have l1 := pPart_lt h1
      split at h
      · cases h
      · rename_i h2
        have l2 := pParts_le h2
        cases h
        omega
theorem pSimple_lt {i j : Nat} {x : Stm} (h : pSimple ws s i = .ok (x, j)) : i < j := by
  unfold pSimple at h
  split at h
  · cases h
  · rename_i h1
    have := pParts_le h1
    cases h
    omega
theorem pLoop_le {st : Nat → Except Nat (Stm × Nat)} {k : Nat} (hst : ∀ i j x, st i = .ok (x, j) → i ≤ j) : ∀ {f i j : Nat} {b : Blk}, pLoop ws s st k f i = .ok (b, j) → i ≤ j
  | 0, i, j, b, h => by unfold pLoop at h; cases h; exact Nat.le_refl _
  | f + 1, i, j, b, h => by
    unfold pLoop at h
    split at h
    · split at h
      · cases h
      · rename_i h1
        have l1 := hst _ _ _ h1
        split at h
        · cases h
        · rename_i h2
          have l2 := pLoop_le hst h2
          cases h
          omega
    · cases h; exact Nat.le_refl _
theorem pStm_lt : ∀ {k i j : Nat} {x : Stm}, pStm ws s k i = .ok (x, j) → i < j
  | 0, i, j, x, h => pSimple_lt h
  | k + 1, i, j, x, h => by
    have lb : ∀ {i j : Nat} {b : Blk}, pLoop ws s (pStm ws s k) k ws.length i = .ok (b, j) → i ≤ j := fun h => pLoop_le (fun i j x e => Nat.le_of_lt (pStm_lt e)) h
    unfold pStm at h
    split at h
    · unfold pChoice at h
      split at h
      · cases h
      · rename_i h1
        have l1 := pExpr_lt h1
        split at h
        · cases h
        · rename_i h2
          have l2 := lb h2
          split at h
          · cases h; omega
          · split at h
            · split at h
              · cases h
              · rename_i h3
                have l3 := lb h3
                split at h
                · cases h
                · split at h
                  · cases h; omega
                  · cases h
            · cases h
    · split at h
      · unfold pAfter at h
        split at h
        · cases h
        · rename_i h1
          have l1 := lb h1
          split at h
          · cases h; omega
          · cases h
      · exact pSimple_lt h
theorem can_ne {k i : Nat} (h : can s k (wd ws i) = true) (e1 : Str.empty ∉ startsOf s) : wd ws i ≠ Str.empty := fun z => by
  rw [z] at h
  unfold can at h
  rw [if_neg (by decide +kernel)] at h
  exact e1 (of_decide_eq_true h)
theorem empty_starts : Str.empty ∉ startsOf s := fun h => by
  have := (List.mem_filter.mp h).1
  exact absurd this (by decide +kernel)
end
/-! ### how a reading ends -/
def GEnd {α : Type} (d : α → PyData) (C B : Addr) (K : PySem.W.Frag) (p l : Addr) (ws : List Str) (H : Hp) (Q : VK) (E : XK) : Except Nat (α × Nat) → Prop
  | .ok (x, j) => ∀ v H', But p H H' → WAt C H' p l ws j → Dp K H' v (d x) → Q v H'
  | .error j => Ref p B H j E
end Pz
set_option Elab.async false
set_option linter.all false
set_option maxRecDepth 100000
set_option maxHeartbeats 2000000
/-! The object that reads statements. -/
namespace Pz
open PySem L2 Gm
structure NoA (s : Sc) : Prop where
  v : Str.empty ∉ s.vars
  l : Str.empty ∉ s.locs
  t : Str.empty ∉ s.tabs
  o : Str.empty ∉ s.lots
  a : Str.empty ∉ s.asks
theorem NoA.e {s : Sc} (h : NoA s) : NoE s := ⟨h.v, h.l, h.t⟩
theorem NoA.kind {s : Sc} (h : NoA s) {k : Str} {xs : List Str} (e : kindNames s k = some xs) : Str.empty ∉ xs := by
  unfold kindNames at e
  split at e
  · cases e; exact h.v
  · split at e
    · cases e; exact h.l
    · split at e
      · cases e; exact h.t
      · split at e
        · cases e; exact h.o
        · split at e
          · cases e; exact h.a
          · cases e
/-- the names that each kind of part may be -/
def Names (K : PySem.W.Frag) (H : Hp) (nd : Addr) (s : Sc) : Prop := ∃ kvs, H nd = some (.dK kvs) ∧ ∀ k : Str, match kindNames s k with
  | some xs => ∃ a, valV kvs (.inr k) = some (.ref a) ∧ (SqL K H a (xs.map V.str) ∨ (k = "local" ∧ SqT K H a (xs.map V.str)))
  | none => valV kvs (.inr k) = none
structure RAt (C : Addr) (K : PySem.W.Frag) (H : Hp) (r p : Addr) (s : Sc) : Prop where
  ob : ∃ dx fs nd m st, H r = some (.ins C dx fs) ∧ fs.lookup ("words" : Str) = some (.ref p) ∧ fs.lookup ("names" : Str) = some (.ref nd) ∧ fs.lookup ("meanings" : Str) = some (.ref m) ∧ fs.lookup ("starts" : Str) = some (.ref st) ∧
    (∀ x : Str, x ≠ "words" → x ≠ "names" → x ≠ "meanings" → x ≠ "starts" → fs.lookup x = none) ∧ Names K H nd s ∧ MeanAt K H m s ∧ SqL K H st ((startsOf s).map V.str)
section
variable {K : PySem.W.Frag} {C CW : Addr} {H H' : Hp} {p l r nd : Addr} {ws : List Str} {i : Nat} {s : Sc}
theorem WAt.names (h : WAt CW H p l ws i) (b : But p H H') (N : Names K H nd s) : Names K H' nd s := by
  obtain ⟨kvs, e, f⟩ := N
  refine ⟨kvs, b _ _ e (h.other e fun _ _ _ z => by cases z), fun k => ?_⟩
  have z := f k
  split at z
  · obtain ⟨a, e1, q⟩ := z
    exact ⟨a, e1, q.imp (fun q => h.sqL b q) fun q => ⟨q.1, h.sqT b q.2⟩⟩
  · exact z
theorem WAt.rne (h : WAt CW H p l ws i) (R : RAt C K H r p s) : r ≠ p := fun z => by
  obtain ⟨dx, fs, e1, e2, _⟩ := h.ob
  obtain ⟨dx', fs', nd, m, st, f1, f2, _⟩ := R.ob
  rw [z, e1] at f1
  cases f1
  rw [e2] at f2
  cases f2
  exact h.ne rfl
theorem WAt.rat (h : WAt CW H p l ws i) (b : But p H H') (R : RAt C K H r p s) : RAt C K H' r p s := by
  have ne := h.rne R
  obtain ⟨dx', fs', nd, m, st, f1, f2, f3, f4, f5, f6, f7, f8, f9⟩ := R.ob
  exact ⟨dx', fs', nd, m, st, b _ _ f1 ne, f2, f3, f4, f5, f6, h.names b f7, h.mean b f8, h.sqL b f9⟩
theorem RAt.nomt {m : Str} (R : RAt C K H r p s) (h1 : m ≠ "words" := by decide) (h2 : m ≠ "names" := by decide) (h3 : m ≠ "meanings" := by decide) (h4 : m ≠ "starts" := by decide) : ∃ dx fs, H r = some (.ins C dx fs) ∧ fs.lookup m = none :=
  let ⟨dx, fs, _, _, _, e, _, _, _, _, f, _⟩ := R.ob
  ⟨dx, fs, e, f m h1 h2 h3 h4⟩
theorem RAt.words (R : RAt C K H r p s) : ∃ dx fs, H r = some (.ins C dx fs) ∧ fs.lookup ("words" : Str) = some (.ref p) :=
  let ⟨dx, fs, _, _, _, e, e2, _⟩ := R.ob
  ⟨dx, fs, e, e2⟩
theorem Names.get (N : Names K H nd s) {k : Str} {xs : List Str} (e : kindNames s k = some xs) : ∃ kvs a, H nd = some (.dK kvs) ∧ valV kvs (.inr k) = some (.ref a) ∧ (SqL K H a (xs.map V.str) ∨ (k = "local" ∧ SqT K H a (xs.map V.str))) := by
  obtain ⟨kvs, h, f⟩ := N
  have z := f k
  rw [e] at z
  obtain ⟨a, h1, h2⟩ := z
  exact ⟨kvs, a, h, h1, h2⟩
theorem Names.no (N : Names K H nd s) {k : Str} (e : kindNames s k = none) : ∃ kvs, H nd = some (.dK kvs) ∧ valV kvs (.inr k) = none := by
  obtain ⟨kvs, h, f⟩ := N
  have z := f k
  rw [e] at z
  exact ⟨kvs, h, z⟩
end
/-! ### what the methods promise -/
section
variable (C CW B : Addr) (K : PySem.W.Frag)
def spCanFollow : Sp := fun vs H Q _ => ∃ (r dx nd : Addr) (fs : List (Str × V)) (s : Sc) (k : Str), vs = [.ref r, .str k] ∧ H r = some (.ins C dx fs) ∧ fs.lookup ("names" : Str) = some (.ref nd) ∧ Names K H nd s ∧ Q (.bl (canFollow s k)) H
def spCanStart : Sp := fun vs H Q _ => ∃ (r p : Addr) (s : Sc) (w : Str) (k : Nat), vs = [.ref r, .str w, .int (6 - (k : Int))] ∧ RAt C K H r p s ∧ ∀ H', Same H H' → Q (.bl (can s k w)) H'
/-- a reader at work -/
structure Work (H : Hp) (r p l : Addr) (ws : List Str) (i : Nat) (s : Sc) : Prop where
  R : RAt C K H r p s
  W : WAt CW H p l ws i
  N : NoA s
def spExprM : Sp := fun vs H Q E => ∃ (r p l : Addr) (ws : List Str) (i : Nat) (s : Sc), vs = [.ref r] ∧ Work C CW K H r p l ws i s ∧ GEnd Ex.d CW B K p l ws H Q E (pExpr ws s 7 i)
def kinds : List Str := ["variable", "local", "table", "lots", "asked", "expression", "number"]
def spPart : Sp := fun vs H Q E => ∃ (r p l : Addr) (ws : List Str) (i : Nat) (s : Sc) (k : Str), vs = [.ref r, .str k] ∧ Work C CW K H r p l ws i s ∧ k ∈ kinds ∧ GEnd Pt.d CW B K p l ws H Q E (pPart ws s k i)
def spBlock (k : Nat) : Sp := fun vs H Q E => ∃ (r p l : Addr) (ws : List Str) (i : Nat) (s : Sc), vs = [.ref r, .int (6 - (k : Int))] ∧ Work C CW K H r p l ws i s ∧ GEnd Blk.d CW B K p l ws H Q E (pBlk ws s k i)
def spStatement (k : Nat) : Sp := fun vs H Q E => ∃ (r p l : Addr) (ws : List Str) (i : Nat) (s : Sc), vs = [.ref r, .int (6 - (k : Int))] ∧ Work C CW K H r p l ws i s ∧ can s k (wd ws i) = true ∧ GEnd Stm.d CW B K p l ws H Q E (pStm ws s k i)
def spChoice (k : Nat) : Sp := fun vs H Q E => ∃ (r p l : Addr) (ws : List Str) (i : Nat) (s : Sc), vs = [.ref r, .int (6 - (k : Int))] ∧ Work C CW K H r p l ws i s ∧ GEnd Stm.d CW B K p l ws H Q E (pChoice ws s (pBlk ws s k) i)
theorem Work.go {H H' : Hp} {r p l : Addr} {ws : List Str} {i j : Nat} {s : Sc} (w : Work C CW K H r p l ws i s) (b : But p H H') (W' : WAt CW H' p l ws j) : Work C CW K H' r p l ws j s := ⟨w.W.rat b w.R, W', w.N⟩
end
theorem kind_some {s : Sc} {k : Str} (h : k ∈ kinds) (h1 : k ≠ "expression") (h2 : k ≠ "number") : ∃ xs, kindNames s k = some xs := by
  simp only [kinds, List.mem_cons, List.not_mem_nil, or_false] at h
  rcases h with rfl | rfl | rfl | rfl | rfl | rfl | rfl
  · exact ⟨_, rfl⟩
  · exact ⟨_, rfl⟩
  · exact ⟨_, rfl⟩
  · exact ⟨_, rfl⟩
  · exact ⟨_, rfl⟩
  · exact absurd rfl h1
  · exact absurd rfl h2
theorem GEnd.later {α : Type} {d : α → PyData} {C B : Addr} {K : PySem.W.Frag} {p l : Addr} {ws : List Str} {H H1 : Hp} {Q : VK} {E : XK} {r : Except Nat (α × Nat)} (h : GEnd d C B K p l ws H Q E r) (b : But p H H1) : GEnd d C B K p l ws H1 Q E r := by
  cases r with
  | error j => exact Ref.later h b
  | ok x => exact fun v H' b' w d' => h v H' (b.trans b') w d'
/-! ### a statement from its parts -/
section
variable {ws : List Str} {s : Sc}
theorem part_e {i j : Nat} {x : Pt} (h : pPart ws s "expression" i = .ok (x, j)) : ∃ e, x = .e e := by
  unfold pPart at h
  rw [if_pos rfl] at h
  split at h
  · cases h
  · cases h; exact ⟨_, rfl⟩
theorem part_n {i j : Nat} {x : Pt} (h : pPart ws s "number" i = .ok (x, j)) : ∃ n, x = .n n := by
  unfold pPart at h
  rw [if_neg (by decide), if_pos rfl] at h
  split at h
  · cases h; exact ⟨_, rfl⟩
  · cases h
theorem part_s {k : Str} {i j : Nat} {x : Pt} (h : pPart ws s k i = .ok (x, j)) (h1 : k ≠ "expression" := by decide) (h2 : k ≠ "number" := by decide) : ∃ y, x = .s y := by
  unfold pPart at h
  rw [if_neg h1, if_neg h2] at h
  split at h
  · split at h
    · cases h; exact ⟨_, rfl⟩
    · cases h
  · cases h
theorem parts_cons {k : Str} {ks : List Str} {i j : Nat} {xs : List Pt} (h : pParts ws s (k :: ks) i = .ok (xs, j)) : ∃ x ys m, xs = x :: ys ∧ pPart ws s k i = .ok (x, m) ∧ pParts ws s ks m = .ok (ys, j) := by
  unfold pParts at h
  split at h
  · cases h
  · rename_i x m h1
    split at h
    · cases h
    · rename_i ys q h2
      cases h
      exact ⟨x, ys, m, rfl, h1, h2⟩
theorem parts_nil {i j : Nat} {xs : List Pt} (h : pParts ws s [] i = .ok (xs, j)) : xs = [] := by
  unfold pParts at h
  cases h
  rfl
theorem mk_d {w : Str} {i j : Nat} {xs : List Pt} (hw : w ∈ words) (h : pParts ws s (formOf w) i = .ok (xs, j)) : (mkStm w xs).d = .tuple (.str w :: xs.map Pt.d) := by
  simp only [words, List.mem_cons, List.not_mem_nil, or_false] at hw
  rcases hw with rfl | rfl | rfl | rfl | rfl | rfl | rfl
  · obtain ⟨x, ys, m, rfl, h1, h2⟩ := parts_cons (k := "variable") (ks := ["expression"]) h
    obtain ⟨y, zs, m2, rfl, h3, h4⟩ := parts_cons h2
    obtain rfl := parts_nil h4
    obtain ⟨a, rfl⟩ := part_s h1
    obtain ⟨b, rfl⟩ := part_e h3
    unfold mkStm
    rw [if_pos rfl]
    show (Stm.set a b).d = _
    unfold Stm.d
    rfl
  · obtain ⟨x, ys, m, rfl, h1, h2⟩ := parts_cons (k := "local") (ks := ["expression"]) h
    obtain ⟨y, zs, m2, rfl, h3, h4⟩ := parts_cons h2
    obtain rfl := parts_nil h4
    obtain ⟨a, rfl⟩ := part_s h1
    obtain ⟨b, rfl⟩ := part_e h3
    unfold mkStm
    rw [if_neg (by decide), if_pos rfl]
    show (Stm.lt a b).d = _
    unfold Stm.d
    rfl
  · obtain ⟨x, ys, m, rfl, h1, h2⟩ := parts_cons (k := "local") (ks := ["number"]) h
    obtain ⟨y, zs, m2, rfl, h3, h4⟩ := parts_cons h2
    obtain rfl := parts_nil h4
    obtain ⟨a, rfl⟩ := part_s h1
    obtain ⟨b, rfl⟩ := part_n h3
    unfold mkStm
    rw [if_neg (by decide), if_neg (by decide), if_pos rfl]
    show (Stm.draw a b).d = _
    unfold Stm.d
    rfl
  · obtain ⟨x, ys, m, rfl, h1, h2⟩ := parts_cons (k := "table") (ks := ["expression", "expression"]) h
    obtain ⟨y, zs, m2, rfl, h3, h4⟩ := parts_cons h2
    obtain ⟨z, us, m3, rfl, h5, h6⟩ := parts_cons h4
    obtain rfl := parts_nil h6
    obtain ⟨a, rfl⟩ := part_s h1
    obtain ⟨b, rfl⟩ := part_e h3
    obtain ⟨c, rfl⟩ := part_e h5
    unfold mkStm
    rw [if_neg (by decide), if_neg (by decide), if_neg (by decide), if_pos rfl]
    show (Stm.put a b c).d = _
    unfold Stm.d
    rfl
  · obtain ⟨x, ys, m, rfl, h1, h2⟩ := parts_cons (k := "local") (ks := ["lots", "expression"]) h
    obtain ⟨y, zs, m2, rfl, h3, h4⟩ := parts_cons h2
    obtain ⟨z, us, m3, rfl, h5, h6⟩ := parts_cons h4
    obtain rfl := parts_nil h6
    obtain ⟨a, rfl⟩ := part_s h1
    obtain ⟨b, rfl⟩ := part_s h3
    obtain ⟨c, rfl⟩ := part_e h5
    unfold mkStm
    rw [if_neg (by decide), if_neg (by decide), if_neg (by decide), if_neg (by decide), if_pos rfl]
    show (Stm.lot a b c).d = _
    unfold Stm.d
    rfl
  · obtain ⟨x, ys, m, rfl, h1, h2⟩ := parts_cons (k := "local") (ks := ["asked", "expression"]) h
    obtain ⟨y, zs, m2, rfl, h3, h4⟩ := parts_cons h2
    obtain ⟨z, us, m3, rfl, h5, h6⟩ := parts_cons h4
    obtain rfl := parts_nil h6
    obtain ⟨a, rfl⟩ := part_s h1
    obtain ⟨b, rfl⟩ := part_s h3
    obtain ⟨c, rfl⟩ := part_e h5
    unfold mkStm
    rw [if_neg (by decide), if_neg (by decide), if_neg (by decide), if_neg (by decide), if_neg (by decide), if_pos rfl]
    show (Stm.ask a b c).d = _
    unfold Stm.d
    rfl
  · obtain rfl := parts_nil (s := s) (ws := ws) (i := i) (j := j) h
    unfold mkStm
    rw [if_neg (by decide), if_neg (by decide), if_neg (by decide), if_neg (by decide), if_neg (by decide), if_neg (by decide)]
    unfold Stm.d
    rfl
theorem form_kinds {w k : Str} (hw : w ∈ words) (hk : k ∈ formOf w) : k ∈ kinds := by
  have all : ∀ w ∈ words, ∀ k ∈ formOf w, k ∈ kinds := by decide +kernel
  exact all w hw k hk
theorem parts_snoc : ∀ {ks : List Str} {k : Str} {i j m : Nat} {xs : List Pt} {y : Pt}, pParts ws s ks i = .ok (xs, j) → pPart ws s k j = .ok (y, m) → pParts ws s (ks ++ [k]) i = .ok (xs ++ [y], m)
  | [], k, i, j, m, xs, y, h1, h2 => by
    unfold pParts at h1
    cases h1
    show pParts ws s [k] i = _
    unfold pParts
    rw [h2]
    rfl
  | k0 :: ks, k, i, j, m, xs, y, h1, h2 => by
    obtain ⟨x, ys, q, rfl, e1, e2⟩ := parts_cons h1
    have ih := parts_snoc e2 h2
    show pParts ws s (k0 :: (ks ++ [k])) i = _
    unfold pParts
    rw [e1]
    dsimp only
    rw [ih]
    rfl
theorem parts_nol : ∀ xs : List Pt, nolAll (xs.map Pt.d) = true
  | [] => rfl
  | x :: xs => by show (Gm.nol x.d && nolAll (xs.map Pt.d)) = true; rw [Pt.nol x, parts_nol xs]; rfl
end
end Pz
set_option Elab.async false
set_option linter.all false
set_option maxRecDepth 100000
set_option maxHeartbeats 2000000
/-! Games: what is read. -/
namespace Pz
open PySem L2 Gm
abbrev Row := Str × Int × Int
section
variable (ws : List Str)
def nameAt (taken : List Str) (i : Nat) : Bool := isName (wd ws i) && !decide (wd ws i ∈ taken)
def numAt (lo hi : Int) (i : Nat) : Bool := isNum (wd ws i) && decide (lo ≤ (numW (wd ws i) : Nat) ∧ ((numW (wd ws i) : Nat) : Int) ≤ hi)
def numI (i : Nat) : Int := ((numW (wd ws i) : Nat) : Int)
def pVar (found : List Row) (i : Nat) : Except Nat (Row × Nat) :=
  if nameAt ws (found.map (·.1)) i = true then
    if numAt ws 1 65535 (i + 1) = true then
      if numAt ws 0 (numI ws (i + 1) - 1) (i + 2) = true then .ok ((wd ws i, numI ws (i + 1), numI ws (i + 2)), i + 3) else .error (i + 2)
    else .error (i + 1)
  else .error i
def pMap (found : List Row) (i : Nat) : Except Nat (Row × Nat) :=
  if nameAt ws (found.map (·.1)) i = true then
    if numAt ws 1 64 (i + 1) = true then
      if numAt ws 1 64 (i + 2) = true then .ok ((wd ws i, numI ws (i + 1), numI ws (i + 2)), i + 3) else .error (i + 2)
    else .error (i + 1)
  else .error i
/-- lines of a kind, at most f more -/
def pMany {α : Type} (kind : Str) (one : List α → Nat → Except Nat (α × Nat)) : Nat → List α → Nat → Except Nat (List α × Nat)
  | 0, found, i => .ok (found, i)
  | f + 1, found, i => if wd ws i = kind then (match one found (i + 1) with
      | .error j => .error j
      | .ok (x, j) => pMany kind one f (found ++ [x]) j)
    else .ok (found, i)
def pMore (vars : List Str) : Nat → List Str → Nat → Except Nat (List Str × Nat)
  | 0, found, i => .ok (found, i)
  | f + 1, found, i => if wd ws i = "local" then (if nameAt ws (vars ++ found) (i + 1) = true then pMore vars f (found ++ [wd ws (i + 1)]) (i + 2) else .error (i + 1)) else .ok (found, i)
def pLocals (vars : List Str) (i : Nat) : Except Nat (List Str × Nat) := if nameAt ws vars i = true then pMore ws vars 5 [wd ws i] (i + 1) else .error i
/-- the names around the procedures -/
structure Ctx where
  vars : List Str
  tabs : List Str
  lots : List Str
  asks : List Str
def Ctx.sc (c : Ctx) (locs : List Str) : Sc := ⟨locs, c.vars, c.tabs, c.lots, c.asks⟩
def pProc (c : Ctx) (found : List Pr) (i : Nat) : Except Nat (Pr × Nat) :=
  if nameAt ws (found.map (·.name)) i = true then
    if numAt ws 1 64 (i + 1) = true then
      if numAt ws 1 64 (i + 2) = true then
        match pLocals ws c.vars (i + 3) with
        | .error j => .error j
        | .ok (locs, j) => match pBlk ws (c.sc locs) 6 j with
          | .error m => .error m
          | .ok (b, m) => if wd ws m = "answer" then (match pExpr ws (c.sc locs) 7 (m + 1) with
              | .error q => .error q
              | .ok (e, q) => if wd ws q = "end" then .ok (⟨wd ws i, numI ws (i + 1), numI ws (i + 2), locs, b, e⟩, q + 1) else .error q)
            else .error m
      else .error (i + 2)
    else .error (i + 1)
  else .error i
def pGame (asks : List Str) : Except Nat Ga :=
  match pMany ws "var" (pVar ws) 6 [] 0 with
  | .error j => .error j
  | .ok (vs, j) => match pMany ws "table" (pMap ws) 6 [] j with
    | .error m => .error m
    | .ok (ts, m) => match pMany ws "lots" (pMap ws) 6 [] m with
      | .error n => .error n
      | .ok (os, n) => match pMany ws "proc" (pProc ws ⟨vs.map (·.1), ts.map (·.1), os.map (·.1), asks⟩) 6 [] n with
        | .error q => .error q
        | .ok (ps, q) => if q = ws.length then .ok ⟨vs, ts, os, ps⟩ else .error q
end
theorem isName_empty : isName Str.empty = false := by decide +kernel
theorem nameAt_ne {ws : List Str} {t : List Str} {i : Nat} (h : nameAt ws t i = true) : wd ws i ≠ Str.empty := fun z => by
  unfold nameAt at h
  rw [z, isName_empty] at h
  cases h
/-- what a name makes in the data: the first part of each item -/
def Heads (ds : List PyData) (names : List Str) : Prop := ds.length = names.length ∧ ∀ (i : Nat) (n : Str), names[i]? = some n → ∃ r, ds[i]? = some (.tuple (.str n :: r))
theorem heads_rows (rs : List Row) : Heads (rs.map trip) (rs.map (·.1)) := by
  refine ⟨by rw [List.length_map, List.length_map], fun i n h => ?_⟩
  rw [List.getElem?_map] at h
  obtain ⟨r, e, rfl⟩ := Option.map_eq_some_iff.mp h
  exact ⟨_, by rw [List.getElem?_map, e]; rfl⟩
theorem heads_procs (ps : List Pr) : Heads (ps.map Pr.d) (ps.map (·.name)) := by
  refine ⟨by rw [List.length_map, List.length_map], fun i n h => ?_⟩
  rw [List.getElem?_map] at h
  obtain ⟨r, e, rfl⟩ := Option.map_eq_some_iff.mp h
  exact ⟨_, by rw [List.getElem?_map, e]; rfl⟩
/-! ### what the defs promise -/
section
variable (C CR CG B : Addr) (K : PySem.W.Frag)
def spAnother : Sp := fun vs H Q _ => ∃ (p l f : Addr) (ws : List Str) (i : Nat) (k : Str) (xs : List V), vs = [.ref p, .str k, .ref f] ∧ WAt C H p l ws i ∧ k ≠ Str.empty ∧ SqL K H f xs ∧
  (if wd ws i = k ∧ xs.length ≠ 6 then ∀ H', But p H H' → WAt C H' p l ws (i + 1) → Q (.bl true) H' else Q (.bl false) H)
def spFirst : Sp := fun vs H Q _ => ∃ (a : Addr) (xs : List V) (ds : List PyData) (names : List Str), vs = [.ref a] ∧ (SqL K H a xs ∨ SqT K H a xs) ∧ DpAll K H xs ds ∧ nolAll ds = true ∧ Heads ds names ∧ xs.length < 1000000 ∧
  ∀ L H', Same H H' → H L = none → H' L = some (.lst (names.map V.str)) → Q (.ref L) H'
def spRows (kind : Option Str) (one : List Str → List Row → Nat → Except Nat (Row × Nat)) : Sp := fun vs H Q E => ∃ (p l : Addr) (ws : List Str) (i : Nat) (k : Str), (match kind with | some k' => vs = [.ref p] ∧ k = k' | none => vs = [.ref p, .str k]) ∧ k ≠ Str.empty ∧ WAt C H p l ws i ∧
  GEnd trips C B K p l ws H Q E (pMany ws k (one ws) 6 [] i)
def spLocals : Sp := fun vs H Q E => ∃ (p l a : Addr) (ws : List Str) (i : Nat) (vars : List Str), vs = [.ref p, .ref a] ∧ WAt C H p l ws i ∧ SqL K H a (vars.map V.str) ∧ vars.length ≤ 100 ∧ GEnd strD C B K p l ws H Q E (pLocals ws vars i)
/-- the names around the procedures, in a dict -/
def CtxAt (H : Hp) (nd : Addr) (c : Ctx) : Prop := ∃ a b d e, H nd = some (.dK [(.inr "variable", .ref a), (.inr "table", .ref b), (.inr "lots", .ref d), (.inr "asked", .ref e)]) ∧
  SqL K H a (c.vars.map V.str) ∧ SqL K H b (c.tabs.map V.str) ∧ SqL K H d (c.lots.map V.str) ∧ SqL K H e (c.asks.map V.str)
structure Ctx.Ok (c : Ctx) : Prop where
  v : Str.empty ∉ c.vars
  t : Str.empty ∉ c.tabs
  o : Str.empty ∉ c.lots
  a : Str.empty ∉ c.asks
  vl : c.vars.length ≤ 100
def spReader : Sp := fun vs H Q _ => ∃ (r p nd dx : Addr) (s : Sc), vs = [.ref r, .ref p, .ref nd] ∧ H r = some (.ins CR dx []) ∧ Names K H nd s ∧ s.vars.length ≤ 100 ∧ s.locs.length ≤ 100 ∧ ∀ H', But r H H' → RAt CR K H' r p s → Q .non H'
def spProc : Sp := fun vs H Q E => ∃ (p l nd t : Addr) (ws : List Str) (i : Nat) (c : Ctx) (found : List Pr), vs = [.ref p, .ref nd, .ref t] ∧ WAt C H p l ws i ∧ CtxAt K H nd c ∧ c.Ok ∧ SqL K H t ((found.map (·.name)).map V.str) ∧ GEnd Pr.d C B K p l ws H Q E (pProc ws c found i)
def procsD (ps : List Pr) : PyData := .tuple (ps.map Pr.d)
def spProcs : Sp := fun vs H Q E => ∃ (p l nd : Addr) (ws : List Str) (i : Nat) (c : Ctx), vs = [.ref p, .ref nd] ∧ WAt C H p l ws i ∧ CtxAt K H nd c ∧ c.Ok ∧ GEnd procsD C B K p l ws H Q E (pMany ws "proc" (pProc ws c) 6 [] i)
/-- a game at an address -/
def GameAt (H : Hp) (r : Addr) (g : Ga) : Prop := ∃ dx fs v1 v2 v3 v4, H r = some (.ins CG dx fs) ∧ fs.lookup ("variables" : Str) = some v1 ∧ fs.lookup ("tables" : Str) = some v2 ∧ fs.lookup ("lots" : Str) = some v3 ∧ fs.lookup ("procs" : Str) = some v4 ∧
  (∀ x : Str, x ≠ "variables" → x ≠ "tables" → x ≠ "lots" → x ≠ "procs" → fs.lookup x = none) ∧ Dp K H v1 (trips g.vars) ∧ Dp K H v2 (trips g.tabs) ∧ Dp K H v3 (trips g.lots) ∧ Dp K H v4 (procsD g.procs)
def spGInit : Sp := fun vs H Q _ => ∃ (r dx : Addr) (v1 v2 v3 v4 : V), vs = [.ref r, v1, v2, v3, v4] ∧ H r = some (.ins CG dx []) ∧ ∀ H' fs, But r H H' → H' r = some (.ins CG dx fs) → fs.lookup ("variables" : Str) = some v1 → fs.lookup ("tables" : Str) = some v2 → fs.lookup ("lots" : Str) = some v3 → fs.lookup ("procs" : Str) = some v4 →
  (∀ x : Str, x ≠ "variables" → x ≠ "tables" → x ≠ "lots" → x ≠ "procs" → fs.lookup x = none) → Q .non H'
def spGame : Sp := fun vs H Q E => ∃ (x : Str) (a : Addr) (asks : List Str), vs = [.str x, .ref a] ∧ x.length ≤ 900000 ∧ (toWords x).length < 1000000 ∧ (∀ w ∈ toWords x, w.length ≤ 1000000) ∧ SqT K H a (asks.map V.str) ∧ (∀ w ∈ asks, w.length ≤ 1000000) ∧ asks.length ≤ 1000 ∧
  match pGame (toWords x) (asks.filter isName) with
  | .ok g => ∀ r H', Same H H' → GameAt CG K H' r g → Q (.ref r) H'
  | .error j => ∀ d H', Same H H' → H' d = some (.xd [("at", .int j)]) → E (.ref B) (some d) H'
end
def kv4 (a b d e : V) : List (Key × V) := [((.inr "variable" : Key), a), (.inr "table", b), (.inr "lots", d), (.inr "asked", e)]
theorem merge4 (a b d e : V) : mergeK [] [((.inr "variable" : Key), a), (.inr "table", b), (.inr "lots", d), (.inr "asked", e)] = [(.inr "variable", a), (.inr "table", b), (.inr "lots", d), (.inr "asked", e)] := by rfl
theorem put5 (a b d e f : V) : putK [((.inr "variable" : Key), a), (.inr "table", b), (.inr "lots", d), (.inr "asked", e)] (.inr "local") f = [(.inr "variable", a), (.inr "table", b), (.inr "lots", d), (.inr "asked", e), (.inr "local", f)] := by rfl
theorem names_ctx {K : PySem.W.Frag} {H : Hp} {nd a b d e t : Addr} {c : Ctx} {locs : List Str} (h : H nd = some (.dK [(.inr "variable", .ref a), (.inr "table", .ref b), (.inr "lots", .ref d), (.inr "asked", .ref e), (.inr "local", .ref t)]))
    (ha : SqL K H a (c.vars.map V.str)) (hb : SqL K H b (c.tabs.map V.str)) (hd : SqL K H d (c.lots.map V.str)) (he : SqL K H e (c.asks.map V.str)) (ht : SqT K H t (locs.map V.str)) : Names K H nd (c.sc locs) := by
  refine ⟨_, h, fun k => ?_⟩
  unfold kindNames
  by_cases h1 : k = "variable"
  · subst h1
    exact ⟨a, rfl, .inl ha⟩
  · rw [if_neg h1]
    by_cases h2 : k = "local"
    · subst h2
      exact ⟨t, rfl, .inr ⟨rfl, ht⟩⟩
    · rw [if_neg h2]
      by_cases h3 : k = "table"
      · subst h3
        exact ⟨b, rfl, .inl hb⟩
      · rw [if_neg h3]
        by_cases h4 : k = "lots"
        · subst h4
          exact ⟨d, rfl, .inl hd⟩
        · rw [if_neg h4]
          by_cases h5 : k = "asked"
          · subst h5
            exact ⟨e, rfl, .inl he⟩
          · rw [if_neg h5]
            rw [valV_neg (fun z => h1 (Sum.inr.inj z).symm), valV_neg (fun z => h3 (Sum.inr.inj z).symm), valV_neg (fun z => h4 (Sum.inr.inj z).symm), valV_neg (fun z => h5 (Sum.inr.inj z).symm), valV_neg (fun z => h2 (Sum.inr.inj z).symm)]
            rfl
/-! ### names that were read are names -/
theorem more_ok {ws : List Str} {vars : List Str} : ∀ {f : Nat} {found : List Str} {i j : Nat} {locs : List Str}, Str.empty ∉ found → found.length + f ≤ 6 → pMore ws vars f found i = .ok (locs, j) → Str.empty ∉ locs ∧ locs.length ≤ 6
  | 0, found, i, j, locs, h, hl, e => by
    unfold pMore at e
    cases e
    exact ⟨h, by omega⟩
  | f + 1, found, i, j, locs, h, hl, e => by
    unfold pMore at e
    split at e
    · split at e
      · rename_i h1
        refine more_ok (fun z => ?_) ?_ e
        · rcases List.mem_append.mp z with z | z
          · exact h z
          · exact nameAt_ne h1 (List.mem_singleton.mp z).symm
        · rw [List.length_append]
          show found.length + 1 + f ≤ 6
          omega
      · cases e
    · cases e
      exact ⟨h, by omega⟩
theorem locals_ok {ws : List Str} {vars : List Str} {i j : Nat} {locs : List Str} (e : pLocals ws vars i = .ok (locs, j)) : Str.empty ∉ locs ∧ locs.length ≤ 6 := by
  unfold pLocals at e
  split at e
  · rename_i h1
    exact more_ok (fun z => nameAt_ne h1 (List.mem_singleton.mp z).symm) (Nat.le_refl 6) e
  · cases e
theorem But.all {p : Addr} {H0 H H' : Hp} (h0 : H0 p = none) (s : Same H0 H) (b : But p H H') : Same H0 H' := fun a o e => b a o (s a o e) (ne_of_none e h0)
theorem many_ok {ws : List Str} {α : Type} {k : Str} {nm : α → Str} {one : List α → Nat → Except Nat (α × Nat)} (h1 : ∀ f i x j, one f i = .ok (x, j) → nm x ≠ Str.empty) : ∀ {f : Nat} {found : List α} {i j : Nat} {rs : List α}, (∀ x ∈ found, nm x ≠ Str.empty) → found.length + f ≤ 6 → pMany ws k one f found i = .ok (rs, j) → (∀ x ∈ rs, nm x ≠ Str.empty) ∧ rs.length ≤ 6
  | 0, found, i, j, rs, h, hl, e => by
    unfold pMany at e
    cases e
    exact ⟨h, by omega⟩
  | f + 1, found, i, j, rs, h, hl, e => by
    unfold pMany at e
    split at e
    · split at e
      · cases e
      · rename_i x m hx
        refine many_ok h1 (fun y hy => ?_) ?_ e
        · rcases List.mem_append.mp hy with z | z
          · exact h y z
          · rw [List.mem_singleton.mp z]
            exact h1 _ _ _ _ hx
        · rw [List.length_append]
          show found.length + 1 + f ≤ 6
          omega
    · cases e
      exact ⟨h, by omega⟩
theorem var_name {ws : List Str} (f : List Row) (i : Nat) (x : Row) (j : Nat) (e : pVar ws f i = .ok (x, j)) : x.1 ≠ Str.empty := by
  unfold pVar at e
  split at e
  · rename_i h1
    split at e
    · split at e
      · cases e
        exact nameAt_ne h1
      · cases e
    · cases e
  · cases e
theorem map_name {ws : List Str} (f : List Row) (i : Nat) (x : Row) (j : Nat) (e : pMap ws f i = .ok (x, j)) : x.1 ≠ Str.empty := by
  unfold pMap at e
  split at e
  · rename_i h1
    split at e
    · split at e
      · cases e
        exact nameAt_ne h1
      · cases e
    · cases e
  · cases e
theorem not_empty {rs : List Row} (h : ∀ x ∈ rs, x.1 ≠ Str.empty) : Str.empty ∉ rs.map (·.1) := fun z => by
  obtain ⟨x, hx, e⟩ := List.mem_map.mp z
  exact h x hx e
end Pz
set_option Elab.async false
set_option linter.all false
set_option maxRecDepth 100000
set_option maxHeartbeats 4000000
/-! A list comprehension whose element may raise: the exception of a call leaves the block, and the def. -/
namespace Mine
open PySem PySem.Calls L2 PyProof.Rows
/-- what a call within a block let out -/
def XC (Y : Cx) (E : XK) : Value → Shared → Prop := fun u t => ∃ (pins : List (Addr × Obj)) (σ : L2.St) (H : Hp) (s : Shared), Inv Y pins σ H s ∧ L2.CX Y.prog Y.w Y.stack H s E u t
/-- the block's context, where calls may raise -/
abbrev xb (Y : Cx) (E : XK) : Cx := { Y with xe := XC Y E }
section
variable {Y : Cx} {E : XK} {pins : List (Addr × Obj)} {σ : L2.St} {H : Hp} {s : Shared}
theorem xb_to (I : Inv (xb Y E) pins σ H s) : Inv Y pins σ H s :=
  ⟨⟨I.ok.mod, I.ok.kind, I.ok.glob, I.ok.blt, I.ok.above, I.ok.inj, I.ok.has, I.ok.cab, I.ok.hd, I.ok.frames, I.ok.stk, I.ok.exf, I.ok.bs, I.ok.bsz, I.ok.noex, I.ok.exfs, I.ok.funs, I.ok.frf⟩, I.os, I.bare, I.base, I.loc, I.cell, I.free, I.freeC, I.pin, I.hok, I.len⟩
theorem xb_of (I : Inv Y pins σ H s) : Inv (xb Y E) pins σ H s :=
  ⟨⟨I.ok.mod, I.ok.kind, I.ok.glob, I.ok.blt, I.ok.above, I.ok.inj, I.ok.has, I.ok.cab, I.ok.hd, I.ok.frames, I.ok.stk, I.ok.exf, I.ok.bs, I.ok.bsz, I.ok.noex, I.ok.exfs, I.ok.funs, I.ok.frf⟩, I.os, I.bare, I.base, I.loc, I.cell, I.free, I.freeC, I.pin, I.hok, I.len⟩
end
/-- a call within the block may raise -/
theorem passC {Y : Cx} {E : XK} : Passes (L2.CX Y.prog Y.w) (xb Y E) E := fun pins σ H s _ _ I c => ⟨pins, σ, H, s, xb_to I, c⟩
theorem noted_as {e : Value} {env env' : Env} (h : env.frame = env'.frame) : noteFrame e env = noteFrame e env' := by
  unfold noteFrame PySem.frameOf
  rw [h]
theorem frames_as {B B' h h' : Heap} : ∀ {l : List Env}, (∀ L ∈ frs l, B'.get? L = none) → (∀ L ∈ frs l, h'.get? L = h.get? L) → h.FunFrames B l → h'.FunFrames B' l
  | [], _, _, _ => trivial
  | env :: l, hn, hs, ⟨hk, ⟨L, o, hf, _, ho, hd⟩, hr⟩ => by
    have hL : L ∈ frs (env :: l) := List.mem_filterMap.mpr ⟨env, List.mem_cons_self, hf⟩
    have sub : ∀ b ∈ frs l, b ∈ frs (env :: l) := fun b hb => by
      obtain ⟨e, he, q⟩ := List.mem_filterMap.mp hb
      exact List.mem_filterMap.mpr ⟨e, List.mem_cons_of_mem _ he, q⟩
    exact ⟨hk, ⟨L, o, hf, hn L hL, (hs L hL).trans ho, hd⟩, frames_as (fun b hb => hn b (sub b hb)) (fun b hb => hs b (sub b hb)) hr⟩
/-- how a comprehension's block ends -/
def CPost (M : Model) (A : Around) (E : Value → Shared → Prop) (Q : Value → Shared → Prop) (acc : Value) (ce : Env) (r : Result) (t : Shared) : Prop :=
  match r with
  | .ok _ => ∃ m, t.heap.Ns ce.locals m ∧ ∀ h', Heap.SameBut ce.locals t.heap h' → Q acc { t with heap := h' }
  | .error x => ∃ m, t.heap.Ns ce.locals m ∧ ∀ h', Heap.SameBut ce.locals t.heap h' → wpAny M A (passOn "comprehension.variables-let-go" x ce : Sem Value) Q E { t with heap := h' }
theorem comp_cx {M : Model} {A : Around} {E : Value → Shared → Prop} {s : Shared} {env : Env} {e : Expr} {scope : Scope} {pos : Pos} {newAcc first : Sem Value} {g : Comprehension} {gs : List Comprehension} {cl : List (Str × Addr)} {Q : Value → Shared → Prop}
    (h1 : clausesOf e = g :: gs) (h2 : ∀ x, foldedSetIterable g.iter env x = pure x) (h3 : closureFor scope env = pure cl) (h4 : scope.kind = .function) (h5 : ∀ x ∈ scope.names, x.2 = .local → scope.names.lookup x.1 = some .local)
    (h : wpAny M A first (fun x t1 => wpAny M A (pyIter x) (fun it t2 => wpAny M A newAcc (fun acc t3 => wpAny M A (newFunctionEnv scope env.globals cl [] env.qual none .none (some env)) (fun ce t4 =>
      codeAny M A (.compStart e 0 it acc { ce with scope := relabel scope env }) (CPost M A E Q acc { ce with scope := relabel scope env }) t4) E t3) E t2) E t1) E s) :
    wpAny M A (comprehension e scope env pos newAcc false first none) Q E s := by
  unfold comprehension
  rw [h3, h1]
  refine wpAny_bind (wpAny_mono h (fun x t1 k1 => ?_) fun _ _ z => z)
  refine wpAny_bind (wpAny_standAt (wpAny_bind (wpAny_of_eq (h2 x) ?_)))
  refine wpAny_bind (wpAny_holding (wpAny_mono k1 (fun it t2 k2 => ?_) fun _ _ z => z))
  refine wpAny_standIf (wpAny_bind (wpAny_mono k2 (fun acc t3 k3 => ?_) fun _ _ z => z))
  refine wpAny_bind (wpAny_pure (wpAny_bind (wpAny_mono k3 (fun ce t4 k4 => ?_) fun _ _ z => z)))
  dsimp only
  have hv : ∀ x ∈ (scope.names.filter fun x => (x.2 == .local || x.2 == .cell) && x.1 != (".0" : Str)).reverse, x.2 = .local → Env.kindOf { ce with scope := relabel scope env } x.1 = some .local := fun x hx hl =>
    lookup_relabel_local (h5 x (List.mem_filter.mp (List.mem_reverse.mp hx)).1 hl)
  refine wpAny_holding (wpAny_bind (wpAny_attempt (wpAny_holding (wpAny_run (codeAny_mono k4 fun r t hr => ?_)))))
  cases r with
  | ok f =>
    obtain ⟨m, hn, q⟩ := hr
    refine wpAny_bind (wpAny_holding (wpAny_comp_letGo (cenv := { ce with scope := relabel scope env }) h4 _ t m hv hn fun h' m' _ sb => ?_))
    exact wpAny_pure (q h' sb)
  | error x =>
    obtain ⟨m, hn, q⟩ := hr
    exact wpAny_bind (wpAny_holding (wpAny_comp_letGo (cenv := { ce with scope := relabel scope env }) h4 _ t m hv hn fun h' m' _ sb => q h' sb))
section
variable {X : Cx} {W : WX} {E : XK} {pins : List (Addr × Obj)} {σ : L2.St} {H3 : Hp} {s3 : Shared}
/-- the exception of a call within the block: noted, the block's names let go, raised on -/
theorem blk_out {scope : Scope} {ce : Env} {fp : List Addr} {acc : Value} {Q : Value → Shared → Prop} {E2 : Value → Shared → Prop} {u : Value} {t : Shared} (tk : Takes X W) (hW : ∀ cls d σ H, E cls d H → W cls d σ H) (hst : X.stack = X.env :: X.outer) (hf : X.env.frame = some X.env.locals)
    (I3 : Inv X pins σ H3 s3) (f3 : ∀ b ∈ fp, FpOk X pins H3 b ∧ b < s3.heap.objs.size) (hC : ce.locals = s3.heap.objs.size) (hcf : ce.frame = X.env.frame) (h : XC (X.blk s3 H3 scope ce fp) E u t) :
    wpAny (model X.prog X.w) X.A (noteFrame u ce) (fun _ t1 => CPost (model X.prog X.w) X.A X.xe Q acc ce (.error u) t1) E2 t := by
  obtain ⟨py, σy, H, s, Iy, a, B, H', cls, d, rfl, fl, hok, ub, na, os, ag, hE⟩ := h
  have fl : HandSPX.FlyingZ B X.stack a (Zc cls d) t.heap := fl
  have ub : UB (frs X.stack) H H' s.heap B t.heap := ub
  have hfr : X.A.frames = some (X.env :: X.outer) := by rw [I3.ok.frames, hst]
  generalize hCe : ce.locals = C at hC
  -- the block's own object
  have hlow : ∀ b o, s3.heap.get? b = some o → b ≠ C := fun b o e z => by
    rw [z, hC] at e
    exact absurd (Heap.lt_size e) (Nat.lt_irrefl _)
  have nfr : ∀ b ∈ frs X.stack, b ≠ C := fun b hb => by
    obtain ⟨_, o, e, _⟩ := I3.stack.mem hb
    exact hlow b o e
  have Cfr : C ∉ frs X.stack := fun hb => nfr C hb rfl
  have HC : H C = none := by
    have z : H ce.locals = none := Iy.free
    rw [hCe] at z
    exact z
  obtain ⟨m, hn, _⟩ := Iy.loc
  have hn : s.heap.Ns ce.locals m := hn
  rw [hCe] at hn
  obtain ⟨oC, es, ep, eC, rC⟩ := hn
  have BC : B.get? C = some oC := ub.keep C oC eC HC Cfr
  have H'C : H' C = none := ub.free C oC eC HC
  rw [noted_as hcf]
  rw [hst] at fl
  refine HandSPX.looks_onZ Zc.steady hfr hf fl fun h1 hh up1 => ?_
  rw [← hst] at hh
  obtain ⟨k1, k2, k3, oe, vs, T, oT, ts, he, hz, hd, hv, hnT, hTe, hT, hdT, h3⟩ := hh
  have aC : a ≠ C := fun z => by rw [z, BC] at k2; cases k2
  have TC : T ≠ C := fun z => by rw [z, BC] at hnT; cases hnT
  show CPost _ _ _ _ _ _ (.error (.ref a)) _
  refine ⟨m, ?_, fun h' sb => ?_⟩
  · rw [hCe]
    exact ⟨oC, es, ep, k1 _ _ BC, rC⟩
  rw [hCe] at sb
  -- the ground without the block's object
  obtain ⟨G, g1, g2⟩ := restrict B fun b => decide (b ≠ C)
  have gB : ∀ b o, G.get? b = some o → b ≠ C ∧ B.get? b = some o := fun b o e => by
    by_cases hb : b = C
    · rw [g2 b (by simp [hb])] at e
      cases e
    · rw [g1 b (by simp [hb])] at e
      exact ⟨hb, e⟩
  have Bg : ∀ b o, b ≠ C → B.get? b = some o → G.get? b = some o := fun b o hb e => by
    rw [g1 b (by simp [hb])]
    exact e
  have gN : ∀ b, B.get? b = none → G.get? b = none := fun b e => by
    cases q : G.get? b with
    | none => rfl
    | some o =>
      rw [(gB b o q).2] at e
      cases e
  have held : HandSPX.HeldZ G X.stack a (Zc cls d) X.env.locals h' := by
    refine ⟨fun b o e => ?_, gN a k2, frames_as (fun L hL => gN L (k3.mem hL).1) (fun L hL => sb.2 L (nfr L hL)) k3, oe, vs, T, oT, ts, (sb.2 a aC).trans he, hz, hd, hv, gN T hnT, hTe, (sb.2 T TC).trans hT, hdT, h3⟩
    exact (sb.2 b (gB b o e).1).trans (k1 b o (gB b o e).2)
  unfold PySem.passOn
  obtain ⟨_, _, _, oe', vs', T', oT', ts', he', _, hd', hv', _⟩ := id held
  refine wpAny_bind (wpAny_field (s := { t with heap := h' }) he' hd' hv' ?_)
  rw [if_neg (show ¬ ((Value.ref T' == Value.none) = true) from by simp)]
  have fin : wpAny (model X.prog X.w) X.A (setFlight (.ref a) ce.frame) (fun _ s7 => wpAny (model X.prog X.w) X.A (throw (.ref a) : Sem Value) Q X.xe s7) X.xe { t with heap := h' } := by
    rw [hcf, hf]
    refine HandSPX.setFlight_onZ held fun h2 hh2 up2 => wpAny_throw (tk _ _ ?_)
    -- the state ahead of the exception
    obtain ⟨S, q1, q2⟩ := restrict h2 fun b => (G.get? b).isSome || decide (b ∈ frs X.stack)
    have gS : ∀ b o, G.get? b = some o → S.get? b = some o := fun b o e => by
      rw [q1 b (by simp [e])]
      exact hh2.1 b o e
    have fS : ∀ b, b ∈ frs X.stack → S.get? b = h2.get? b := fun b hb => q1 b (by simp [hb])
    have oS : ∀ b o, S.get? b = some o → h2.get? b = some o ∧ ((G.get? b).isSome = true ∨ b ∈ frs X.stack) := fun b o e => by
      cases z : ((G.get? b).isSome || decide (b ∈ frs X.stack)) with
      | false =>
        rw [q2 b z] at e
        cases e
      | true =>
        rw [q1 b z] at e
        exact ⟨e, by simpa [Bool.or_eq_true] using z⟩
    have slotF : ∀ b o, s3.heap.get? b = some o → H3 b = none → b ∈ frs X.stack → b ∉ fp → ∃ sl, S.get? b = some { o with slots := sl } := fun b o e n hb hx => by
      obtain ⟨_, o', e', hnf⟩ := I3.stack.mem hb
      rw [e] at e'
      cases e'
      obtain ⟨sl1, e1⟩ := Iy.base.slot b o e n hb hx
      obtain ⟨sl2, e2⟩ := ub.slot b _ e1 hb
      obtain ⟨sl3, e3⟩ := up1 b _ e2 hnf
      obtain ⟨sl4, e4⟩ := up2 b _ ((sb.2 b (nfr b hb)).trans e3) hnf
      exact ⟨sl4, by rw [fS b hb]; exact e4⟩
    have okG : HOk X.prog X.w H' G := fun b o q => (hok b o q).stay (fun c v hc r => Bg c v (fun z => by
        rcases hc with hc | hc
        · rw [z] at hc
          rw [← hc, H'C] at q
          cases q
        · rw [z, H'C] at hc
          cases hc) r) (fun _ r => r) fun _ _ r => r
    refine ⟨a, G, { s3 with heap := S, gens := t.gens, drawn := t.drawn, toks := t.toks }, pins, σ, H', cls, d, rfl, ?_, fun b o e hb => ?_, Heap.UpToSlots.of_keeps fun b o e => (oS b o e).1, .inr (.inr hh2), na, os.trans Iy.os, ag, hW _ _ _ _ hE⟩
    · refine I3.call' (ch := fp) rfl ⟨fun b o e n hb hx => ?_, fun b o e n hb hx => slotF b o e n hb hx, fun b o e n hx => ?_, fun b o e hx => ?_, fun b xs e => ub.tups b xs (Iy.base.tups b xs e), fun b o xs e => ub.frzs b o xs (Iy.base.frzs b o xs e), fun b ps e => ?_⟩
        (okG.kept gS) ag fun b hb => ⟨(f3 b hb).1.2.2.2.1, (f3 b hb).1.2.1, (f3 b hb).1.2.2.2.2.1, (f3 b hb).1.2.2.2.2.2⟩
      · exact gS b o (Bg b o (hlow b o e) (ub.keep b o (Iy.base.keep b o e n hb hx) (Iy.base.free b o e n hx) hb))
      · obtain ⟨o', e'⟩ := Iy.base.there b o e hx
        exact ub.free b o' e' (Iy.base.free b o e n hx)
      · by_cases hb : b ∈ frs X.stack
        · obtain ⟨sl, z⟩ := slotF b o e (I3.stkFree b hb) hb hx
          exact ⟨_, z⟩
        · obtain ⟨o', e'⟩ := Iy.base.there b o e hx
          obtain ⟨o2, e2⟩ := ub.there b o' e' hb
          exact ⟨o2, gS b o2 (Bg b o2 (hlow b o e) e2)⟩
      · obtain ⟨m1, e1⟩ := Iy.base.tbls b ps e
        obtain ⟨m2, e2⟩ := ub.tbls b _ e1
        exact ⟨m1 ++ m2, by rw [e2, Array.append_assoc]⟩
    · obtain ⟨e', z⟩ := oS b o e
      rcases z with z | z
      · obtain ⟨o', q⟩ := Option.isSome_iff_exists.mp z
        have w := gS b o' q
        rw [e] at w
        cases w
        exact q
      · exact absurd z hb
  first
    | exact wpAny_bind (wpAny_pure (wpAny_bind fin))
    | exact wpAny_bind fin
end
section
variable {X : Cx} {W : WX} {E : XK}
theorem pe_lcX {elt tg iter : Expr} {ifs : List Expr} {scope : Scope} {own : List (Str × Nat)} {pos : Pos} {wi : TI} {g : TG} {tt : TT} {te : TE} (tk : Takes X W) (hW : ∀ cls d σ H, E cls d H → W cls d σ H) (hst : X.stack = X.env :: X.outer) (hf : X.env.frame = some X.env.locals)
    (hc : X.calm = true) (hN : X.N.Nodup) (hi : PI X tg iter wi) (ok : BlkOk X.N X.env.scope scope own)
    (hg : ∀ (s : Shared) (H : Hp) (C : Addr) (cl : List (Str × Addr)) (fp : List Addr), PG (X.blk s H scope (compEnvC scope cl C X.env) fp) tg g)
    (ht : ∀ (s : Shared) (H : Hp) (C : Addr) (cl : List (Str × Addr)) (fp : List Addr), PTs (X.blk s H scope (compEnvC scope cl C X.env) fp) ifs tt)
    (he : ∀ (s : Shared) (H : Hp) (C : Addr) (cl : List (Str × Addr)) (fp : List Addr), PE (xb (X.blk s H scope (compEnvC scope cl C X.env) fp) E) elt te) (hs : ∀ x, foldedSetIterable iter X.env x = pure x := by intro _; rfl) :
    PE X (.ListComp elt [⟨tg, iter, ifs, 0⟩] scope pos) (tLc wi g tt te (own.map (·.2))) := by
  refine ⟨fun pins s σ H Q I h => ?_⟩
  rw [eval_ListComp]
  have hfree : ∀ y ∈ scope.names, y.2 = .free → ∃ c, X.env.cells.lookup y.1 = some c := fun y hy e => by
    rcases ok.free y hy e with k | k
    · exact I.ok.has _ (.inl k)
    · exact I.ok.has _ (.inr k)
  refine comp_cx (Q := EP X pins σ Q) rfl hs (closure_ok hfree) ok.kind (fun y hy e => by rw [ok.uniq y hy, e]) (thn (hi.run pins s σ H _ I h) fun xv s1 hx => thn hx fun itv s2 h2 => ?_)
  obtain ⟨it, fp, tn, J, H2, e, I2, T, st2, f2, q⟩ := h2
  subst e
  refine wpAny_newObj_type (newEnv_comp ?_) (by show 0 ≤ sizeLine; decide)
  generalize hD : s2.heap.objs.size = D
  have nD : H2 D = none := I2.hok.fresh (Nat.le_of_eq hD)
  obtain ⟨V, ⟨m0, w0⟩, turn⟩ := q D nD
  generalize hs3 : ({ s2 with heap := s2.heap.push { cls := .type "list", data := .seq ([] : List Value).toArray } } : Shared) = s3
  have h3 : s3.heap = s2.heap.push { cls := .type "list", data := .seq ([] : List Value).toArray } := by rw [← hs3]
  have I3 : Inv X pins σ (upd H2 D (.lst [])) s3 := by
    rw [← hs3]
    refine I2.laid (t' := s2.toks) (fun b o e => Heap.get?_push_of_some _ e) (Nat.le_of_eq hD) ⟨Nat.zero_le _, [], 0, .nil, ?_⟩
    rw [← hD]
    exact Heap.get?_push_size _ rfl
  have below : ∀ b ∈ fp, b < s2.heap.objs.size := fun b hb => let ⟨_, e, _⟩ := T.obj _ _ st2 b hb; Heap.lt_size e
  have f3 : ∀ b ∈ fp, FpOk X pins (upd H2 D (.lst [])) b ∧ b < s3.heap.objs.size := fun b hb => by
    have lt := below b hb
    refine ⟨⟨?_, (f2 b hb).2⟩, by rw [h3, Heap.size_push]; exact Nat.lt_succ_of_lt lt⟩
    rw [upd_ne (by rw [← hD]; exact Nat.ne_of_lt lt)]
    exact (f2 b hb).1
  have st3 : tn 0 s3.heap := T.keep _ _ _ st2 fun b _ o e => by rw [h3]; exact Heap.get?_push_of_some _ e
  have I4 := block_start I3 ok hN f3
  have kg := hg s3 (upd H2 D (.lst [])) s3.heap.objs.size (cellsFrom (s3.heap.objs.size + 1) scope.names (cloFrom X.env.cells scope.names [])) fp
  have kt := ht s3 (upd H2 D (.lst [])) s3.heap.objs.size (cellsFrom (s3.heap.objs.size + 1) scope.names (cloFrom X.env.cells scope.names [])) fp
  have ke := he s3 (upd H2 D (.lst [])) s3.heap.objs.size (cellsFrom (s3.heap.objs.size + 1) scope.names (cloFrom X.env.cells scope.names [])) fp
  show codeAny _ _ (.compStart (.ListComp elt [⟨tg, iter, ifs, 0⟩] scope pos) 0 (.ref it) (.ref D) (compEnvC scope (cellsFrom (s3.heap.objs.size + 1) scope.names (cloFrom X.env.cells scope.names [])) s3.heap.objs.size X.env))
    (CPost (model X.prog X.w) X.A X.xe (EP X pins σ Q) (.ref D) (compEnvC scope (cellsFrom (s3.heap.objs.size + 1) scope.names (cloFrom X.env.cells scope.names [])) s3.heap.objs.size X.env)) { s3 with heap := pushCells (s3.heap.push { cls := .type "dict", data := .dict #[] }) scope.names }
  generalize hce : compEnvC scope (cellsFrom (s3.heap.objs.size + 1) scope.names (cloFrom X.env.cells scope.names [])) s3.heap.objs.size X.env = ce at I4 kg kt ke ⊢
  have cL : ce.locals = s3.heap.objs.size := by subst hce; rfl
  have cF : ce.frame = X.env.frame := by subst hce; rfl
  generalize hH3 : upd H2 D (.lst []) = H3 at I3 I4 kg kt ke w0 f3
  have nfp : ∀ b ∈ fp, H3 b = none := fun b hb => (f3 b hb).1.1
  generalize hs4 : ({ s3 with heap := pushCells (s3.heap.push { cls := .type "dict", data := .dict #[] }) scope.names } : Shared) = s4 at I4 ⊢
  have st4 : tn 0 s4.heap := T.keep _ _ _ st3 fun b _ o e => by rw [← hs4]; exact pushCells_keeps _ _ _ _ (Heap.get?_push_of_some _ e)
  have lie : ∀ {σ' : L2.St} {H' : Hp} {s' : Shared}, Inv (X.blk s3 H3 scope ce fp) [] σ' H' s' → (∀ b ∈ fp, H' b = none) → ∀ b ∈ fp, FpOk (X.blk s3 H3 scope ce fp) [] H' b := fun {σ' H' s'} J hn b hb =>
    ⟨hn b hb, (J.ok.exf b hb).1, J.ok.exfs b hb, .inl hb, fun x c e => (J.ok.exf b hb).2 x c e, fun p hp => absurd (show p ∈ ([] : List (Addr × Obj)) ++ [] from hp) (by simp)⟩
  have loop : codeAny (model X.prog X.w) X.A (.compLoop (.ListComp elt [⟨tg, iter, ifs, 0⟩] scope pos) 0 (.ref it) (.ref D) ce) (CPost (model X.prog X.w) X.A X.xe (EP X pins σ Q) (.ref D) ce) s4 := by
    refine compLoop_any (fun n s' => ∃ i H', Inv (X.blk s3 H3 scope ce fp) [] (wipe σ (own.map (·.2))) H' s' ∧ tn i s'.heap ∧ (∀ b ∈ fp, H' b = none) ∧ V i n H') ?_ m0 ⟨0, H3, I4, st4, nfp, w0⟩
    rintro n s5 ⟨i, H5, I5, st5, n5, w5⟩
    rcases turn i n H5 w5 with ⟨stop, qq⟩ | ⟨go, Nx, hNx, step⟩
    · refine thnF (T.done (X.blk s3 H3 scope ce fp) rfl rfl rfl hc i [] s5 _ H5 (fun _ _ => False) I5 (lie I5 n5) st5 stop) fun r s6 ⟨hr, I6⟩ => ?_
      subst hr
      have I7 : Inv X pins σ H5 s6 := I3.call' (ch := fp) I6.os I6.base I6.hok I6.bare fun b hb => ⟨(f3 b hb).1.2.2.2.1, (f3 b hb).1.2.1, (f3 b hb).1.2.2.2.2.1, (f3 b hb).1.2.2.2.2.2⟩
      have nC : H5 s3.heap.objs.size = none := by
        have z : H5 ce.locals = none := I6.free
        rw [cL] at z
        exact z
      obtain ⟨m, hn, _⟩ := I6.loc
      have hn : s6.heap.Ns ce.locals m := hn
      refine ⟨m, hn, fun h' sb => ?_⟩
      rw [cL] at sb
      obtain ⟨p0, p1, p2, p3, p4, p5⟩ := I3.fpOk (H' := H5) (Nat.le_refl _) nC
      exact ⟨.ref D, H5, I7.turned (t' := s6.toks) (fun b o hb e => (sb.2 b hb).trans e) p0 p1 p3 p4 p5, rfl, qq⟩
    · refine thnF (T.item (X.blk s3 H3 scope ce fp) rfl rfl rfl hc i [] s5 _ H5 (fun _ _ => False) I5 (lie I5 n5) st5 go) fun r s6 ⟨u, hr, h6⟩ => ?_
      subst hr
      refine thnF h6 fun _ s7 ⟨x, H7, I7, r7, y7, st7, n7⟩ => ?_
      have I7' := I7.pinned (lie I7 n7) (T.obj _ _ st7)
      refine thnF (kg.run _ s7 _ H7 x u _ I7' r7 (step x H7 y7)) fun _ s8 ⟨σ8, H8, I8, hw8, q8⟩ => ?_
      refine thnF (kt.run _ s8 σ8 H8 _ I8 q8) fun b s9 ⟨H9, I9, q9⟩ => ?_
      have again : ∀ {s' : Shared} {H' : Hp}, Inv (X.blk s3 H3 scope ce fp) ([] ++ pinsAt fp s7.heap) σ8 H' s' → Nx H' → ∃ m, m < n ∧ ∃ i H', Inv (X.blk s3 H3 scope ce fp) [] (wipe σ (own.map (·.2))) H' s' ∧ tn i s'.heap ∧ (∀ b ∈ fp, H' b = none) ∧ V i m H' := fun {s' H'} J nx => by
        obtain ⟨m', hm, w'⟩ := hNx H' nx
        have pin' : ∀ b ∈ fp, ∀ o, s7.heap.get? b = some o → s'.heap.get? b = some o ∧ H' b = none := fun b hb o e =>
          let z := J.pin (b, o) (List.mem_append_right _ (List.mem_append_right _ (mem_pinsAt hb e)))
          ⟨z.1, z.2.1⟩
        have hl : (wipe σ (own.map (·.2))).length = σ8.length := by rw [← hw8, wipe_length]
        refine ⟨m', hm, i + 1, H', (J.unpinned (pins := [])).weak hl (fun j v e => ?_), T.keep _ _ _ st7 fun b hb o e => (pin' b hb o e).1, fun b hb => ?_, w'⟩
        · rw [← hw8] at e
          exact (wipe_some e).1
        · obtain ⟨o, e, _⟩ := T.obj _ _ st7 b hb
          exact (pin' b hb o e).2
      cases b with
      | false =>
        simp only [Bool.false_eq_true, if_false] at q9 ⊢
        exact again I9 q9
      | true =>
        simp only [if_true] at q9 ⊢
        refine wpAny_mono (ke.run _ s9 σ8 H9 _ (xb_of I9) q9) (fun z s10 ⟨yv, H10, I10, r10, acc, hD10, hz10, nx⟩ => ?_) fun u' t' hx => ?_
        · exact app_ok (X := X.blk s3 H3 scope ce fp) (xb_to I10) hD10 hz10 r10 fun s11 I11 => again I11 nx
        · exact blk_out tk hW hst hf I3 f3 cL cF hx
  exact codeAny_compStart_list loop (T.self X.A 0 _ _ _ st4 loop)
end
end Mine
set_option Elab.async false
set_option linter.all false
set_option maxRecDepth 100000
set_option maxHeartbeats 4000000
/-! {**d, k: v}: a dict display that begins with the pairs of a dict. -/
namespace Mine
open PySem PySem.Calls L2 PyProof.Rows
section
variable {prog : Program} {w : World} {κ : Type} [DecidableEq κ] {knd : KeyKind prog w κ} {A : Around} {E : Value → Shared → Prop} {s : Shared}
/-- a pair is put by its hash -/
theorem put_hash {d : Addr} {kvs : List (κ × Value)} {k : κ} {key v : Value} {Q : Unit → Shared → Prop} (hkey : knd.is k key = true) (hm : s.heap.DictOf knd d kvs) (hz : kvs.length ≤ sizeLine)
    (q : ∀ h', h'.DictOf knd d (stored kvs k v) → Heap.SameBut d s.heap h' → Q () { s with heap := h' }) : wpAny (model prog w) A (dictPut d (knd.hash k) key v) Q E s := by
  obtain ⟨o, es, ep, ho, hc, hd, hk, hp, hn⟩ := hm
  have hes : es.size ≤ sizeLine := by
    have e1 := hp.length
    rw [Array.length_toList] at e1
    omega
  have hidx : (es.findIdx? fun e => knd.is k e.key) = kvs.findIdx? fun kv => decide (kv.1 = k) := by
    rw [← hp.findIdx k]
    obtain ⟨l⟩ := es
    simp
  unfold dictPut
  refine wpAny_bind (wpAny_dictFind_of hkey ho hd hk ?_)
  cases hi : es.findIdx? fun e => knd.is k e.key with
  | some i =>
    have yes := any_of_findIdx_some (hidx ▸ hi)
    refine wpAny_updateDict ho hd (q _ ⟨_, _, ep, Heap.get?_update_self _ ho (Obj.isFreed_of_dict (Obj.data_mapDict hd _)), hc.mapDict _, Obj.data_mapDict hd _, hk.modify _ _, ?_, ?_⟩ (Heap.SameBut.update ..))
    · rw [stored, if_pos yes]
      have hl : (es.toList.findIdx? fun e => knd.is k e.key) = some i := by
        rw [← hi]
        obtain ⟨l⟩ := es
        simp
      have z := hp.modify hn hl v
      obtain ⟨l⟩ := es
      simpa using z
    · rw [stored, if_pos yes, keys_map_store]
      exact hn
  | none =>
    have no : k ∉ kvs.map (·.1) := not_mem_of_findIdx_none (hidx ▸ hi)
    have no' : ¬ (kvs.any fun kv => decide (kv.1 = k)) = true := fun z => by
      obtain ⟨kv, hkv, he⟩ := List.any_eq_true.mp z
      exact no (List.mem_map.mpr ⟨kv, hkv, of_decide_eq_true he⟩)
    refine wpAny_updateDictKeys (hz := hes) ho hd (q _ ⟨_, _, ep + 1, Heap.get?_update_self _ ho (Obj.isFreed_of_dict (Obj.data_mapDictKeys hd _)), hc.mapDictKeys _, Obj.data_mapDictKeys hd _, hk.push hkey _, ?_, ?_⟩ (Heap.SameBut.update ..))
    · rw [stored, if_neg no']
      have z := hp.append hkey (knd.hash k) v
      obtain ⟨l⟩ := es
      simpa using z
    · rw [stored, if_neg no', List.map_append]
      refine List.nodup_append.mpr ⟨hn, by simp, fun a ha b hb e => ?_⟩
      have hb : b = k := by simpa using hb
      rw [e, hb] at ha
      exact no ha
/-- the pairs of a dict go into another one -/
theorem merge_map {d o : Addr} {kvs more : List (κ × Value)} {Q : Unit → Shared → Prop} (hdo : d ≠ o) (hoS : (o == sysModules) = false) (hd : s.heap.DictOf knd d kvs) (ho : s.heap.DictOf knd o more) (hr : ∀ k r, knd.is k (.ref r) = false)
    (hsz : kvs.length + more.length ≤ sizeLine) (hQ : ∀ h', h'.DictOf knd d (merged kvs more) → h'.DictOf knd o more → Heap.SameBut d s.heap h' → Q () { s with heap := h' }) : wpAny (model prog w) A (mergeMapping d (.ref o) false) Q E s := by
  obtain ⟨od, esd, epd, hod, hcd, hdd, hkd, hpd, hnd⟩ := id hd
  obtain ⟨oo, eso, epo, hoo, hco, hdo', hko, hpo, hno⟩ := id ho
  have hlen : more.length = eso.size := by rw [← hpo.length, Array.length_toList]
  have loop : wpAny (model prog w) A (do
      let l ← dictEntries o
      let ep ← dictEpoch o
      forIn (List.range l.size) PUnit.unit fun i (_ : PUnit) => (do
        let l' ← dictEntries o
        match l'[i]? with
        | some e => do
          holding [e.key, e.val] (dictPut d e.hash e.key e.val)
          let ep' ← dictEpoch o
          if (ep' != ep) = true then do
            (unsupported "dict.changed-during-merge" : Sem PUnit)
            pure (ForInStep.yield PUnit.unit)
          else pure (ForInStep.yield PUnit.unit)
        | _ => do
          (unsupported "dict.changed-during-merge" : Sem PUnit)
          pure (ForInStep.yield PUnit.unit) : Sem (ForInStep PUnit))
      pure ()) Q E s := by
    refine wpAny_bind (wpAny_dictEntries hoo hdo' (wpAny_bind (wpAny_dictEpoch hoo hdo' (wpAny_bind ?_))))
    rw [List.range_eq_range']
    refine wpAny_forIn_list _ (fun rest _ s' => ∃ h' i, s' = { s with heap := h' } ∧ rest = List.range' i (eso.size - i) ∧ i ≤ eso.size ∧ h'.DictOf knd d (merged kvs (more.take i)) ∧ h'.get? o = some oo ∧ Heap.SameBut d s.heap h')
      _ ?_ ?_ _ _ ⟨s.heap, 0, rfl, by simp, Nat.zero_le _, by simpa [merged] using hd, hoo, Heap.SameBut.refl _ _⟩
    · rintro x rest b s' ⟨h', i, rfl, hr', hi, hd', hoo', hs'⟩
      have hlt : i < eso.size := by
        refine Nat.lt_of_not_le fun z => ?_
        rw [Nat.sub_eq_zero_of_le z] at hr'
        simp at hr'
      have e : eso.size - i = (eso.size - (i + 1)) + 1 := by omega
      rw [e, List.range'_succ] at hr'
      obtain ⟨rfl, hrest⟩ := List.cons.inj hr'
      refine wpAny_bind (wpAny_dictEntries hoo' hdo' ?_)
      rw [Array.getElem?_eq_getElem hlt]
      obtain ⟨⟨k, v⟩, hkv⟩ : ∃ kv, more[x]? = some kv := ⟨more[x]'(by rw [hlen]; exact hlt), List.getElem?_eq_getElem _⟩
      obtain ⟨hkey, hval⟩ := hpo.get? (e := eso[x]) (by simp [hlt]) hkv
      obtain ⟨k', hkey', hhash⟩ := hko eso[x] (Array.getElem_mem hlt)
      obtain rfl : k' = k := knd.inj _ _ _ hkey' hkey
      show wpAny _ _ (holding [eso[x].key, eso[x].val] (dictPut d eso[x].hash eso[x].key eso[x].val) >>= _) _ _ _
      rw [hhash, hval]
      have few : (merged kvs (more.take x)).length ≤ sizeLine := by
        have e1 := merged_length_le kvs (more.take x)
        rw [List.length_take] at e1
        omega
      refine wpAny_bind (wpAny_holding (put_hash hkey hd' few fun h2 hd2 hs2 => ?_))
      have hoo2 : h2.get? o = some oo := (hs2.2 o (Ne.symm hdo)).trans hoo'
      refine wpAny_bind (wpAny_dictEpoch hoo2 hdo' ?_)
      rw [if_neg (by simp)]
      exact wpAny_pure ⟨h2, x + 1, rfl, hrest, hlt, by rw [merged_take_succ kvs more x (k', v) hkv]; exact hd2, hoo2, hs'.trans hs2⟩
    · rintro b s' ⟨h', i, rfl, hr', hi, hd', hoo', hs'⟩
      have hin : i = eso.size := by
        refine Nat.le_antisymm hi (Nat.le_of_not_lt fun z => ?_)
        have e : eso.size - i = (eso.size - (i + 1)) + 1 := by omega
        rw [e, List.range'_succ] at hr'
        cases hr'
      rw [hin, ← hlen, List.take_length] at hd'
      exact wpAny_pure (hQ h' hd' ⟨oo, eso, epo, hoo', hco, hdo', hko, hpo, hno⟩ hs')
  unfold mergeMapping
  refine wpAny_bind (wpAny_isInstance ho.typeIs isSubtype_dict_dict ?_)
  simp only [if_true]
  refine wpAny_bind (wpAny_specialOf ho.typeIs F.slot_dict_iter.lookup ?_)
  refine wpAny_bind (wpAny_pure ?_)
  simp only [beq_self_eq_true]
  rw [if_neg (by rw [hoS]; exact Bool.false_ne_true)]
  refine wpAny_bind (wpAny_dictEntries hod hdd ?_)
  split
  · refine wpAny_bind (wpAny_dictEntries hoo hdo' (wpAny_bind ?_))
    rw [← Array.forIn_toList]
    refine wpAny_forIn_list _ (fun l _ s' => s' = s ∧ ∀ e ∈ l, e ∈ eso) _ ?_ ?_ _ _ ⟨rfl, fun e he => Array.mem_toList_iff.mp he⟩
    · rintro e rest b s' ⟨rfl, he⟩
      obtain ⟨k, hk, _⟩ := hko e (he e List.mem_cons_self)
      cases hkey : e.key with
      | ref r =>
        rw [hkey, hr] at hk
        cases hk
      | _ => exact wpAny_pure ⟨rfl, fun x hx => he x (List.mem_cons_of_mem _ hx)⟩
    · rintro b s' ⟨rfl, _⟩
      exact loop
  · exact loop
end
/-- no key of ours is a reference -/
theorem mix_ref {P : Program} {w : World} (k : Key) (r : Addr) : (mixKind P w).is k (.ref r) = false := by
  cases h : (mixKind P w).is k (.ref r) with
  | false => rfl
  | true =>
    rcases keyIs_shape (show keyIs k (.ref r) = true from h) with ⟨i, t, _, e⟩ | ⟨x, t, _, e⟩ <;> cases e
/-- {**m, k: v}: m's pairs, then the written one -/
def tStarD (tm tk tv : TE) : TE := fun σ H Q => ∀ d, H d = none → tm σ (upd H d (.dK [])) fun x H1 => ∃ a kvs, x = .ref a ∧ a ≠ d ∧ H1 a = some (.dK kvs) ∧ H1 d = some (.dK []) ∧ ∀ e, H1 e = none →
  tk σ (upd (upd H1 d (.dK (mergeK [] kvs))) e (.dK [])) fun y H2 => tv σ H2 fun z H3 => ∃ k ms, y = kV k ∧ H3 e = some (.dK []) ∧ H3 d = some (.dK ms) ∧ ms.length < 1000 ∧ Q (.ref d) (upd (upd H3 e (.dK [(k, z)])) d (.dK (putK ms k z)))
section
variable {X : Cx} {em ek ev : Expr} {tm tk tv : TE} {pos : Pos}
theorem pe_starD (hm : PE X em tm) (hk : PE X ek tk) (hv : PE X ev tv)
    (hz : (evalEachOpt [none, some ek] X.env).zip ((evalEach [em, ev] X.env).map fun v => do let x ← v; standAt pos; pure x) = [(none, (do let x ← eval em X.env; standAt pos; pure x)), (some (eval ek X.env), (do let x ← eval ev X.env; standAt pos; pure x))] := by rfl) :
    PE X (.Dict [none, some ek] [em, ev] pos) (tStarD tm tk tv) := by
  refine ⟨fun pins s σ H Q I h => ?_⟩
  rw [arm_eval_Dict, hz]
  refine wpAny_bind (wpAny_standAt ?_)
  simp only [dictDisplay, List.forIn_cons, List.forIn_nil, List.isEmpty_nil, if_true, List.nil_append, pure_bind, bind_assoc, List.length_cons, List.length_nil, List.isEmpty_cons, Bool.false_eq_true, if_false]
  refine wpAny_bind (wpAny_alloc ?_)
  have hn := I.hok.fresh (Nat.le_refl s.heap.objs.size)
  have I0 := I.laid (a := s.heap.objs.size) (o := .dK []) (h' := s.heap.push { cls := .type "dict", data := .dict #[] }) (t' := s.toks) (fun _ _ q => Heap.get?_push_of_some _ q) (Nat.le_refl _) (dk_empty s.heap I.big)
  generalize s.heap.objs.size = d at hn I0 ⊢
  refine wpAny_bind (wpAny_holding (wpAny_bind (thn (hm.run pins _ σ _ _ I0 (h d hn)) fun u s1 ⟨x, H1, I1, rx, a, kvs, ex, had, ha, hd, q⟩ => wpAny_bind (wpAny_standAt (wpAny_pure ?_)))))
  subst ex
  obtain rfl : u = Value.ref a := rx
  obtain ⟨za, sa, va, ra, da⟩ := dk_of I1.hok ha
  obtain ⟨zd, sd, vd, rd, dd⟩ := dk_of I1.hok hd
  cases rd
  have la : kvs.length = va.length := Paired.length ra
  refine wpAny_bind (wpAny_onRaise (wpAny_tryCatch (wpAny_onRaise (wpAny_holding (merge_map (knd := mixKind X.prog X.w) (Ne.symm had) sa dd da mix_ref (by rw [List.length_nil]; omega) fun h2 dd2 da2 sb2 => ?_)))))
  have he2 : ∃ q, h2.get? d = some q := let ⟨q, _, _, hq, _⟩ := dd2; ⟨q, hq⟩
  have z2 : (mergeK [] kvs).length ≤ sizeLine := by
    have e := length_mergeK kvs []
    rw [List.length_nil] at e
    omega
  have I2 := d_write (t' := s1.toks) I1 (by rw [hd]; exact True.intro) sb2 he2 (dk_new z2 sd (ra.merge .nil) dd2)
  rw [if_neg (by decide)]
  refine wpAny_bind (wpAny_pure (wpAny_bind (wpAny_pure ?_)))
  simp only [List.isEmpty_cons, Bool.false_eq_true, if_false]
  refine wpAny_bind (wpAny_bind (wpAny_holding ?_))
  have hn2 := I2.hok.fresh (Nat.le_refl h2.objs.size)
  have hn2' : H1 h2.objs.size = none := by
    have z : h2.objs.size ≠ d := fun z => by
      rw [z, upd_same] at hn2
      cases hn2
    rw [upd_ne z] at hn2
    exact hn2
  have I3 := I2.laid (a := h2.objs.size) (o := .dK []) (h' := h2.push { cls := .type "dict", data := .dict #[] }) (t' := s1.toks) (fun _ _ q => Heap.get?_push_of_some _ q) (Nat.le_refl _) (dk_empty h2 I2.big)
  refine wpAny_subDict (knd := mixKind X.prog X.w) (by show 1 ≤ 15; decide) (evalPairs_cons (thn (hk.run pins _ σ _ _ I3 (q h2.objs.size hn2')) fun uk s3 ⟨y, H2, I4, rk, q4⟩ => ?_))
  refine wpAny_bind (thn (hv.run pins s3 σ H2 _ I4 q4) fun uv s4 ⟨z, H3, I5, rv, k, ms, ek, he, hd5, hms, q5⟩ => wpAny_bind (wpAny_standAt (wpAny_pure (evalPairs_nil ?_))))
  subst ek
  obtain ⟨ze, se, ve, re, de⟩ := dk_of I5.hok he
  cases re
  refine ⟨[(k, uv)], ⟨kV_is rk, rfl, trivial⟩, de, fun h6 d6 sb6 => ?_⟩
  have he6 : ∃ q, h6.get? h2.objs.size = some q := let ⟨q, _, _, hq, _⟩ := d6; ⟨q, hq⟩
  have I6 := d_write (t' := s4.toks + 1) I5 (by rw [he]; exact True.intro) sb6 he6 (dk_new (kvs := [(k, z)]) (by show 1 ≤ sizeLine; decide) se (KV.merge (more := [(k, z)]) (kvs := []) (.cons ⟨rfl, rv⟩ .nil) .nil) d6)
  have ned : d ≠ h2.objs.size := fun w => by
    rw [← w] at hn2'
    rw [hd] at hn2'
    cases hn2'
  have hd6 : (upd H3 h2.objs.size (.dK [(k, z)])) d = some (.dK ms) := by rw [upd_ne ned]; exact hd5
  obtain ⟨z7, s7, v7, r7, d7⟩ := dk_of I6.hok hd6
  have l7 : ms.length = v7.length := Paired.length r7
  refine wpAny_bind (wpAny_onRaise (wpAny_holding (merge_map (knd := mixKind X.prog X.w) ned se d7 d6 mix_ref (by show v7.length + 1 ≤ sizeLine; rw [← l7, sizeLine_eq]; omega) fun h8 d8 da8 sb8 => ?_)))
  have he8 : ∃ q, h8.get? d = some q := let ⟨q, _, _, hq, _⟩ := d8; ⟨q, hq⟩
  have I8 := d_write (t' := s4.toks + 1) I6 (by rw [hd6]; exact True.intro) sb8 he8 (dk_new (kvs := putK ms k z) (by have := length_putK ms k z; rw [sizeLine_eq]; omega) s7 (KV.merge (more := [(k, z)]) (.cons ⟨rfl, rv⟩ .nil) r7) d8)
  exact wpAny_pure (wpAny_pure ⟨.ref d, _, I8, rfl, q5⟩)
end
end Mine
set_option Elab.async false
set_option linter.all false
set_option maxRecDepth 100000
set_option maxHeartbeats 4000000
/-! A dict comprehension with two clauses; a walk over the keys of a written dict; a walk whose source is one of two. (The loops follow the kit's own for lists and for one clause.) -/
namespace Mine
open PySem PySem.Calls PySem.Spec PyProof.Rows L2
/-- one of two walks -/
theorem pi_or {X : Cx} {tg l : Expr} {wi wj : TI} (h : PI X tg l wi) (h' : PI X tg l wj) : PI X tg l (fun σ H R => wi σ H R ∨ wj σ H R) :=
  ⟨fun pins s σ H R I q => q.elim (h.run pins s σ H R I) (h'.run pins s σ H R I)⟩
/-! ### the keys of a written dict -/
def Itw (ks : List Str) : It := ⟨fun i _ => i < ks.length, fun i H x H' => H' = H ∧ ∃ k, ks[i]? = some k ∧ x = .str k, fun i _ => ks.length ≤ i⟩
theorem walk_w {ks : List Str} : Walk (Itw ks) ks.length (fun _ => True) (YAt (ks.map V.str)) :=
  ⟨fun _ _ hi _ => hi, fun _ _ => Nat.le_refl _, fun i H x H' _ _ ⟨e, k, e2, e3⟩ => ⟨e, by rw [List.getElem?_map, e2, e3]; rfl⟩⟩
/-- a dict of the written part with these keys in this order -/
structure WDict (K : PySem.W.Frag) (a : Addr) (ks : List Str) : Prop where
  low : (a == sysModules) = false
  at_ : ∃ (es : Array DictEntry) (ep : Nat), K.lookup a = some ⟨.type "dict", none, .dict es ep, #[]⟩ ∧ es.size = ks.length ∧ ∀ (i : Nat) (k : Str), ks[i]? = some k → ∃ (en : DictEntry) (t : Tok), es[i]? = some en ∧ en.key = .str k t
theorem turn_w {P : Program} {w : World} {K : PySem.W.Frag} {tg : Expr} {d : Addr} {ks : List Str} {es : Array DictEntry} {ep : Nat} (it : Addr) (hl : K.lookup d = some ⟨.type "dict", none, .dict es ep, #[]⟩) (hz : es.size = ks.length)
    (hk : ∀ (i : Nat) (k : Str), ks[i]? = some k → ∃ (en : DictEntry) (t : Tok), es[i]? = some en ∧ en.key = .str k t) : Turn P w K tg (Itw ks) [it] it (fun i h => h.IsKeyIter it d i ks.length ep) where
  mem := List.mem_singleton.mpr rfl
  obj := fun i h st b hb => by
    obtain rfl := List.mem_singleton.mp hb
    obtain ⟨oi, e, _, dd⟩ := st
    exact ⟨oi, e, fun v z => by rw [dd] at z; cases z⟩
  keep := fun i h h' st k => st.at fun oi e => k it (List.mem_singleton.mpr rfl) oi e
  item := by
    intro X hP hw hK hc i pins s σ H E I hf st hg
    subst hP hw hK
    obtain ⟨f0, f1, f2, f3, f4, f5⟩ := hf it (List.mem_singleton.mpr rfl)
    have hi : i < ks.length := hg
    obtain ⟨en, t, hen, hkey⟩ := hk i ks[i] (List.getElem?_eq_getElem hi)
    refine next_key_item st (I.kIn _ _ hl) rfl hz hen fun h' st' sb => ?_
    have J : Inv X pins σ H { s with heap := h' } := I.turned (t' := s.toks) (fun b ob hb e => (sb.2 b hb).trans e) f0 f1 f3 f4 f5
    obtain ⟨oi, e, c, dd⟩ := id st'
    exact ⟨en.key, rfl, go_of (s := { s with heap := h' }) e c dd (by decide) ⟨.str ks[i], H, J, ⟨t, hkey⟩, ⟨rfl, ks[i], List.getElem?_eq_getElem hi, rfl⟩, st', fun b hb => (hf b hb).1⟩⟩
  done := by
    intro X hP hw hK hc i pins s σ H E I hf st hg
    subst hP hw hK
    obtain ⟨f0, f1, f2, f3, f4, f5⟩ := hf it (List.mem_singleton.mpr rfl)
    exact next_key_end (I.ok.hd hc) st (I.kIn _ _ hl) rfl hz hg fun h' eb => ⟨rfl, I.turned (t' := s.toks) (fun b ob hb e => eb b ob hb e) f0 f1 f3 f4 f5⟩
  self := fun A i s Q E st h => wpAny_pyIter_keyiter st h
def iWDict (K : PySem.W.Frag) (td : TE) : TI := fun σ H R => td σ H fun x H1 => ∃ d ks, x = .ref d ∧ WDict K d ks ∧ R (Itw ks) H1
theorem pi_wdict {X : Cx} {tg e : Expr} {td : TE} (he : PE X e td) : PI X tg e (iWDict X.K td) := by
  refine ⟨fun pins s σ H R I h => ?_⟩
  refine thn (he.run pins s σ H _ I h) fun u s1 ⟨x, H1, I1, rx, d, ks, ex, ⟨low, es, ep, hl, hz, hk⟩, q⟩ => ?_
  subst ex
  obtain rfl : u = Value.ref d := rx
  refine iter_keys low (I1.kIn _ _ hl) ⟨rfl, rfl, rfl⟩ rfl (pi_one (tk := s1.toks) I1 _ (turn_w _ hl hz hk) ⟨_, Heap.get?_push_size _ rfl, rfl, ?_⟩ q)
  rw [hz] <;> rfl
/-! ### {k: v for a in xs for b in ys} -/
section
variable {prog : Program} {w : World} {A : Around} {R : Result → Shared → Prop} {s : Shared} {kx vx t0 i0 t1 i1 : Expr} {scope : Scope} {pos : Pos} {it : Value} {D : Addr} {env : Env}
abbrev dcx (kx vx t0 i0 t1 i1 : Expr) (scope : Scope) (pos : Pos) : Expr := .DictComp kx vx [⟨t0, i0, [], 0⟩, ⟨t1, i1, [], 0⟩] scope pos
theorem turn_out : compTurn (dcx kx vx t0 i0 t1 i1 scope pos) 0 it (.ref D) env = (do
      standAt i0.pos
      match ← pyNext it with
      | none => pure (.done .next)
      | some v =>
        letOwnedTupleGo t0 it v
        assign t0 env v
        let x ← eval i1 env
        standAt i1.pos
        let x ← foldedSetIterable i1 env x
        let _ ← runOwn (.compStart (dcx kx vx t0 i0 t1 i1 scope pos) 1 (← holding [x] (pyIter x)) (.ref D) env) env
        again (.compLoop (dcx kx vx t0 i0 t1 i1 scope pos) 0 it (.ref D) env)) := by rfl
theorem turn_in : compTurn (dcx kx vx t0 i0 t1 i1 scope pos) 1 it (.ref D) env = (do
      standAt i1.pos
      match ← pyNext it with
      | none => pure (.done .next)
      | some v =>
        letOwnedTupleGo t1 it v
        assign t1 env v
        (do
          let kv ← eval kx env
          let vv ← holding [kv] (eval vx env)
          standAt { kx.pos with endLine := vx.pos.endLine, endCol := vx.pos.endCol }
          holding [kv, vv] (dictSet D kv vv))
        again (.compLoop (dcx kx vx t0 i0 t1 i1 scope pos) 1 it (.ref D) env)) := by rfl
theorem loop_out (hs : ∀ x, foldedSetIterable i1 env x = pure x) (I : Nat → Shared → Prop)
    (turn : ∀ n t, I n t → wpAny (model prog w) A (pyNext it) (fun r t1' => match r with
      | none => R (.ok .next) t1'
      | some v => wpAny (model prog w) A (letOwnedTupleGo t0 it v) (fun _ t2 => wpAny (model prog w) A (assign t0 env v) (fun _ t3 =>
          wpAny (model prog w) A (eval i1 env) (fun x t4 => wpAny (model prog w) A (pyIter x) (fun j t5 =>
            codeAny (model prog w) A (.compStart (dcx kx vx t0 i0 t1 i1 scope pos) 1 j (.ref D) env) (fun r t' => match r with
              | .ok _ => ∃ m, m < n ∧ I m t'
              | .error _ => False) t5) (fun _ _ => False) t4) (fun _ _ => False) t3) (fun _ _ => False) t2) (fun _ _ => False) t1') (fun _ _ => False) t)
    (n : Nat) (h : I n s) : codeAny (model prog w) A (.compLoop (dcx kx vx t0 i0 t1 i1 scope pos) 0 it (.ref D) env) R s := by
  have no : ∀ (x : Value) (t : Shared), False → notedBy (model prog w) A env (fun e s' => R (.error e) s') x t := fun _ _ z => z.elim
  refine codeAny_loop rfl I (fun n t hI => ?_) n h
  show wpAny _ A ((compTurn (dcx kx vx t0 i0 t1 i1 scope pos) 0 it (.ref D) env).onRaise (fun x => do noteFrame x env; theTreesLotGoes x)) _ _ t
  refine wpAny_noted ?_
  rw [turn_out]
  refine wpAny_bind (wpAny_standAt (wpAny_bind (wpAny_mono (turn n t hI) (fun r t1' h1 => ?_) no)))
  cases r with
  | none => exact wpAny_pure h1
  | some v =>
    refine wpAny_bind (wpAny_mono h1 (fun _ t2 h2 => ?_) no)
    refine wpAny_bind (wpAny_mono h2 (fun _ t3 h3 => ?_) no)
    refine wpAny_bind (wpAny_mono h3 (fun x t4 h4 => ?_) no)
    refine wpAny_bind (wpAny_standAt (wpAny_bind (wpAny_of_eq (hs x) (wpAny_bind (wpAny_holding (wpAny_mono h4 (fun j t5 h5 => ?_) no))))))
    refine wpAny_bind (wpAny_runOwn ?_)
    rw [Around.mark_none]
    refine codeAny_mono h5 fun r t' hr => ?_
    cases r with
    | ok f =>
      first
        | exact wpAny_pure ⟨rfl, hr⟩
        | exact wpAny_bind (wpAny_pure (wpAny_pure ⟨rfl, hr⟩))
    | error e => exact hr.elim
theorem loop_in (I : Nat → Shared → Prop)
    (turn : ∀ n t, I n t → wpAny (model prog w) A (pyNext it) (fun r t1' => match r with
      | none => R (.ok .next) t1'
      | some v => wpAny (model prog w) A (letOwnedTupleGo t1 it v) (fun _ t2 => wpAny (model prog w) A (assign t1 env v) (fun _ t3 =>
          wpAny (model prog w) A (eval kx env) (fun y t4 => wpAny (model prog w) A (eval vx env) (fun z t5 =>
            wpAny (model prog w) A (dictSet D y z) (fun _ t6 => ∃ m, m < n ∧ I m t6) (fun _ _ => False) t5) (fun _ _ => False) t4) (fun _ _ => False) t3) (fun _ _ => False) t2) (fun _ _ => False) t1') (fun _ _ => False) t)
    (n : Nat) (h : I n s) : codeAny (model prog w) A (.compLoop (dcx kx vx t0 i0 t1 i1 scope pos) 1 it (.ref D) env) R s := by
  have no : ∀ (x : Value) (t : Shared), False → notedBy (model prog w) A env (fun e s' => R (.error e) s') x t := fun _ _ z => z.elim
  refine codeAny_loop rfl I (fun n t hI => ?_) n h
  show wpAny _ A ((compTurn (dcx kx vx t0 i0 t1 i1 scope pos) 1 it (.ref D) env).onRaise (fun x => do noteFrame x env; theTreesLotGoes x)) _ _ t
  refine wpAny_noted ?_
  rw [turn_in]
  refine wpAny_bind (wpAny_standAt (wpAny_bind (wpAny_mono (turn n t hI) (fun r t1' h1 => ?_) no)))
  cases r with
  | none => exact wpAny_pure h1
  | some v =>
    refine wpAny_bind (wpAny_mono h1 (fun _ t2 h2 => ?_) no)
    refine wpAny_bind (wpAny_mono h2 (fun _ t3 h3 => ?_) no)
    refine wpAny_bind (wpAny_bind (wpAny_mono h3 (fun y t4 h4 => ?_) no))
    refine wpAny_bind (wpAny_holding (wpAny_mono h4 (fun z t5 h5 => ?_) no))
    exact wpAny_bind (wpAny_standAt (wpAny_holding (wpAny_mono h5 (fun _ t6 h6 => wpAny_pure ⟨rfl, h6⟩) no)))
theorem start_in {acc : Value} (h0 : codeAny (model prog w) A (.compLoop (dcx kx vx t0 i0 t1 i1 scope pos) 1 it acc env) R s)
    (h : wpAny (model prog w) A (pyIter it) (fun j t => codeAny (model prog w) A (.compLoop (dcx kx vx t0 i0 t1 i1 scope pos) 1 j acc env) R t) (notedBy (model prog w) A env fun x t => R (.error x) t) s) :
    codeAny (model prog w) A (.compStart (dcx kx vx t0 i0 t1 i1 scope pos) 1 it acc env) R s := by
  refine codeAny_of_tree ?_
  show wpAny _ _ ((compStart (dcx kx vx t0 i0 t1 i1 scope pos) 1 it acc env).onRaise (fun x => do noteFrame x env; standAt theWindowsPlace)) _ _ s
  refine wpAny_notedAt ?_
  unfold compStart
  show wpAny _ _ (ask >>= _) _ _ s
  refine wpAny_bind (wpAny_askSetting (wpAny_ite ?_))
  split
  · first
      | exact wpAny_bind (wpAny_pure (wpAny_pure (And.intro rfl h0)))
      | exact wpAny_pure (And.intro rfl h0)
  · first
      | exact wpAny_bind (wpAny_rule (wpAny_bind (wpAny_standAt (wpAny_bind (wpAny_mono h (fun it' s' h' => wpAny_pure (And.intro rfl h')) fun _ _ x => x)))))
      | (refine wpAny_bind (wpAny_rule ?_); show wpAny _ _ (standAt i1.pos >>= _) _ _ s; exact wpAny_bind (wpAny_standAt (wpAny_bind (wpAny_mono h (fun it' s' h' => wpAny_pure (And.intro rfl h')) fun _ _ x => x))))
end
section
variable {X : Cx}
/-- {k: v for tg in iter for tg1 in iter1}; vs: the block's names, vs1: those of the second target -/
def tDc2 (wi : TI) (g : TG) (wi1 : TI) (g1 : TG) (tk tv : TE) (vs vs1 : List Nat) : TE := fun σ H Q => wi σ H fun J H1 => ∀ D, H1 D = none → ∃ W : Nat → Nat → Hp → Prop, (∃ m, W 0 m (upd H1 D (.dK []))) ∧ ∀ i m H, W i m H →
  (J.stop i H ∧ Q (.ref D) H) ∨ (J.go i H ∧ ∃ Nx : Hp → Prop, (∀ H', Nx H' → ∃ m', m' < m ∧ W (i + 1) m' H') ∧ ∀ x H', J.yld i H x H' → g x (wipe σ vs) H' fun σ2 H2 => wipe σ2 vs = wipe σ vs ∧
    wi1 σ2 H2 fun J1 H4 => ∃ W1 : Nat → Nat → Hp → Prop, (∃ m, W1 0 m H4) ∧ ∀ j k H, W1 j k H →
      (J1.stop j H ∧ Nx H) ∨ (J1.go j H ∧ ∃ Nx1 : Hp → Prop, (∀ H', Nx1 H' → ∃ k', k' < k ∧ W1 (j + 1) k' H') ∧ ∀ x H', J1.yld j H x H' → g1 x (wipe σ2 vs1) H' fun σ3 H5 => wipe σ3 vs1 = wipe σ2 vs1 ∧
        tk σ3 H5 fun y H6 => tv σ3 H6 fun z H7 => ∃ kvs k, y = kV k ∧ H7 D = some (.dK kvs) ∧ kvs.length < sizeLine ∧ Nx1 (upd H7 D (.dK (putK kvs k z)))))
theorem pe_dc2 {kx vx tg iter tg1 iter1 : Expr} {scope : Scope} {own : List (Str × Nat)} {vs1 : List Nat} {pos : Pos} {wi wi1 : TI} {g g1 : TG} {tk tv : TE}
    (hc : X.calm = true) (hN : X.N.Nodup) (hi : PI X tg iter wi) (ok : BlkOk X.N X.env.scope scope own) (hv : ∀ i ∈ vs1, i ∈ own.map (·.2))
    (hg : ∀ (s : Shared) (H : Hp) (C : Addr) (cl : List (Str × Addr)) (fp : List Addr), PG (X.blk s H scope (compEnvC scope cl C X.env) fp) tg g)
    (hi1 : ∀ (s : Shared) (H : Hp) (C : Addr) (cl : List (Str × Addr)) (fp : List Addr), PI (X.blk s H scope (compEnvC scope cl C X.env) fp) tg1 iter1 wi1)
    (hg1 : ∀ (s : Shared) (H : Hp) (C : Addr) (cl : List (Str × Addr)) (fp : List Addr), PG (X.blk s H scope (compEnvC scope cl C X.env) fp) tg1 g1)
    (hk : ∀ (s : Shared) (H : Hp) (C : Addr) (cl : List (Str × Addr)) (fp : List Addr), PE (X.blk s H scope (compEnvC scope cl C X.env) fp) kx tk)
    (he : ∀ (s : Shared) (H : Hp) (C : Addr) (cl : List (Str × Addr)) (fp : List Addr), PE (X.blk s H scope (compEnvC scope cl C X.env) fp) vx tv)
    (hs : ∀ x, foldedSetIterable iter X.env x = pure x := by intro _; rfl) (hs1 : ∀ env x, foldedSetIterable iter1 env x = pure x := by intro _ _; rfl) :
    PE X (.DictComp kx vx [⟨tg, iter, [], 0⟩, ⟨tg1, iter1, [], 0⟩] scope pos) (tDc2 wi g wi1 g1 tk tv (own.map (·.2)) vs1) := by
  refine ⟨fun pins s σ H Q I h => ?_⟩
  rw [arm_eval_DictComp]
  have hfree : ∀ y ∈ scope.names, y.2 = .free → ∃ c, X.env.cells.lookup y.1 = some c := fun y hy e => by
    rcases ok.free y hy e with k | k
    · exact I.ok.has _ (.inl k)
    · exact I.ok.has _ (.inr k)
  refine wpAny_comprehension_free (use := none) rfl hs (closure_ok hfree) ok.kind (fun y hy e => by rw [ok.uniq y hy, e]) (thn (hi.run pins s σ H _ I h) fun xv s1 hx => thn hx fun itv s2 h2 => ?_)
  obtain ⟨it, fp, tn, J, H2, e, I2, T, st2, f2, q⟩ := h2
  subst e
  refine wpAny_newObj_type (newEnv_comp ?_)
  generalize hD : s2.heap.objs.size = D
  have nD : H2 D = none := I2.hok.fresh (Nat.le_of_eq hD)
  obtain ⟨W, ⟨m0, w0⟩, turn⟩ := q D nD
  generalize hs3 : ({ s2 with heap := s2.heap.push { cls := .type "dict", data := .dict #[] } } : Shared) = s3
  have h3 : s3.heap = s2.heap.push { cls := .type "dict", data := .dict #[] } := by rw [← hs3]
  have I3 : Inv X pins σ (upd H2 D (.dK [])) s3 := by
    rw [← hs3]
    refine I2.laid (t' := s2.toks) (fun b o e => Heap.get?_push_of_some _ e) (Nat.le_of_eq hD) ?_
    rw [← hD]
    exact dk_empty s2.heap I2.big
  have below : ∀ b ∈ fp, b < s2.heap.objs.size := fun b hb => let ⟨_, e, _⟩ := T.obj _ _ st2 b hb; Heap.lt_size e
  have f3 : ∀ b ∈ fp, FpOk X pins (upd H2 D (.dK [])) b ∧ b < s3.heap.objs.size := fun b hb => by
    have lt := below b hb
    refine ⟨⟨?_, (f2 b hb).2⟩, by rw [h3, Heap.size_push]; exact Nat.lt_succ_of_lt lt⟩
    rw [upd_ne (by rw [← hD]; exact Nat.ne_of_lt lt)]
    exact (f2 b hb).1
  have st3 : tn 0 s3.heap := T.keep _ _ _ st2 fun b _ o e => by rw [h3]; exact Heap.get?_push_of_some _ e
  have I4 := block_start I3 ok hN f3
  have kg := hg s3 (upd H2 D (.dK [])) s3.heap.objs.size (cellsFrom (s3.heap.objs.size + 1) scope.names (cloFrom X.env.cells scope.names [])) fp
  have ki := hi1 s3 (upd H2 D (.dK [])) s3.heap.objs.size (cellsFrom (s3.heap.objs.size + 1) scope.names (cloFrom X.env.cells scope.names [])) fp
  have kg1 := hg1 s3 (upd H2 D (.dK [])) s3.heap.objs.size (cellsFrom (s3.heap.objs.size + 1) scope.names (cloFrom X.env.cells scope.names [])) fp
  have kk := hk s3 (upd H2 D (.dK [])) s3.heap.objs.size (cellsFrom (s3.heap.objs.size + 1) scope.names (cloFrom X.env.cells scope.names [])) fp
  have ke := he s3 (upd H2 D (.dK [])) s3.heap.objs.size (cellsFrom (s3.heap.objs.size + 1) scope.names (cloFrom X.env.cells scope.names [])) fp
  show codeAny _ _ (.compStart (dcx kx vx tg iter tg1 iter1 scope pos) 0 (.ref it) (.ref D) (compEnvC scope (cellsFrom (s3.heap.objs.size + 1) scope.names (cloFrom X.env.cells scope.names [])) s3.heap.objs.size X.env))
    (compPost (model X.prog X.w) X.A X.xe none (EP X pins σ Q) (.ref D) s3.heap.objs.size) { s3 with heap := pushCells (s3.heap.push { cls := .type "dict", data := .dict #[] }) scope.names }
  generalize hce : compEnvC scope (cellsFrom (s3.heap.objs.size + 1) scope.names (cloFrom X.env.cells scope.names [])) s3.heap.objs.size X.env = ce at I4 kg ki kg1 kk ke ⊢
  have cL : ce.locals = s3.heap.objs.size := by subst hce; rfl
  generalize hH3 : upd H2 D (.dK []) = H3 at I3 I4 kg ki kg1 kk ke w0 f3
  have nfp : ∀ b ∈ fp, H3 b = none := fun b hb => (f3 b hb).1.1
  generalize hs4 : ({ s3 with heap := pushCells (s3.heap.push { cls := .type "dict", data := .dict #[] }) scope.names } : Shared) = s4 at I4 ⊢
  have st4 : tn 0 s4.heap := T.keep _ _ _ st3 fun b _ o e => by rw [← hs4]; exact pushCells_keeps _ _ _ _ (Heap.get?_push_of_some _ e)
  have lie : ∀ {σ' : L2.St} {H' : Hp} {s' : Shared}, Inv (X.blk s3 H3 scope ce fp) [] σ' H' s' → (∀ b ∈ fp, H' b = none) → ∀ b ∈ fp, FpOk (X.blk s3 H3 scope ce fp) [] H' b := fun {σ' H' s'} J hn b hb =>
    ⟨hn b hb, (J.ok.exf b hb).1, J.ok.exfs b hb, .inl hb, fun x c e => (J.ok.exf b hb).2 x c e, fun p hp => absurd (show p ∈ ([] : List (Addr × Obj)) ++ [] from hp) (by simp)⟩
  have loop : codeAny (model X.prog X.w) X.A (.compLoop (dcx kx vx tg iter tg1 iter1 scope pos) 0 (.ref it) (.ref D) ce) (compPost (model X.prog X.w) X.A X.xe none (EP X pins σ Q) (.ref D) s3.heap.objs.size) s4 := by
    refine loop_out (hs1 ce) (fun n s' => ∃ i H', Inv (X.blk s3 H3 scope ce fp) [] (wipe σ (own.map (·.2))) H' s' ∧ tn i s'.heap ∧ (∀ b ∈ fp, H' b = none) ∧ W i n H') ?_ m0 ⟨0, H3, I4, st4, nfp, w0⟩
    rintro n s5 ⟨i, H5, I5, st5, n5, w5⟩
    rcases turn i n H5 w5 with ⟨stop, qq⟩ | ⟨go, Nx, hNx, step⟩
    · refine thnF (T.done (X.blk s3 H3 scope ce fp) rfl rfl rfl hc i [] s5 _ H5 (fun _ _ => False) I5 (lie I5 n5) st5 stop) fun r s6 ⟨hr, I6⟩ => ?_
      subst hr
      have I7 : Inv X pins σ H5 s6 := I3.call' (ch := fp) I6.os I6.base I6.hok I6.bare fun b hb => ⟨(f3 b hb).1.2.2.2.1, (f3 b hb).1.2.1, (f3 b hb).1.2.2.2.2.1, (f3 b hb).1.2.2.2.2.2⟩
      have nC : H5 s3.heap.objs.size = none := by
        have z : H5 ce.locals = none := I6.free
        rw [cL] at z
        exact z
      obtain ⟨m, hn, _⟩ := I6.loc
      have hn : s6.heap.Ns ce.locals m := hn
      rw [cL] at hn
      refine ⟨m, hn, fun h' sb => ?_⟩
      obtain ⟨p0, p1, p2, p3, p4, p5⟩ := I3.fpOk (H' := H5) (Nat.le_refl _) nC
      exact ⟨.ref D, H5, I7.turned (t' := s6.toks) (fun b o hb e => (sb.2 b hb).trans e) p0 p1 p3 p4 p5, rfl, qq⟩
    · refine thnF (T.item (X.blk s3 H3 scope ce fp) rfl rfl rfl hc i [] s5 _ H5 (fun _ _ => False) I5 (lie I5 n5) st5 go) fun r s6 ⟨u, hr, h6⟩ => ?_
      subst hr
      refine thnF h6 fun _ s7 ⟨x, H7, I7, r7, y7, st7, n7⟩ => ?_
      have I7' := I7.pinned (lie I7 n7) (T.obj _ _ st7)
      refine thnF (kg.run _ s7 _ H7 x u _ I7' r7 (step x H7 y7)) fun _ s8 ⟨σ8, H8, I8, hw8, q8⟩ => ?_
      have again : ∀ {σ9 : L2.St} {s' : Shared} {H' : Hp}, Inv (X.blk s3 H3 scope ce fp) ([] ++ pinsAt fp s7.heap) σ9 H' s' → (wipe σ (own.map (·.2))).length = σ9.length → (∀ (j : Nat) v, (wipe σ (own.map (·.2)))[j]? = some (some v) → σ9[j]? = some (some v)) → Nx H' →
          ∃ m, m < n ∧ ∃ i H', Inv (X.blk s3 H3 scope ce fp) [] (wipe σ (own.map (·.2))) H' s' ∧ tn i s'.heap ∧ (∀ b ∈ fp, H' b = none) ∧ W i m H' := fun {σ9 s' H'} J hl hk nx => by
        obtain ⟨m', hm, w'⟩ := hNx H' nx
        have pin' : ∀ b ∈ fp, ∀ o, s7.heap.get? b = some o → s'.heap.get? b = some o ∧ H' b = none := fun b hb o e =>
          let z := J.pin (b, o) (List.mem_append_right _ (List.mem_append_right _ (mem_pinsAt hb e)))
          ⟨z.1, z.2.1⟩
        refine ⟨m', hm, i + 1, H', (J.unpinned (pins := [])).weak hl hk, T.keep _ _ _ st7 fun b hb o e => (pin' b hb o e).1, fun b hb => ?_, w'⟩
        obtain ⟨o, e, _⟩ := T.obj _ _ st7 b hb
        exact (pin' b hb o e).2
      have hl8 : (wipe σ (own.map (·.2))).length = σ8.length := by rw [← hw8, wipe_length]
      have hk9 : ∀ (j : Nat) v, (wipe σ (own.map (·.2)))[j]? = some (some v) → (wipe σ8 vs1)[j]? = some (some v) := fun j v e => by
        rw [← hw8] at e
        obtain ⟨e1, e2⟩ := wipe_some e
        rw [wipe_out fun z => e2 (hv j z)]
        exact e1
      refine thnF (ki.run _ s8 σ8 H8 _ I8 q8) fun xv s10 hx => thnF hx fun itv s11 h11 => ?_
      obtain ⟨it1, fp1, tn1, J1, H11, e1, I11, T1, st11, f11, W1, ⟨m1, w1⟩, turn1⟩ := h11
      subst e1
      have lie1 : ∀ {H' : Hp}, (∀ b ∈ fp1, H' b = none) → ∀ b ∈ fp1, FpOk (X.blk s3 H3 scope ce fp) ([] ++ pinsAt fp s7.heap) H' b := fun hn b hb => ⟨hn b hb, (f11 b hb).2⟩
      have loop1 : codeAny (model X.prog X.w) X.A (.compLoop (dcx kx vx tg iter tg1 iter1 scope pos) 1 (.ref it1) (.ref D) ce)
          (fun r s' => match r with
            | .ok _ => ∃ m, m < n ∧ ∃ i H', Inv (X.blk s3 H3 scope ce fp) [] (wipe σ (own.map (·.2))) H' s' ∧ tn i s'.heap ∧ (∀ b ∈ fp, H' b = none) ∧ W i m H'
            | .error _ => False) s11 := by
        refine loop_in (fun k s' => ∃ j H', Inv (X.blk s3 H3 scope ce fp) ([] ++ pinsAt fp s7.heap) (wipe σ8 vs1) H' s' ∧ tn1 j s'.heap ∧ (∀ b ∈ fp1, H' b = none) ∧ W1 j k H') ?_ m1 ⟨0, H11, I11.weak (wipe_length _ _) (fun j v e => (wipe_some e).1), st11, fun b hb => (f11 b hb).1, w1⟩
        rintro k s12 ⟨j, H12, I12, st12, n12, w12⟩
        rcases turn1 j k H12 w12 with ⟨stop1, nx1⟩ | ⟨go1, Nx1, hNx1, step1⟩
        · refine thnF (T1.done (X.blk s3 H3 scope ce fp) rfl rfl rfl hc j _ s12 (wipe σ8 vs1) H12 (fun _ _ => False) I12 (lie1 n12) st12 stop1) fun r s13 ⟨hr, I13⟩ => ?_
          subst hr
          exact again I13 (hl8.trans (wipe_length σ8 vs1).symm) hk9 nx1
        · refine thnF (T1.item (X.blk s3 H3 scope ce fp) rfl rfl rfl hc j _ s12 (wipe σ8 vs1) H12 (fun _ _ => False) I12 (lie1 n12) st12 go1) fun r s13 ⟨u1, hr, h13⟩ => ?_
          subst hr
          refine thnF h13 fun _ s14 ⟨x1, H14, I14, r14, y14, st14, n14⟩ => ?_
          have I14' := I14.pinned (lie1 n14) (T1.obj _ _ st14)
          refine thnF (kg1.run _ s14 (wipe σ8 vs1) H14 x1 u1 _ I14' r14 (step1 x1 H14 y14)) fun _ s15 ⟨σ15, H15, I15, hw15, q15⟩ => ?_
          have again1 : ∀ {s' : Shared} {H' : Hp}, Inv (X.blk s3 H3 scope ce fp) (([] ++ pinsAt fp s7.heap) ++ pinsAt fp1 s14.heap) σ15 H' s' → Nx1 H' → ∃ m, m < k ∧ ∃ j H', Inv (X.blk s3 H3 scope ce fp) ([] ++ pinsAt fp s7.heap) (wipe σ8 vs1) H' s' ∧ tn1 j s'.heap ∧ (∀ b ∈ fp1, H' b = none) ∧ W1 j m H' := fun {s' H'} K' nx => by
            obtain ⟨m', hm, w'⟩ := hNx1 H' nx
            have pin' : ∀ b ∈ fp1, ∀ o, s14.heap.get? b = some o → s'.heap.get? b = some o ∧ H' b = none := fun b hb o e =>
              let z := K'.pin (b, o) (List.mem_append_right _ (List.mem_append_right _ (mem_pinsAt hb e)))
              ⟨z.1, z.2.1⟩
            refine ⟨m', hm, j + 1, H', K'.unpinned.weak (by rw [← hw15, wipe_length]) (fun j v e => by rw [← hw15] at e; exact (wipe_some e).1), T1.keep _ _ _ st14 fun b hb o e => (pin' b hb o e).1, fun b hb => ?_, w'⟩
            obtain ⟨o, e, _⟩ := T1.obj _ _ st14 b hb
            exact (pin' b hb o e).2
          refine thnF (kk.run _ s15 σ15 H15 _ I15 q15) fun y s16 ⟨yk, H16, I16, r16, q16⟩ => ?_
          refine thnF (ke.run _ s16 σ15 H16 _ I16 q16) fun z s17 ⟨yv, H17, I17, r17, kvs, kk', ek, hD17, hz17, nx⟩ => ?_
          subst ek
          exact d_dictSet (X := X.blk s3 H3 scope ce fp) I17 hD17 hz17 r16 r17 fun s18 I18 => again1 I18 nx
      exact start_in loop1 (T1.self X.A 0 _ _ _ st11 loop1)
  exact codeAny_compStart_dict loop (T.self X.A 0 _ _ _ st4 loop)
/-- two walks, one in the other: P by (outer turn, heap), P1 by (inner turn, heap) -/
theorem dc2_it {J : It} {n : Nat} {G : Hp → Prop} {Y : Nat → Hp → V → Hp → Prop} (w : Walk J n G Y) {g : TG} {wi1 : TI} {g1 : TG} {tk tv : TE} {vs vs1 : List Nat} {σ : L2.St} {H1 : Hp} {D : Addr} {Qd : Hp → Prop} (P : Nat → Hp → Prop) (h0 : P 0 (upd H1 D (.dK [])))
    (hG : ∀ i H, i ≤ n → P i H → G H)
    (hs : ∀ i x H H', i < n → P i H → Y i H x H' → g x (wipe σ vs) H' fun σ2 H2 => wipe σ2 vs = wipe σ vs ∧ wi1 σ2 H2 fun J1 H4 => ∃ W1 : Nat → Nat → Hp → Prop, (∃ m, W1 0 m H4) ∧ ∀ j k H, W1 j k H →
      (J1.stop j H ∧ P (i + 1) H) ∨ (J1.go j H ∧ ∃ Nx1 : Hp → Prop, (∀ H', Nx1 H' → ∃ k', k' < k ∧ W1 (j + 1) k' H') ∧ ∀ x H', J1.yld j H x H' → g1 x (wipe σ2 vs1) H' fun σ3 H5 => wipe σ3 vs1 = wipe σ2 vs1 ∧
        tk σ3 H5 fun y H6 => tv σ3 H6 fun z H7 => ∃ kvs k, y = kV k ∧ H7 D = some (.dK kvs) ∧ kvs.length < sizeLine ∧ Nx1 (upd H7 D (.dK (putK kvs k z))))) (hd : ∀ H, P n H → Qd H) :
    ∃ W : Nat → Nat → Hp → Prop, (∃ m, W 0 m (upd H1 D (.dK []))) ∧ ∀ i m H, W i m H →
      (J.stop i H ∧ Qd H) ∨ (J.go i H ∧ ∃ Nx : Hp → Prop, (∀ H', Nx H' → ∃ m', m' < m ∧ W (i + 1) m' H') ∧ ∀ x H', J.yld i H x H' → g x (wipe σ vs) H' fun σ2 H2 => wipe σ2 vs = wipe σ vs ∧ wi1 σ2 H2 fun J1 H4 => ∃ W1 : Nat → Nat → Hp → Prop, (∃ m, W1 0 m H4) ∧ ∀ j k H, W1 j k H →
        (J1.stop j H ∧ Nx H) ∨ (J1.go j H ∧ ∃ Nx1 : Hp → Prop, (∀ H', Nx1 H' → ∃ k', k' < k ∧ W1 (j + 1) k' H') ∧ ∀ x H', J1.yld j H x H' → g1 x (wipe σ2 vs1) H' fun σ3 H5 => wipe σ3 vs1 = wipe σ2 vs1 ∧
          tk σ3 H5 fun y H6 => tv σ3 H6 fun z H7 => ∃ kvs k, y = kV k ∧ H7 D = some (.dK kvs) ∧ kvs.length < sizeLine ∧ Nx1 (upd H7 D (.dK (putK kvs k z))))) := by
  refine ⟨fun i m H => m = n - i ∧ i ≤ n ∧ P i H, ⟨n, by simp, Nat.zero_le _, h0⟩, ?_⟩
  rintro i m H ⟨rfl, hi, p⟩
  have q := hG i H hi p
  by_cases lt : i < n
  · exact .inr ⟨w.goes i H lt q, P (i + 1), fun H' p' => ⟨n - (i + 1), by omega, rfl, lt, p'⟩, fun x H' y => hs i x H H' lt p (w.yields i H x H' lt q y)⟩
  · obtain rfl : i = n := by omega
    exact .inl ⟨w.stops H q, hd H p⟩
/-- the inner walk -/
theorem dc1_it {J : It} {n : Nat} {G : Hp → Prop} {Y : Nat → Hp → V → Hp → Prop} (w : Walk J n G Y) {g1 : TG} {tk tv : TE} {vs1 : List Nat} {σ2 : L2.St} {H4 : Hp} {D : Addr} {Qd : Hp → Prop} (P : Nat → Hp → Prop) (h0 : P 0 H4) (hG : ∀ i H, i ≤ n → P i H → G H)
    (hs : ∀ i x H H', i < n → P i H → Y i H x H' → g1 x (wipe σ2 vs1) H' fun σ3 H5 => wipe σ3 vs1 = wipe σ2 vs1 ∧ tk σ3 H5 fun y H6 => tv σ3 H6 fun z H7 => ∃ kvs k, y = kV k ∧ H7 D = some (.dK kvs) ∧ kvs.length < sizeLine ∧ P (i + 1) (upd H7 D (.dK (putK kvs k z)))) (hd : ∀ H, P n H → Qd H) :
    ∃ W1 : Nat → Nat → Hp → Prop, (∃ m, W1 0 m H4) ∧ ∀ j k H, W1 j k H → (J.stop j H ∧ Qd H) ∨ (J.go j H ∧ ∃ Nx1 : Hp → Prop, (∀ H', Nx1 H' → ∃ k', k' < k ∧ W1 (j + 1) k' H') ∧ ∀ x H', J.yld j H x H' → g1 x (wipe σ2 vs1) H' fun σ3 H5 => wipe σ3 vs1 = wipe σ2 vs1 ∧
      tk σ3 H5 fun y H6 => tv σ3 H6 fun z H7 => ∃ kvs k, y = kV k ∧ H7 D = some (.dK kvs) ∧ kvs.length < sizeLine ∧ Nx1 (upd H7 D (.dK (putK kvs k z)))) := by
  refine ⟨fun i m H => m = n - i ∧ i ≤ n ∧ P i H, ⟨n, by simp, Nat.zero_le _, h0⟩, ?_⟩
  rintro i m H ⟨rfl, hi, p⟩
  have q := hG i H hi p
  by_cases lt : i < n
  · exact .inr ⟨w.goes i H lt q, P (i + 1), fun H' p' => ⟨n - (i + 1), by omega, rfl, lt, p'⟩, fun x H' y => hs i x H H' lt p (w.yields i H x H' lt q y)⟩
  · obtain rfl : i = n := by omega
    exact .inl ⟨w.stops H q, hd H p⟩
end
end Mine
set_option Elab.async false
set_option linter.all false
set_option maxRecDepth 100000
set_option maxHeartbeats 4000000
/-! Small rules: walks whose written part is named; str of a number or a text. -/
namespace Mine
open PySem PySem.Calls L2 PyProof.Rows
section
variable {X : Cx} {tg l : Expr} {tl : TE}
theorem pi_listK (K : PySem.W.Frag) (h : X.K = K) (hl : PE X l tl) : PI X tg l (iList K tl) := by subst h; exact pi_list hl
theorem pi_tupK (K : PySem.W.Frag) (h : X.K = K) (hl : PE X l tl) : PI X tg l (iTup K tl) := by subst h; exact pi_tup hl
def iSeq (K : PySem.W.Frag) (tl : TE) : TI := fun σ H R => iList K tl σ H R ∨ iTup K tl σ H R
theorem pi_seqK (K : PySem.W.Frag) (h : X.K = K) (hl : PE X l tl) : PI X tg l (iSeq K tl) := pi_or (pi_listK K h hl) (pi_tupK K h hl)
theorem ixdK (K : PySem.W.Frag) (w : World) (h : X.K = K) (hw : X.w = w) : IxR X (rIxD K w) := by subst h; subst hw; exact ix_kdict
theorem call_str_part : CallR X (.type "str") (fun xs H Q => (∃ i, xs = [.int i] ∧ i.natAbs.log2 < 1920 ∧ Q (.str (toString i)) H) ∨ ∃ a, xs = [.str a] ∧ Q (.str a) H) :=
  fun pins s σ H xs us Q I r h => h.elim (call_str_int pins s σ H xs us Q I r) (SkE.call_str_str pins s σ H xs us Q I r)
theorem cr_allK (K : PySem.W.Frag) (h : X.K = K) (hc : X.calm = true) : CallR X (.builtin "all") (rAll K) := by subst h; exact cr_all hc
end
end Mine
set_option Elab.async false
set_option linter.all false
set_option maxRecDepth 100000
set_option maxHeartbeats 2000000
/-! Games: what is written. -/
namespace Pz
open PySem L2 Gm
def numS (i : Int) : Str := toString i
def eWords : Ex → List Str
  | .num n => [numS n]
  | .loc x => [x]
  | .var x => [x]
  | .has t e => "has" :: t :: eWords e
  | .cell t e => "cell" :: t :: eWords e
  | .op o a b => o :: (eWords a ++ eWords b)
def ptWords : Pt → List Str
  | .s x => [x]
  | .n v => [numS v]
  | .e x => eWords x
mutual
def sWords : Stm → List Str
  | .set x e => "set" :: x :: eWords e
  | .lt l e => "let" :: l :: eWords e
  | .draw l n => ["draw", l, numS n]
  | .put t e f => "put" :: t :: (eWords e ++ eWords f)
  | .lot l o e => "lot" :: l :: o :: eWords e
  | .ask l p e => "ask" :: l :: p :: eWords e
  | .ite e a b => "if" :: (eWords e ++ bWords a ++ (if b.len = 0 then [] else ("else" : Str) :: bWords b) ++ [("end" : Str)])
  | .bad => ["bad"]
  | .after a => "after" :: (bWords a ++ [("end" : Str)])
def bWords : Blk → List Str
  | .nil => []
  | .cons s r => sWords s ++ bWords r
end
def exGood : Nat → Ex → Bool
  | 0, _ => false
  | _ + 1, .num n => decide (0 ≤ n ∧ n ≤ 65535)
  | _ + 1, .loc _ => true
  | _ + 1, .var _ => true
  | k + 1, .has _ e => exGood k e
  | k + 1, .cell _ e => exGood k e
  | k + 1, .op o a b => decide (o ∈ ops) && exGood k a && exGood k b
mutual
def stmGood : Nat → Stm → Bool
  | _, .set _ e => exGood 8 e
  | _, .lt _ e => exGood 8 e
  | _, .draw _ n => decide (0 ≤ n ∧ n ≤ 65535)
  | _, .put _ e f => exGood 8 e && exGood 8 f
  | _, .lot _ _ e => exGood 8 e
  | _, .ask _ _ e => exGood 8 e
  | 0, .ite _ _ _ => false
  | d + 1, .ite e a b => exGood 8 e && blkGood d a && blkGood d b
  | _, .bad => true
  | 0, .after _ => false
  | d + 1, .after a => blkGood d a
def blkGood : Nat → Blk → Bool
  | _, .nil => true
  | d, .cons x r => stmGood d x && blkGood d r
end
def rowWords (k : Str) (rs : List Row) : List Str := rs.flatMap fun r => [k, r.1, numS r.2.1, numS r.2.2]
def moreLocals : List Str → List Str
  | [] => []
  | _ :: r => r.flatMap fun x => ["local", x]
def prWords (p : Pr) : List Str := ([("proc" : Str), p.name, numS p.size, numS p.ans, p.locs.headD Str.empty] : List Str) ++ moreLocals p.locs ++ bWords p.block ++ [("answer" : Str)] ++ eWords p.res ++ [("end" : Str)]
def gWords (g : Ga) : List Str := rowWords "var" g.vars ++ rowWords "table" g.tabs ++ rowWords "lots" g.lots ++ g.procs.flatMap prWords
def small (i : Int) : Bool := decide (0 ≤ i ∧ i ≤ 1000000)
def rowGood (r : Row) : Bool := small r.2.1 && small r.2.2
def prGood (p : Pr) : Bool := small p.size && small p.ans && decide (0 < p.locs.length) && blkGood 6 p.block && exGood 8 p.res
def gGood (g : Ga) : Bool := g.vars.all rowGood && g.tabs.all rowGood && g.lots.all rowGood && g.procs.all prGood
def gText (g : Ga) : Str := Txt.join " " (gWords g)
theorem small_log {i : Int} (h0 : 0 ≤ i) (h : i ≤ 1000000) : i.natAbs.log2 < 1920 := by
  have h1 : i.natAbs < 2 ^ 64 := Nat.lt_of_le_of_lt (show i.natAbs ≤ 1000000 by omega) (by decide)
  exact Nat.lt_of_lt_of_le (PySem.Flt.log2_lt_of (k := 64) (by decide) h1) (by decide)
/-! ### what the defs promise -/
section
variable (CG : Addr) (K : PySem.W.Frag)
def NewL (H : Hp) (Q : VK) (ws : List Str) : Prop := ∀ L H', Same H H' → H L = none → H' L = some (.lst (ws.map V.str)) → Q (.ref L) H'
def spEW (k : Nat) : Sp := fun vs H Q _ => ∃ (v : V) (e : Ex), vs = [v] ∧ Dp K H v e.d ∧ exGood k e = true ∧ (eWords e).length ≤ 1000000 ∧ NewL H Q (eWords e)
def spSW (d : Nat) : Sp := fun vs H Q _ => ∃ (v : V) (x : Stm), vs = [v] ∧ Dp K H v x.d ∧ stmGood d x = true ∧ (sWords x).length ≤ 1000000 ∧ NewL H Q (sWords x)
def spBW (d : Nat) : Sp := fun vs H Q _ => ∃ (v : V) (x : Blk), vs = [v] ∧ Dp K H v x.d ∧ blkGood d x = true ∧ (bWords x).length ≤ 1000000 ∧ NewL H Q (bWords x)
def spCW (d : Nat) : Sp := fun vs H Q _ => ∃ (v : V) (e : Ex) (a b : Blk), vs = [v] ∧ Dp K H v (Stm.ite e a b).d ∧ exGood 8 e = true ∧ blkGood d a = true ∧ blkGood d b = true ∧ (sWords (.ite e a b)).length ≤ 1000000 ∧ NewL H Q (sWords (.ite e a b))
def spRW : Sp := fun vs H Q _ => ∃ (v : V) (k : Str) (rs : List Row), vs = [.str k, v] ∧ Dp K H v (trips rs) ∧ rs.all rowGood = true ∧ (rowWords k rs).length ≤ 1000000 ∧ NewL H Q (rowWords k rs)
def spPW : Sp := fun vs H Q _ => ∃ (v : V) (p : Pr), vs = [v] ∧ Dp K H v p.d ∧ prGood p = true ∧ (prWords p).length ≤ 1000000 ∧ NewL H Q (prWords p)
def spText : Sp := fun vs H Q _ => ∃ (r : Addr) (g : Ga), vs = [.ref r] ∧ GameAt CG K H r g ∧ gGood g = true ∧ (gWords g).length ≤ 1000000 ∧ ((gWords g).map (·.length)).sum ≤ 10000000 ∧ ∀ H', Same H H' → Q (.str (gText g)) H'
end
theorem NewL.same {H H1 : Hp} {Q : VK} {ws : List Str} (h : NewL H Q ws) (s : Same H H1) : NewL H1 Q ws := fun L H' m n e => h L H' (s.trans m) (by
  cases x : H L with
  | none => rfl
  | some o => rw [s _ _ x] at n; cases n) e
/-! ### zip of two tuples, walked -/
theorem walk_zipT {K : PySem.W.Frag} {a b : Addr} {xs ys : List V} {n : Nat} (hn : n = min xs.length ys.length) : Walk (RZ.ItzT K a b) n (fun H => SqT K H a xs ∧ SqT K H b ys) (YPair (fun i => xs[i]?) (fun i => ys[i]?)) := by
  subst hn
  refine ⟨fun i _ hi q => ?_, fun _ q => ⟨xs, ys, q.1, q.2, by omega⟩, fun i H v H' _ q y => ?_⟩
  · exact ⟨xs, ys, xs[i]'(by omega), ys[i]'(by omega), q.1, q.2, List.getElem?_eq_getElem _, List.getElem?_eq_getElem _⟩
  · obtain ⟨T, x, z, h1, h2, h3, h4, h5⟩ := y
    exact ⟨T, x, z, h1, h2, h3, h4 xs q.1, h5 ys q.2⟩
/-! ### statements by their parts -/
structure Simple (x : Stm) (w : Str) (xs : List Pt) : Prop where
  mem : w ∈ words
  d : x.d = .tuple (.str w :: xs.map Pt.d)
  s : sWords x = w :: xs.flatMap ptWords
  k : (formOf w).length = xs.length
  fit : ∀ (i : Nat) (k : Str) (p : Pt), (formOf w)[i]? = some k → xs[i]? = some p → (k = "expression" ∧ ∃ e, p = .e e ∧ exGood 8 e = true) ∨ (k ≠ "expression" ∧ ((∃ y, p = .s y) ∨ ∃ n, p = .n n ∧ 0 ≤ n ∧ n ≤ 65535))
theorem all2 {α β : Type} {R : α → β → Prop} {as : List α} {bs : List β} {a : α} {b : β} (h : R a b) (t : ∀ (i : Nat) x y, as[i]? = some x → bs[i]? = some y → R x y) : ∀ (i : Nat) x y, (a :: as)[i]? = some x → (b :: bs)[i]? = some y → R x y
  | 0, x, y, e1, e2 => by
    obtain rfl : a = x := Option.some.inj e1
    obtain rfl : b = y := Option.some.inj e2
    exact h
  | i + 1, x, y, e1, e2 => t i x y (by simpa using e1) (by simpa using e2)
theorem all2nil {α β : Type} {R : α → β → Prop} : ∀ (i : Nat) (x : α) (y : β), ([] : List α)[i]? = some x → ([] : List β)[i]? = some y → R x y := fun i x y h => by simp at h
def PK (k : Str) (p : Pt) : Prop := (k = "expression" ∧ ∃ e, p = .e e ∧ exGood 8 e = true) ∨ (k ≠ "expression" ∧ ((∃ y, p = .s y) ∨ ∃ n, p = .n n ∧ 0 ≤ n ∧ n ≤ 65535))
theorem pk_s {k y : Str} (h : k ≠ "expression" := by decide) : PK k (.s y) := .inr ⟨h, .inl ⟨y, rfl⟩⟩
theorem pk_n {k : Str} {n : Int} (g : 0 ≤ n ∧ n ≤ 65535) (h : k ≠ "expression" := by decide) : PK k (.n n) := .inr ⟨h, .inr ⟨n, rfl, g⟩⟩
theorem pk_e {e : Ex} (g : exGood 8 e = true) : PK "expression" (.e e) := .inl ⟨rfl, e, rfl, g⟩
theorem simple_of {d : Nat} {x : Stm} (g : stmGood d x = true) (h1 : ∀ e a b, x ≠ .ite e a b) (h2 : ∀ a, x ≠ .after a) : ∃ w xs, Simple x w xs := by
  cases x with
  | set y e =>
    have g : exGood 8 e = true := by cases d <;> (unfold stmGood at g; exact g)
    exact ⟨"set", [.s y, .e e], by decide, by unfold Stm.d; rfl, by unfold sWords; simp [ptWords], rfl, all2 (R := PK) pk_s (all2 (pk_e g) all2nil)⟩
  | lt y e =>
    have g : exGood 8 e = true := by cases d <;> (unfold stmGood at g; exact g)
    exact ⟨"let", [.s y, .e e], by decide, by unfold Stm.d; rfl, by unfold sWords; simp [ptWords], rfl, all2 (R := PK) pk_s (all2 (pk_e g) all2nil)⟩
  | draw y n =>
    have g : decide (0 ≤ n ∧ n ≤ 65535) = true := by cases d <;> (unfold stmGood at g; exact g)
    exact ⟨"draw", [.s y, .n n], by decide, by unfold Stm.d; rfl, by unfold sWords; simp [ptWords], rfl, all2 (R := PK) pk_s (all2 (pk_n (of_decide_eq_true g)) all2nil)⟩
  | put y e f =>
    have g : (exGood 8 e && exGood 8 f) = true := by cases d <;> (unfold stmGood at g; exact g)
    rw [Bool.and_eq_true] at g
    exact ⟨"put", [.s y, .e e, .e f], by decide, by unfold Stm.d; rfl, by unfold sWords; simp [ptWords], rfl, all2 (R := PK) pk_s (all2 (pk_e g.1) (all2 (pk_e g.2) all2nil))⟩
  | lot y z e =>
    have g : exGood 8 e = true := by cases d <;> (unfold stmGood at g; exact g)
    exact ⟨"lot", [.s y, .s z, .e e], by decide, by unfold Stm.d; rfl, by unfold sWords; simp [ptWords], rfl, all2 (R := PK) pk_s (all2 pk_s (all2 (pk_e g) all2nil))⟩
  | ask y z e =>
    have g : exGood 8 e = true := by cases d <;> (unfold stmGood at g; exact g)
    exact ⟨"ask", [.s y, .s z, .e e], by decide, by unfold Stm.d; rfl, by unfold sWords; simp [ptWords], rfl, all2 (R := PK) pk_s (all2 pk_s (all2 (pk_e g) all2nil))⟩
  | ite e a b => exact absurd rfl (h1 e a b)
  | bad => exact ⟨"bad", [], by decide, by unfold Stm.d; rfl, by unfold sWords; rfl, rfl, all2nil⟩
  | after a => exact absurd rfl (h2 a)
def blkL : Blk → List Stm
  | .nil => []
  | .cons s r => s :: blkL r
theorem blkL_ds : ∀ b : Blk, b.ds = (blkL b).map Stm.d
  | .nil => by unfold Blk.ds; rfl
  | .cons s r => by unfold Blk.ds; rw [blkL_ds r]; rfl
theorem blkL_words : ∀ b : Blk, bWords b = (blkL b).flatMap sWords
  | .nil => by unfold bWords; rfl
  | .cons s r => by unfold bWords; rw [blkL_words r]; rfl
theorem blkL_good : ∀ {b : Blk} {d : Nat}, blkGood d b = true → ∀ x ∈ blkL b, stmGood d x = true
  | .nil, _, _, x, h => by cases h
  | .cons s r, d, g, x, h => by
    unfold blkGood at g
    rw [Bool.and_eq_true] at g
    rcases List.mem_cons.mp h with rfl | h
    · exact g.1
    · exact blkL_good g.2 x h
theorem flatMap_take {α β : Type} {f : α → List β} : ∀ {xs : List α} {i : Nat} {x : α}, xs[i]? = some x → (xs.take (i + 1)).flatMap f = (xs.take i).flatMap f ++ f x := fun {xs i x} h => by
  rw [take_more h, List.flatMap_append]
  simp
theorem flatMap_len {α β : Type} {f : α → List β} : ∀ {xs : List α} {i : Nat}, ((xs.take i).flatMap f).length ≤ (xs.flatMap f).length
  | [], i => by simp
  | x :: xs, 0 => by simp
  | x :: xs, i + 1 => by
    have := flatMap_len (f := f) (xs := xs) (i := i)
    simp only [List.take_succ_cons, List.flatMap_cons, List.length_append]
    omega
theorem flatMap_one {α β : Type} {f : α → List β} : ∀ {xs : List α} {i : Nat} {x : α}, xs[i]? = some x → (f x).length ≤ (xs.flatMap f).length
  | [], i, x, h => by simp at h
  | y :: xs, 0, x, h => by
    obtain rfl : y = x := Option.some.inj h
    simp only [List.flatMap_cons, List.length_append]
    omega
  | y :: xs, i + 1, x, h => by
    have := flatMap_one (f := f) (xs := xs) (i := i) (x := x) (by simpa using h)
    simp only [List.flatMap_cons, List.length_append]
    omega
end Pz
set_option Elab.async false
set_option linter.all false
set_option maxRecDepth 100000
set_option maxHeartbeats 2000000
/-! Tactics: what is read and written. -/
namespace Pz
open PySem L2 Gm TL
theorem lt_of_wd' {ws : List Str} {i : Nat} (h : wd ws i ≠ Str.empty) : i < ws.length := Nat.lt_of_not_le fun z => h (by
  unfold wd
  rw [List.getD_eq_getElem?_getD, List.getElem?_eq_none z]
  rfl)
theorem drop_wd' {ws : List Str} {i : Nat} (h : wd ws i ≠ Str.empty) : ws.drop i = wd ws i :: ws.drop (i + 1) := by
  have hi := lt_of_wd' h
  rw [List.drop_eq_getElem_cons hi]
  unfold wd
  rw [List.getD_eq_getElem?_getD, List.getElem?_eq_getElem hi]
  rfl
theorem wd_of_drop {ws : List Str} {i : Nat} {x : Str} {r : List Str} (h : ws.drop i = x :: r) : wd ws i = x ∧ ws.drop (i + 1) = r ∧ i < ws.length := by
  have hi : i < ws.length := Nat.lt_of_not_le fun z => by rw [List.drop_eq_nil_of_le z] at h; cases h
  rw [List.drop_eq_getElem_cons hi] at h
  obtain ⟨h1, h2⟩ := List.cons.inj h
  refine ⟨?_, h2, hi⟩
  unfold wd
  rw [List.getD_eq_getElem?_getD, List.getElem?_eq_getElem hi]
  exact h1
theorem signs_numS (n : Nat) : signs (numS (n : Int)) = numL n := tl_num n
theorem str_ext' {x y : Str} (e : signs x = signs y) : x = y := by
  obtain ⟨⟨x⟩⟩ := x
  obtain ⟨⟨y⟩⟩ := y
  unfold signs at e
  dsimp only at e
  rw [e]
theorem lead : ∀ n : Nat, 0 < n → ∃ c r, numL n = c :: r ∧ c ≠ 48 := by
  intro n
  induction n using Nat.strongRecOn with
  | _ n ih =>
    intro h
    by_cases h10 : n < 10
    · exact ⟨_, _, numL_lt h10, by omega⟩
    · obtain ⟨c, r, e, hc⟩ := ih (n / 10) (by omega) (by omega)
      rw [numL_step (by omega), e]
      exact ⟨c, _, rfl, hc⟩
theorem isNum_S {n : Nat} (h : n ≤ 65535) : isNum (numS (n : Int)) = true ∧ numW (numS (n : Int)) = n := by
  have hv : numW (numS (n : Int)) = n := by
    unfold numW
    rw [signs_numS, numL_val]
  refine ⟨?_, hv⟩
  have hl : (numS (n : Int)).length ≤ 5 := by
    rw [← len_signs, signs_numS]
    exact numL_len (by decide) (by omega)
  have hl1 : 1 ≤ (numS (n : Int)).length := by
    rw [← len_signs, signs_numS]
    exact Nat.pos_of_ne_zero fun z => numL_ne n (List.length_eq_zero_iff.mp z)
  unfold isNum
  rw [decide_eq_true ⟨hl1, hl⟩, Bool.true_and, hv, signs_numS, Bool.and_eq_true]
  refine ⟨List.all_eq_true.mpr fun c hc => digB_iff.mpr (numL_digits n c hc), ?_⟩
  by_cases hz : n = 0
  · subst hz
    decide +kernel
  · obtain ⟨c, r, e, hc⟩ := lead n (by omega)
    rw [e]
    show (if c = 48 then _ else _) = true
    rw [if_neg hc]
    exact decide_eq_true h
inductive TX where
  | num (n : Int) | key (x : Str) | op (o : Str) (a b : TX)
def TX.d : TX → PyData
  | .num n => .tuple [.str "number", .int n]
  | .key x => .tuple [.str x]
  | .op o a b => .tuple [.str o, a.d, b.d]
theorem TX.nol : ∀ e : TX, nol e.d = true
  | .num _ => rfl
  | .key _ => rfl
  | .op _ a b => by
    unfold TX.d Gm.nol Gm.nolAll Gm.nolAll Gm.nolAll Gm.nolAll
    rw [TX.nol a, TX.nol b]
    rfl
def tWords : TX → List Str
  | .num n => [numS n]
  | .key x => [x]
  | .op o a b => o :: (tWords a ++ tWords b)
def knw : List Str := ["last", "made", "kept"]
def tGood : Nat → TX → Bool
  | 0, _ => false
  | _ + 1, .num n => decide (0 ≤ n ∧ n ≤ 65535)
  | _ + 1, .key x => decide (x ∈ knw)
  | k + 1, .op o a b => decide (o ∈ ops) && tGood k a && tGood k b
theorem tGood_up : ∀ {k : Nat} {e : TX}, tGood k e = true → tGood (k + 1) e = true
  | 0, _, h => by cases h
  | k + 1, .num _, h => h
  | k + 1, .key _, h => h
  | k + 1, .op o a b, h => by
    unfold tGood at h ⊢
    rw [Bool.and_eq_true, Bool.and_eq_true] at h ⊢
    exact ⟨⟨h.1.1, tGood_up h.1.2⟩, tGood_up h.2⟩
theorem tGood_le {k j : Nat} {e : TX} (h : tGood k e = true) (l : k ≤ j) : tGood j e = true := by
  induction l with
  | refl => exact h
  | step _ ih => exact tGood_up ih
def tAtom (ws : List Str) (i : Nat) : Except Nat (TX × Nat) :=
  if isNum (wd ws i) = true then .ok (.num (numW (wd ws i) : Nat), i + 1)
  else if wd ws i ∈ knw then .ok (.key (wd ws i), i + 1)
  else .error i
def pTx (ws : List Str) : Nat → Nat → Except Nat (TX × Nat)
  | 0, i => tAtom ws i
  | k + 1, i =>
    if wd ws i ∈ ops then
      match pTx ws k (i + 1) with
      | .error j => .error j
      | .ok (a, j) => match pTx ws k j with
        | .error m => .error m
        | .ok (b, m) => .ok (.op (wd ws i) a b, m)
    else tAtom ws i
structure Ru where
  t : TX
  a : Option Str
  e : TX
  k : TX
def Ru.deed (r : Ru) : PyData := match r.a with
  | some p => .tuple [.str "ask", .str p, r.e.d]
  | none => .tuple [.str "say", r.e.d]
def Ru.d (r : Ru) : PyData := .tuple [r.t.d, r.deed, r.k.d]
theorem Ru.nol_deed (r : Ru) : Gm.nol r.deed = true := by
  unfold Ru.deed
  cases r.a with
  | none => 
    show (true && (Gm.nol r.e.d && true)) = true
    rw [TX.nol]; rfl
  | some p =>
    show (true && (true && (Gm.nol r.e.d && true))) = true
    rw [TX.nol]; rfl
theorem Ru.nol (r : Ru) : Gm.nol r.d = true := by
  show (Gm.nol r.t.d && (Gm.nol r.deed && (Gm.nol r.k.d && true))) = true
  rw [TX.nol, TX.nol, Ru.nol_deed]; rfl
theorem nolAll_rs : ∀ rs : List Ru, Gm.nolAll (rs.map Ru.d) = true
  | [] => rfl
  | r :: rs => by
    show (Gm.nol r.d && Gm.nolAll (rs.map Ru.d)) = true
    rw [Ru.nol, nolAll_rs rs]; rfl
def dWords (r : Ru) : List Str := match r.a with
  | some p => ["ask", p]
  | none => ["say"]
def ruWords (r : Ru) : List Str := "when" :: (tWords r.t ++ (dWords r ++ (tWords r.e ++ tWords r.k)))
def rsWords (rs : List Ru) : List Str := rs.flatMap ruWords
structure RuOk (k : Nat) (r : Ru) : Prop where
  t : tGood k r.t = true
  e : tGood k r.e = true
  k : tGood k r.k = true
  a : ∀ p, r.a = some p → isName p = true
def pDeed (ws : List Str) (j : Nat) : Except Nat (Option Str × Nat) :=
  if wd ws j = "ask" then (if isName (wd ws (j + 1)) = true then .ok (some (wd ws (j + 1)), j + 2) else .error (j + 1))
  else if wd ws j = "say" then .ok (none, j + 1) else .error j
def pRule (ws : List Str) (i : Nat) : Except Nat (Ru × Nat) :=
  match pTx ws 7 i with
  | .error j => .error j
  | .ok (t, j) => match pDeed ws j with
    | .error m => .error m
    | .ok (a, m) => match pTx ws 7 m with
      | .error n => .error n
      | .ok (e, n) => match pTx ws 7 n with
        | .error q => .error q
        | .ok (k, q) => .ok (⟨t, a, e, k⟩, q)
def pRules (ws : List Str) : Nat → List Ru → Nat → Except Nat (List Ru × Nat)
  | 0, found, i => .ok (found, i)
  | f + 1, found, i => if wd ws i = "when" then
      match pRule ws (i + 1) with
      | .error j => .error j
      | .ok (r, j) => pRules ws f (found ++ [r]) j
    else .ok (found, i)
def pTac (ws : List Str) : Except Nat (List Ru) := match pRules ws 20 [] 0 with
  | .error j => .error j
  | .ok (rs, j) => if j = ws.length then .ok rs else .error j
/-! ### written, then read -/
variable {ws : List Str}
theorem ops_num : ∀ o ∈ ops, isNum o = false := by decide +kernel
theorem knw_num : ∀ o ∈ knw, isNum o = false := by decide +kernel
theorem knw_ops : ∀ o ∈ knw, o ∉ ops := by decide +kernel
theorem num_ops {w : Str} (h : isNum w = true) : w ∉ ops := fun z => by rw [ops_num w z] at h; cases h
theorem tx_fwd : ∀ {k i : Nat} {e : TX} {r : List Str}, tGood (k + 1) e = true → ws.drop i = tWords e ++ r → pTx ws k i = .ok (e, i + (tWords e).length) ∧ ws.drop (i + (tWords e).length) = r := by
  have atom : ∀ {i : Nat} {e : TX} {r : List Str}, tGood 1 e = true → ws.drop i = tWords e ++ r → (∀ k, pTx ws k i = .ok (e, i + (tWords e).length)) ∧ ws.drop (i + (tWords e).length) = r := by
    intro i e r g h
    cases e with
    | op o a b =>
      unfold tGood at g
      rw [Bool.and_eq_true, Bool.and_eq_true] at g
      cases g.2
    | num n =>
      have g : 0 ≤ n ∧ n ≤ 65535 := of_decide_eq_true g
      obtain ⟨m, rfl⟩ : ∃ m : Nat, n = m := ⟨n.toNat, by omega⟩
      obtain ⟨h1, h2, _⟩ := wd_of_drop h
      obtain ⟨n1, n2⟩ := isNum_S (n := m) (by omega)
      have ta : tAtom ws i = .ok (.num (m : Int), i + 1) := by
        unfold tAtom
        rw [h1, if_pos n1, n2]
      refine ⟨fun k => ?_, h2⟩
      cases k with
      | zero => exact ta
      | succ k =>
        unfold pTx
        rw [if_neg (by rw [h1]; exact num_ops n1)]
        exact ta
    | key x =>
      have g : x ∈ knw := of_decide_eq_true g
      obtain ⟨h1, h2, _⟩ := wd_of_drop h
      have ta : tAtom ws i = .ok (.key x, i + 1) := by
        unfold tAtom
        rw [h1, if_neg (by rw [knw_num x g]; decide), if_pos g]
      refine ⟨fun k => ?_, h2⟩
      cases k with
      | zero => exact ta
      | succ k =>
        unfold pTx
        rw [if_neg (by rw [h1]; exact knw_ops x g)]
        exact ta
  intro k
  induction k with
  | zero => exact fun g h => ⟨(atom g h).1 0, (atom g h).2⟩
  | succ k ih =>
    intro i e r g h
    cases e with
    | num n => exact ⟨(atom (show tGood 1 (.num n) = true from g) h).1 _, (atom (show tGood 1 (.num n) = true from g) h).2⟩
    | key x => exact ⟨(atom (show tGood 1 (.key x) = true from g) h).1 _, (atom (show tGood 1 (.key x) = true from g) h).2⟩
    | op o a b =>
      have g : tGood (k + 2) (.op o a b) = true := g
      unfold tGood at g
      rw [Bool.and_eq_true, Bool.and_eq_true] at g
      have ho : o ∈ ops := of_decide_eq_true g.1.1
      have h : ws.drop i = o :: (tWords a ++ tWords b ++ r) := h
      obtain ⟨h1, h2, _⟩ := wd_of_drop h
      rw [List.append_assoc] at h2
      obtain ⟨a1, a2⟩ := ih g.1.2 h2
      obtain ⟨b1, b2⟩ := ih g.2 a2
      have el : i + (tWords (.op o a b)).length = i + 1 + (tWords a).length + (tWords b).length := by
        show i + (o :: (tWords a ++ tWords b)).length = _
        rw [List.length_cons, List.length_append]
        omega
      refine ⟨?_, by rw [el]; exact b2⟩
      unfold pTx
      rw [if_pos (by rw [h1]; exact ho), a1]
      dsimp only
      rw [b1]
      dsimp only
      rw [h1, el]
theorem deed_fwd {r : Ru} {k j : Nat} {q : List Str} (g : RuOk k r) (h : ws.drop j = dWords r ++ q) : pDeed ws j = .ok (r.a, j + (dWords r).length) ∧ ws.drop (j + (dWords r).length) = q := by
  unfold dWords at *
  cases e : r.a with
  | none =>
    rw [e] at h
    obtain ⟨h1, h2, _⟩ := wd_of_drop h
    refine ⟨?_, h2⟩
    unfold pDeed
    rw [h1, if_neg (by decide +kernel), if_pos rfl]
    rfl
  | some p =>
    rw [e] at h
    obtain ⟨h1, h2, _⟩ := wd_of_drop h
    obtain ⟨h3, h4, _⟩ := wd_of_drop h2
    refine ⟨?_, h4⟩
    unfold pDeed
    rw [h1, if_pos rfl, h3, if_pos (g.a p e)]
    rfl
theorem rule_fwd {r : Ru} {i : Nat} {q : List Str} (g : RuOk 8 r) (h : ws.drop i = tWords r.t ++ (dWords r ++ (tWords r.e ++ tWords r.k)) ++ q) : pRule ws i = .ok (r, i + 1 + (ruWords r).length - 2) ∧ ws.drop (i + 1 + (ruWords r).length - 2) = q := by
  rw [List.append_assoc, List.append_assoc, List.append_assoc] at h
  obtain ⟨a1, a2⟩ := tx_fwd (k := 7) g.t h
  obtain ⟨b1, b2⟩ := deed_fwd g a2
  obtain ⟨c1, c2⟩ := tx_fwd (k := 7) g.e b2
  obtain ⟨d1, d2⟩ := tx_fwd (k := 7) g.k c2
  have el : i + 1 + (ruWords r).length - 2 = i + (tWords r.t).length + (dWords r).length + (tWords r.e).length + (tWords r.k).length := by
    unfold ruWords
    rw [List.length_cons, List.length_append, List.length_append, List.length_append]
    omega
  rw [el]
  refine ⟨?_, d2⟩
  unfold pRule
  rw [a1]
  dsimp only
  rw [b1]
  dsimp only
  rw [c1]
  dsimp only
  rw [d1]
theorem rules_fwd : ∀ {rs : List Ru} {f i : Nat} {found : List Ru}, rs.length ≤ f → (∀ r ∈ rs, RuOk 8 r) → ws.drop i = rsWords rs → pRules ws f found i = .ok (found ++ rs, i + (rsWords rs).length)
  | [], 0, i, found, _, _, _ => by rw [List.append_nil]; rfl
  | [], f + 1, i, found, _, _, h => by
    have : wd ws i ≠ "when" := fun z => by
      have e := drop_wd' (ws := ws) (i := i) (by rw [z]; decide +kernel)
      rw [h] at e
      cases e
    unfold pRules
    rw [if_neg this, List.append_nil]
    rfl
  | r :: rs, 0, _, _, l, _, _ => by cases l
  | r :: rs, f + 1, i, found, l, g, h => by
    have h : ws.drop i = ("when" : Str) :: (tWords r.t ++ (dWords r ++ (tWords r.e ++ tWords r.k)) ++ rsWords rs) := h
    obtain ⟨h1, h2, _⟩ := wd_of_drop h
    obtain ⟨a1, a2⟩ := rule_fwd (g r (List.mem_cons_self ..)) h2
    unfold pRules
    rw [if_pos h1, a1]
    dsimp only
    rw [rules_fwd (Nat.le_of_succ_le_succ l) (fun x hx => g x (List.mem_cons_of_mem _ hx)) a2, List.append_assoc]
    refine congrArg Except.ok (Prod.ext rfl ?_)
    show i + 1 + 1 + (ruWords r).length - 2 + (rsWords rs).length = i + (ruWords r ++ rsWords rs).length
    have : 1 ≤ (ruWords r).length := by unfold ruWords; simp
    rw [List.length_append]
    omega
theorem tac_fwd {rs : List Ru} (l : rs.length ≤ 20) (g : ∀ r ∈ rs, RuOk 8 r) : pTac (rsWords rs) = .ok rs ∧ pRules (rsWords rs) 20 [] 0 = .ok (rs, (rsWords rs).length) := by
  have h := rules_fwd (ws := rsWords rs) (i := 0) (found := []) l g rfl
  rw [List.nil_append, Nat.zero_add] at h
  refine ⟨?_, h⟩
  unfold pTac
  rw [h]
  exact if_pos rfl
/-! ### a word that fits nowhere -/
structure Odd (w : Str) : Prop where
  num : isNum w = false
  knw : w ∉ knw
  ops : w ∉ ops
  name : isName w = false
  deed : w ≠ "ask" ∧ w ≠ "say" ∧ w ≠ "when"
def oddB (w : Str) : Bool := !isNum w && !decide (w ∈ knw) && !decide (w ∈ ops) && !isName w && !decide (w = "ask") && !decide (w = "say") && !decide (w = "when")
theorem oddB_ok {w : Str} (h : oddB w = true) : Odd w := by
  unfold oddB at h
  simp only [Bool.and_eq_true, Bool.not_eq_true', decide_eq_false_iff_not] at h
  obtain ⟨⟨⟨⟨⟨⟨a, b⟩, c⟩, d⟩, e⟩, f⟩, g⟩ := h
  exact ⟨a, b, c, d, e, f, g⟩
def Agree (ws us : List Str) (n : Nat) : Prop := ∀ i, i < n → wd us i = wd ws i
section
variable {us : List Str} {n : Nat}
theorem tx_lt : ∀ {k i j : Nat} {e : TX}, pTx ws k i = .ok (e, j) → i < j := by
  have atom : ∀ {i j : Nat} {e : TX}, tAtom ws i = .ok (e, j) → i < j := by
    intro i j e h
    unfold tAtom at h
    split at h
    · cases h; omega
    · split at h
      · cases h; omega
      · cases h
  intro k
  induction k with
  | zero => exact fun h => atom h
  | succ k ih =>
    intro i j e h
    unfold pTx at h
    split at h
    · cases e1 : pTx ws k (i + 1) with
      | error q => rw [e1] at h; cases h
      | ok a =>
        obtain ⟨a, q⟩ := a
        rw [e1] at h
        dsimp only at h
        cases e2 : pTx ws k q with
        | error u => rw [e2] at h; cases h
        | ok b =>
          obtain ⟨b, u⟩ := b
          rw [e2] at h
          cases h
          have := ih e1
          have := ih e2
          omega
    · exact atom h
/-- how a reading ends in words that agree up to n and have an odd word there -/
def Cut {α : Type} (n : Nat) (x : Except Nat (α × Nat)) (a : α) (j : Nat) : Prop := (j ≤ n → x = .ok (a, j)) ∧ (n < j → x = .error n)
theorem atom_cut (ag : Agree ws us n) (od : Odd (wd us n)) {i j : Nat} {e : TX} (hi : i ≤ n) (h : tAtom ws i = .ok (e, j)) : Cut n (tAtom us i) e j := by
  have hj : j = i + 1 := by
    unfold tAtom at h
    split at h
    · cases h; rfl
    · split at h
      · cases h; rfl
      · cases h
  by_cases z : i = n
  · subst z
    refine ⟨fun l => absurd l (by omega), fun _ => ?_⟩
    unfold tAtom
    rw [od.num, if_neg Bool.false_ne_true, if_neg od.knw]
  · refine ⟨fun _ => ?_, fun l => absurd l (by omega)⟩
    unfold tAtom at h ⊢
    rw [ag i (by omega)]
    exact h
theorem tx_cut (ag : Agree ws us n) (od : Odd (wd us n)) : ∀ {k i j : Nat} {e : TX}, i ≤ n → pTx ws k i = .ok (e, j) → Cut n (pTx us k i) e j := by
  intro k
  induction k with
  | zero => exact fun hi h => atom_cut ag od hi h
  | succ k ih =>
    intro i j e hi h
    have lt := tx_lt h
    by_cases z : i = n
    · subst z
      refine ⟨fun l => absurd l (by omega), fun _ => ?_⟩
      unfold pTx tAtom
      rw [if_neg od.ops, od.num, if_neg Bool.false_ne_true, if_neg od.knw]
    have ew := ag i (by omega)
    by_cases c : wd ws i ∈ ops
    · unfold pTx at h
      rw [if_pos c] at h
      cases e1 : pTx ws k (i + 1) with
      | error q => rw [e1] at h; cases h
      | ok a =>
        obtain ⟨a, q⟩ := a
        rw [e1] at h
        dsimp only at h
        cases e2 : pTx ws k q with
        | error u => rw [e2] at h; cases h
        | ok b =>
          obtain ⟨b, u⟩ := b
          rw [e2] at h
          cases h
          have c1 := ih (by omega) e1
          have l2 := tx_lt e2
          unfold pTx
          rw [if_pos (by rw [ew]; exact c)]
          by_cases lq : q ≤ n
          · have c2 := ih lq e2
            rw [c1.1 lq]
            dsimp only
            refine ⟨fun l => ?_, fun l => ?_⟩
            · rw [c2.1 l, ew]
            · rw [c2.2 l]
          · rw [c1.2 (by omega)]
            exact ⟨fun l => absurd l (by omega), fun _ => rfl⟩
    · unfold pTx at h
      rw [if_neg c] at h
      have := atom_cut ag od hi h
      unfold pTx
      rw [if_neg (by rw [ew]; exact c)]
      exact this
theorem deed_lt {j m : Nat} {a : Option Str} (h : pDeed ws j = .ok (a, m)) : j < m := by
  unfold pDeed at h
  split at h
  · split at h
    · cases h; omega
    · cases h
  · split at h
    · cases h; omega
    · cases h
theorem deed_cut (ag : Agree ws us n) (od : Odd (wd us n)) {j m : Nat} {a : Option Str} (hj : j ≤ n) (h : pDeed ws j = .ok (a, m)) : Cut n (pDeed us j) a m := by
  have lt := deed_lt h
  by_cases z : j = n
  · subst z
    refine ⟨fun l => absurd l (by omega), fun _ => ?_⟩
    unfold pDeed
    rw [if_neg od.deed.1, if_neg od.deed.2.1]
  have ew := ag j (by omega)
  unfold pDeed at h ⊢
  rw [ew]
  by_cases c : wd ws j = "ask"
  · rw [if_pos c] at h ⊢
    by_cases c2 : isName (wd ws (j + 1)) = true
    · rw [if_pos c2] at h
      cases h
      by_cases z2 : j + 1 = n
      · rw [z2, od.name, if_neg Bool.false_ne_true]
        exact ⟨fun l => absurd l (by omega), fun _ => rfl⟩
      · rw [ag (j + 1) (by omega), if_pos c2]
        exact ⟨fun _ => rfl, fun l => absurd l (by omega)⟩
    · rw [if_neg c2] at h
      cases h
  · rw [if_neg c] at h ⊢
    by_cases c2 : wd ws j = "say"
    · rw [if_pos c2] at h ⊢
      cases h
      exact ⟨fun _ => rfl, fun l => absurd l (by omega)⟩
    · rw [if_neg c2] at h
      cases h
theorem rule_cut (ag : Agree ws us n) (od : Odd (wd us n)) {i j : Nat} {r : Ru} (hi : i ≤ n) (h : pRule ws i = .ok (r, j)) : Cut n (pRule us i) r j ∧ i < j := by
  unfold pRule at h
  cases e1 : pTx ws 7 i with
  | error q => rw [e1] at h; cases h
  | ok a =>
  obtain ⟨t, j1⟩ := a
  rw [e1] at h
  dsimp only at h
  cases e2 : pDeed ws j1 with
  | error q => rw [e2] at h; cases h
  | ok a =>
  obtain ⟨a, j2⟩ := a
  rw [e2] at h
  dsimp only at h
  cases e3 : pTx ws 7 j2 with
  | error q => rw [e3] at h; cases h
  | ok b =>
  obtain ⟨e, j3⟩ := b
  rw [e3] at h
  dsimp only at h
  cases e4 : pTx ws 7 j3 with
  | error q => rw [e4] at h; cases h
  | ok b =>
  obtain ⟨k, j4⟩ := b
  rw [e4] at h
  cases h
  have l1 := tx_lt e1
  have l2 := deed_lt e2
  have l3 := tx_lt e3
  have l4 := tx_lt e4
  refine ⟨?_, by omega⟩
  have c1 := tx_cut ag od hi e1
  unfold pRule
  by_cases z1 : j1 ≤ n
  · rw [c1.1 z1]
    dsimp only
    have c2 := deed_cut ag od z1 e2
    by_cases z2 : j2 ≤ n
    · rw [c2.1 z2]
      dsimp only
      have c3 := tx_cut ag od z2 e3
      by_cases z3 : j3 ≤ n
      · rw [c3.1 z3]
        dsimp only
        have c4 := tx_cut ag od z3 e4
        refine ⟨fun l => ?_, fun l => ?_⟩
        · rw [c4.1 l]
        · rw [c4.2 l]
      · rw [c3.2 (by omega)]
        exact ⟨fun l => absurd l (by omega), fun _ => rfl⟩
    · rw [c2.2 (by omega)]
      exact ⟨fun l => absurd l (by omega), fun _ => rfl⟩
  · rw [c1.2 (by omega)]
    exact ⟨fun l => absurd l (by omega), fun _ => rfl⟩
theorem rules_cut (ag : Agree ws us n) (od : Odd (wd us n)) : ∀ {f i j : Nat} {found rs : List Ru}, i ≤ n → n ≤ j → pRules ws f found i = .ok (rs, j) → pRules us f found i = .error n ∨ ∃ rs', pRules us f found i = .ok (rs', n)
  | 0, i, j, found, rs, hi, hj, h => by
    cases h
    obtain rfl : i = n := by omega
    exact .inr ⟨_, rfl⟩
  | f + 1, i, j, found, rs, hi, hj, h => by
    by_cases z : i = n
    · subst z
      refine .inr ⟨found, ?_⟩
      unfold pRules
      rw [if_neg od.deed.2.2]
    have ew := ag i (by omega)
    unfold pRules at h ⊢
    rw [ew]
    by_cases c : wd ws i = "when"
    · rw [if_pos c] at h ⊢
      cases e1 : pRule ws (i + 1) with
      | error q => rw [e1] at h; cases h
      | ok a =>
        obtain ⟨r, q⟩ := a
        rw [e1] at h
        dsimp only at h
        have c1 := (rule_cut ag od (by omega) e1).1
        by_cases zq : q ≤ n
        · rw [c1.1 zq]
          exact rules_cut ag od zq hj h
        · rw [c1.2 (by omega)]
          exact .inl rfl
    · rw [if_neg c] at h
      cases h
      omega
end
def tacAt (ws : List Str) : Int := match pTac ws with
  | .error i => i
  | .ok _ => -3
theorem tac_cut {rs : List Ru} (l : rs.length ≤ 20) (g : ∀ r ∈ rs, RuOk 8 r) {us : List Str} {n : Nat} (hn : n ≤ (rsWords rs).length) (ag : Agree (rsWords rs) us n) (od : Odd (wd us n)) : tacAt us = n ∨ (tacAt us = -3 ∧ n = us.length) := by
  obtain ⟨_, h⟩ := tac_fwd l g
  unfold tacAt pTac
  rcases rules_cut ag od (Nat.zero_le _) hn h with e | ⟨rs', e⟩
  · rw [e]
    exact .inl rfl
  · rw [e]
    dsimp only
    by_cases z : n = us.length
    · rw [if_pos z]
      exact .inr ⟨rfl, z⟩
    · rw [if_neg z]
      exact .inl rfl
/-! ### read, then written -/
theorem num_back' {w : Str} (h : isNum w = true) : numS ((numW w : Nat) : Int) = w := by
  have h0 := h
  unfold isNum at h
  rw [Bool.and_eq_true, Bool.and_eq_true] at h
  obtain ⟨⟨h1, h2⟩, h3⟩ := h
  have hd : NumText.AllDigits (signs w) := fun c hc => digB_iff.mp (List.all_eq_true.mp h2 c hc)
  cases e : signs w with
  | nil =>
    rw [e] at h3
    cases h3
  | cons c r =>
    rw [e] at h3
    dsimp only at h3
    by_cases hc : c = 48
    · rw [if_pos hc] at h3
      rw [of_decide_eq_true h3]
      decide +kernel
    · have hc2 := hd c (by rw [e]; exact List.mem_cons_self)
      refine str_ext' ?_
      rw [signs_numS]
      unfold numL numW
      rw [NumText.toDigits_digitsVal r.length (signs w) (by rw [e]; rfl) hd (.inr ⟨c, r, e, by omega⟩), List.map_map]
      refine (List.map_congr_left fun x hx => ?_).trans (List.map_id _)
      have := hd x hx
      exact (by decide : ∀ c : Nat, c < 58 → (Char.ofNat c).toNat = c) x (by omega)
theorem ne_emp {w : Str} {p : Str → Bool} (h : p w = true) (e : p Str.empty = false) : w ≠ Str.empty := fun z => by rw [z, e] at h; cases h
theorem tx_back : ∀ {k i j : Nat} {e : TX}, pTx ws k i = .ok (e, j) → ws.drop i = tWords e ++ ws.drop j ∧ tGood (k + 1) e = true := by
  have atom : ∀ {i j : Nat} {e : TX}, tAtom ws i = .ok (e, j) → ws.drop i = tWords e ++ ws.drop j ∧ ∀ k, tGood (k + 1) e = true := by
    intro i j e h
    unfold tAtom at h
    split at h
    · rename_i c
      cases h
      refine ⟨?_, fun k => decide_eq_true ⟨by omega, by have := isNum_le c; omega⟩⟩
      show _ = numS ((numW (wd ws i) : Nat) : Int) :: ws.drop (i + 1)
      rw [drop_wd' (ne_emp c (by decide +kernel)), num_back' c]
    · split at h
      · rename_i c
        cases h
        exact ⟨drop_wd' (fun z => by rw [z] at c; exact absurd c (by decide +kernel)), fun k => decide_eq_true c⟩
      · cases h
  intro k
  induction k with
  | zero => exact fun h => ⟨(atom h).1, (atom h).2 0⟩
  | succ k ih =>
    intro i j e h
    unfold pTx at h
    split at h
    · rename_i c
      cases e1 : pTx ws k (i + 1) with
      | error q => rw [e1] at h; cases h
      | ok a =>
        obtain ⟨a, q⟩ := a
        rw [e1] at h
        dsimp only at h
        cases e2 : pTx ws k q with
        | error u => rw [e2] at h; cases h
        | ok b =>
          obtain ⟨b, u⟩ := b
          rw [e2] at h
          cases h
          have h1 := ih e1
          have h2 := ih e2
          refine ⟨?_, ?_⟩
          · rw [drop_wd' (fun z => by rw [z] at c; exact absurd c (by decide +kernel)), h1.1, h2.1]
            show _ = wd ws i :: (tWords a ++ tWords b) ++ _
            rw [List.cons_append, List.append_assoc]
          · unfold tGood
            rw [decide_eq_true c, h1.2, h2.2]
            rfl
    · exact ⟨(atom h).1, (atom h).2 _⟩
theorem rule_back {i j : Nat} {r : Ru} (h0 : wd ws i = "when") (h : pRule ws (i + 1) = .ok (r, j)) : ws.drop i = ruWords r ++ ws.drop j ∧ RuOk 8 r := by
  unfold pRule at h
  cases e1 : pTx ws 7 (i + 1) with
  | error q => rw [e1] at h; cases h
  | ok a =>
  obtain ⟨t, j1⟩ := a
  rw [e1] at h
  dsimp only at h
  cases e2 : pDeed ws j1 with
  | error q => rw [e2] at h; cases h
  | ok a =>
  obtain ⟨a, j2⟩ := a
  rw [e2] at h
  dsimp only at h
  cases e3 : pTx ws 7 j2 with
  | error q => rw [e3] at h; cases h
  | ok b =>
  obtain ⟨e, j3⟩ := b
  rw [e3] at h
  dsimp only at h
  cases e4 : pTx ws 7 j3 with
  | error q => rw [e4] at h; cases h
  | ok b =>
  obtain ⟨k, j4⟩ := b
  rw [e4] at h
  cases h
  have b1 := tx_back e1
  have b3 := tx_back e3
  have b4 := tx_back e4
  have b2 : ws.drop j1 = dWords ⟨t, a, e, k⟩ ++ ws.drop j2 ∧ ∀ p, a = some p → isName p = true := by
    unfold pDeed at e2
    split at e2
    · rename_i c
      split at e2
      · rename_i c2
        cases e2
        refine ⟨?_, fun p hp => by cases hp; exact c2⟩
        rw [drop_wd' (by rw [c]; decide +kernel), c, drop_wd' (ne_emp c2 (by decide +kernel))]
        rfl
      · cases e2
    · split at e2
      · rename_i c
        cases e2
        refine ⟨?_, fun p hp => by cases hp⟩
        rw [drop_wd' (by rw [c]; decide +kernel), c]
        rfl
      · cases e2
  refine ⟨?_, b1.2, b3.2, b4.2, b2.2⟩
  rw [drop_wd' (by rw [h0]; decide +kernel), h0, b1.1, b2.1, b3.1, b4.1]
  show _ = ("when" : Str) :: (tWords t ++ (dWords ⟨t, a, e, k⟩ ++ (tWords e ++ tWords k))) ++ _
  rw [List.cons_append, List.append_assoc, List.append_assoc, List.append_assoc]
theorem rules_back : ∀ {f i j : Nat} {found rs : List Ru}, pRules ws f found i = .ok (rs, j) → ∃ new, rs = found ++ new ∧ ws.drop i = rsWords new ++ ws.drop j ∧ (∀ r ∈ new, RuOk 8 r) ∧ new.length ≤ f
  | 0, i, j, found, rs, h => by
    cases h
    exact ⟨[], (List.append_nil _).symm, rfl, fun r hr => (by cases hr), Nat.le_refl _⟩
  | f + 1, i, j, found, rs, h => by
    unfold pRules at h
    split at h
    · rename_i c
      cases e1 : pRule ws (i + 1) with
      | error q => rw [e1] at h; cases h
      | ok a =>
        obtain ⟨r, q⟩ := a
        rw [e1] at h
        obtain ⟨new, rfl, h2, h3, h4⟩ := rules_back h
        have b := rule_back c e1
        refine ⟨r :: new, by rw [List.append_assoc]; rfl, ?_, fun x hx => ?_, Nat.succ_le_succ h4⟩
        · rw [b.1, h2]
          show _ = ruWords r ++ rsWords new ++ _
          rw [List.append_assoc]
        · rcases List.mem_cons.mp hx with rfl | hx
          · exact b.2
          · exact h3 x hx
    · cases h
      exact ⟨[], (List.append_nil _).symm, rfl, fun r hr => (by cases hr), Nat.zero_le _⟩
theorem tac_back {rs : List Ru} (h : pTac ws = .ok rs) : rsWords rs = ws ∧ (∀ r ∈ rs, RuOk 8 r) ∧ rs.length ≤ 20 := by
  unfold pTac at h
  cases e1 : pRules ws 20 [] 0 with
  | error q => rw [e1] at h; cases h
  | ok a =>
    obtain ⟨rs', j⟩ := a
    rw [e1] at h
    dsimp only at h
    split at h
    · rename_i c
      cases h
      obtain ⟨new, rfl, h2, h3, h4⟩ := rules_back e1
      rw [c, List.drop_length, List.append_nil] at h2
      exact ⟨h2.symm, h3, h4⟩
    · cases h
end Pz
set_option Elab.async false
set_option linter.all false
set_option maxRecDepth 100000
set_option maxHeartbeats 2000000
/-! xs[::1] and xs[::-1] of a list. -/
namespace SlStep
open PySem PySem.W PySem.Calls PyProof.Rows L2
theorem pick_one (items : Array Value) : slicePick items none none (some 1) = items.toList.toArray := by
  have h := slicePick_cut items.toList none none
  rw [show items.toList.toArray = items from rfl] at h ⊢
  have e : slicePick items none none (some 1) = slicePick items none none none := rfl
  rw [e, h]
  simp [HT.sIx, List.take_of_length_le (show items.toList.length ≤ items.size from Nat.le_of_eq Array.length_toList)]
def tSlS (K : PySem.W.Frag) (te ts : TE) : TE := fun σ H Q => te σ H fun x H1 => ts σ H1 fun y H2 => ∃ i, y = .int i ∧ (i = 1 ∨ i = -1) ∧ ∃ a xs, x = .ref a ∧ SqL K H2 a xs ∧ ∀ p, H2 p = none → Q (.ref p) (upd H2 p (.lst (if i = 1 then xs else xs.reverse)))
section
variable {X : Cx} {e st : Expr} {te ts : TE} {pos p2 : Pos}
theorem vals_rev {xs : List V} {us : List Value} (r : Vals xs us) : Vals xs.reverse us.reverse := by
  induction r with
  | nil => exact .nil
  | cons h t ih =>
    rw [List.reverse_cons, List.reverse_cons]
    exact ih.append (.cons h .nil)
theorem pe_sliceS (K : PySem.W.Frag) (hK : X.K = K) (he : PE X e te) (hs : PE X st ts) : PE X (.Subscript e (.Slice none none (some st) p2) pos) (tSlS K te ts) := by
  subst hK
  refine ⟨fun pins s σ H Q I h => ?_⟩
  refine Subscript_ (thn (he.run pins s σ H _ I h) fun v s1 ⟨x, H1, I1, r1, q1⟩ => ?_)
  refine wpAny_Slice ?_
  rw [evalPart_none]
  refine wpAny_pure (wpAny_pure ?_)
  rw [evalPart_some]
  refine thn (hs.run pins s1 σ H1 _ I1 q1) fun vk s3 ⟨y, H3, I3, ry, q3⟩ => ?_
  obtain ⟨i, rfl, hi, a, xs, rfl, hx, q⟩ := q3
  obtain ⟨t, rfl⟩ := ry
  have I4 : Inv X pins σ H3 { s3 with heap := s3.heap.push { cls := .type "slice", data := .fields #[.none, .none, .int i t] } } := I3.kept (t' := s3.toks) fun b ob q => Heap.get?_push_of_some _ q
  show wpAny (model X.prog X.w) X.A (subscriptTail e (.Slice none none (some st) p2) v (.ref s3.heap.objs.size)) (EP X pins σ Q) X.xe { s3 with heap := s3.heap.push { cls := .type "slice", data := .fields #[.none, .none, .int i t] } }
  cases r1
  obtain ⟨its, r, ht, hz⟩ := I4.list hx
  have hlen := r.length
  refine tail_any (ops := [.ref a, .ref s3.heap.objs.size]) (ht.isList.typeIs) (slot_list_getitem.lookup) ?_ (by with_unfolding_all rfl)
  refine wpAny_getItem_list_slice ht.isList (Heap.IsSliceOf.new ..) .none .none (.int i t) (by rcases hi with rfl | rfl <;> decide) ?_ (by rw [List.size_toArray] <;> omega)
  have ep : slicePick its.toArray none none (some i) = (if i = 1 then its else its.reverse).toArray := by
    rcases hi with rfl | rfl
    · rw [pick_one, if_pos rfl]
    · rw [krv_pick, if_neg (by decide)]
  rw [ep]
  refine ⟨.ref _, _, I4.laid (t' := s3.toks) (o := .lst (if i = 1 then xs else xs.reverse)) (fun b ob q => Heap.get?_push_of_some _ q) (Nat.le_refl _) ?_, rfl, q _ (I4.hok.fresh (Nat.le_refl _))⟩
  refine ⟨?_, (if i = 1 then its else its.reverse), 0, ?_, Heap.get?_push_size _ rfl⟩
  · split
    · omega
    · rw [List.length_reverse]; omega
  · split
    · exact r
    · exact vals_rev r
end
end SlStep
set_option Elab.async false
set_option genInjectivity false
set_option genSizeOf false
set_option genSizeOfSpec false
set_option linter.all false
/-! Players as data, and which of them fit. -/
namespace Gm
open PySem
inductive Pl where
  | say (b : Bool)
  | ask (p : Str) (n : Int) (parts : List (Int × Pl))
  | toss (ps : List Pl)
mutual
noncomputable def Pl.d : Pl → PyData
  | .say b => .tuple [.str "say", .bool b]
  | .ask p n parts => .tuple [.str "ask", .str p, .int n, .tuple (Pl.ds2 parts)]
  | .toss ps => .tuple [.str "toss", .tuple (Pl.ds ps)]
noncomputable def Pl.ds : List Pl → List PyData
  | [] => []
  | p :: r => p.d :: Pl.ds r
noncomputable def Pl.ds2 : List (Int × Pl) → List PyData
  | [] => []
  | (a, p) :: r => .tuple [.int a, p.d] :: Pl.ds2 r
end
noncomputable def partD (q : Int × Pl) : PyData := .tuple [.int q.1, q.2.d]
theorem Pl.ds_map : ∀ ps : List Pl, Pl.ds ps = ps.map Pl.d
  | [] => rfl
  | p :: r => by unfold Pl.ds; rw [Pl.ds_map r]; rfl
theorem Pl.ds2_map : ∀ ps : List (Int × Pl), Pl.ds2 ps = ps.map partD
  | [] => rfl
  | (a, p) :: r => by unfold Pl.ds2; rw [Pl.ds2_map r]; rfl
theorem Pl.d_ask (p : Str) (n : Int) (parts : List (Int × Pl)) : (Pl.ask p n parts).d = .tuple [.str "ask", .str p, .int n, .tuple (parts.map partD)] := by unfold Pl.d; rw [Pl.ds2_map]
theorem Pl.d_toss (ps : List Pl) : (Pl.toss ps).d = .tuple [.str "toss", .tuple (ps.map Pl.d)] := by unfold Pl.d; rw [Pl.ds_map]
theorem Pl.d_say (b : Bool) : (Pl.say b).d = .tuple [.str "say", .bool b] := by unfold Pl.d; rfl
/-- the players as which one can go on -/
noncomputable def Pl.kids : Pl → List Pl
  | .say _ => []
  | .ask _ _ parts => parts.map (·.2)
  | .toss ps => ps
/-- whether a player fits, in front of which k more calls and tosses may stand -/
noncomputable def chk (names : List Str) : Nat → Pl → Bool
  | _, .say _ => true
  | 0, .ask _ _ _ => false
  | 0, .toss _ => false
  | k + 1, .ask p n parts => decide (p ∈ names) && (decide (0 ≤ n) && (decide ((parts.map (·.1)).Nodup) && parts.all fun q => chk names k q.2))
  | k + 1, .toss ps => decide (1 ≤ ps.length ∧ ps.length ≤ 16) && ps.all (chk names k)
theorem chk_say (names : List Str) (k : Nat) (b : Bool) : chk names k (.say b) = true := by unfold chk; cases k <;> rfl
/-- what a player asks for at its head -/
noncomputable def headOk (names : List Str) : Pl → Bool
  | .say _ => true
  | .ask p n parts => decide (p ∈ names) && (decide (0 ≤ n) && decide ((parts.map (·.1)).Nodup))
  | .toss ps => decide (1 ≤ ps.length ∧ ps.length ≤ 16)
theorem chk_succ (names : List Str) (k : Nat) (p : Pl) : chk names (k + 1) p = (headOk names p && p.kids.all (chk names k)) := by
  cases p with
  | say b => rw [chk_say]; rfl
  | ask q n parts =>
    show (decide (q ∈ names) && (decide (0 ≤ n) && (decide ((parts.map (·.1)).Nodup) && parts.all fun q => chk names k q.2))) = ((decide (q ∈ names) && (decide (0 ≤ n) && decide ((parts.map (·.1)).Nodup))) && (parts.map (·.2)).all (chk names k))
    rw [List.all_map, Bool.and_assoc, Bool.and_assoc]
    rfl
  | toss ps => rfl
theorem all_same {α : Type} {f : α → Bool} {l m : List α} (h : ∀ x, x ∈ l ↔ x ∈ m) : l.all f = m.all f := by
  refine Bool.eq_iff_iff.mpr ?_
  rw [List.all_eq_true, List.all_eq_true]
  exact ⟨fun z x hx => z x ((h x).mpr hx), fun z x hx => z x ((h x).mp hx)⟩
/-! ### data of players -/
mutual
theorem Pl.nol : ∀ p : Pl, nol p.d = true
  | .say b => by unfold Pl.d; rfl
  | .ask p n parts => by
    unfold Pl.d
    show (Gm.nol (.str "ask") && (Gm.nol (.str p) && (Gm.nol (.int n) && (nolAll (Pl.ds2 parts) && nolAll [])))) = true
    rw [Pl.nol2 parts]; rfl
  | .toss ps => by
    unfold Pl.d
    show (Gm.nol (.str "toss") && (nolAll (Pl.ds ps) && nolAll [])) = true
    rw [Pl.nols ps]; rfl
theorem Pl.nols : ∀ ps : List Pl, nolAll (Pl.ds ps) = true
  | [] => by unfold Pl.ds; rfl
  | p :: r => by
    unfold Pl.ds
    show (Gm.nol p.d && nolAll (Pl.ds r)) = true
    rw [Pl.nol p, Pl.nols r]; rfl
theorem Pl.nol2 : ∀ ps : List (Int × Pl), nolAll (Pl.ds2 ps) = true
  | [] => by unfold Pl.ds2; rfl
  | (a, p) :: r => by
    unfold Pl.ds2
    show ((Gm.nol (.int a) && (Gm.nol p.d && nolAll [])) && nolAll (Pl.ds2 r)) = true
    rw [Pl.nol p, Pl.nol2 r]; rfl
end
theorem partD_nol (q : Int × Pl) : nol (partD q) = true := by
  show (Gm.nol (.int q.1) && (Gm.nol q.2.d && nolAll [])) = true
  rw [Pl.nol]; rfl
/-! equal data, equal players -/
mutual
theorem Pl.inj : ∀ p q : Pl, PyData.eqv p.d q.d = true → p = q
  | .say b, q, h => by
    cases q with
    | say c => simp [Pl.d, PyData.eqv, PyData.eqvAll] at h; rw [h]
    | ask _ _ _ => simp [Pl.d, PyData.eqv, PyData.eqvAll] at h
    | toss _ => simp [Pl.d, PyData.eqv, PyData.eqvAll] at h
  | .ask p n parts, q, h => by
    cases q with
    | say c => simp [Pl.d, PyData.eqv, PyData.eqvAll] at h
    | ask p' n' parts' =>
      simp only [Pl.d, PyData.eqv, PyData.eqvAll, Bool.and_true, Bool.and_eq_true, beq_iff_eq] at h
      obtain ⟨_, rfl, rfl, h⟩ := h
      rw [Pl.inj2 parts parts' h]
    | toss _ => simp [Pl.d, PyData.eqv, PyData.eqvAll] at h
  | .toss ps, q, h => by
    cases q with
    | say c => simp [Pl.d, PyData.eqv, PyData.eqvAll] at h
    | ask _ _ _ => simp [Pl.d, PyData.eqv, PyData.eqvAll] at h
    | toss ps' =>
      simp only [Pl.d, PyData.eqv, PyData.eqvAll, Bool.and_true, Bool.and_eq_true, beq_iff_eq] at h
      rw [Pl.injs ps ps' h.2]
theorem Pl.injs : ∀ ps qs : List Pl, PyData.eqvAll (Pl.ds ps) (Pl.ds qs) = true → ps = qs
  | [], [], _ => rfl
  | [], q :: r, h => by simp [Pl.ds, PyData.eqvAll] at h
  | p :: r, [], h => by simp [Pl.ds, PyData.eqvAll] at h
  | p :: r, q :: r', h => by
    simp only [Pl.ds, PyData.eqvAll, Bool.and_eq_true] at h
    rw [Pl.inj p q h.1, Pl.injs r r' h.2]
theorem Pl.inj2 : ∀ ps qs : List (Int × Pl), PyData.eqvAll (Pl.ds2 ps) (Pl.ds2 qs) = true → ps = qs
  | [], [], _ => rfl
  | [], (b, q) :: r, h => by simp [Pl.ds2, PyData.eqvAll] at h
  | (a, p) :: r, [], h => by simp [Pl.ds2, PyData.eqvAll] at h
  | (a, p) :: r, (b, q) :: r', h => by
    simp only [Pl.ds2, PyData.eqvAll, PyData.eqv, Bool.and_eq_true, Bool.and_true, beq_iff_eq] at h
    rw [h.1.1, Pl.inj p q h.1.2, Pl.inj2 r r' h.2]
end
mutual
theorem Pl.refl : ∀ p : Pl, PyData.eqv p.d p.d = true
  | .say b => by simp [Pl.d, PyData.eqv, PyData.eqvAll]
  | .ask p n parts => by simp [Pl.d, PyData.eqv, PyData.eqvAll, Pl.refl2 parts]
  | .toss ps => by simp [Pl.d, PyData.eqv, PyData.eqvAll, Pl.refls ps]
theorem Pl.refls : ∀ ps : List Pl, PyData.eqvAll (Pl.ds ps) (Pl.ds ps) = true
  | [] => by simp [Pl.ds, PyData.eqvAll]
  | p :: r => by simp [Pl.ds, PyData.eqvAll, Pl.refl p, Pl.refls r]
theorem Pl.refl2 : ∀ ps : List (Int × Pl), PyData.eqvAll (Pl.ds2 ps) (Pl.ds2 ps) = true
  | [] => by simp [Pl.ds2, PyData.eqvAll]
  | (a, p) :: r => by simp [Pl.ds2, PyData.eqvAll, PyData.eqv, Pl.refl p, Pl.refl2 r]
end
theorem mem_any {p : Pl} {ps : List Pl} : ((ps.map Pl.d).any fun z => PyData.eqv z p.d) = true ↔ p ∈ ps := by
  rw [List.any_eq_true]
  constructor
  · rintro ⟨d, hd, e⟩
    obtain ⟨q, hq, rfl⟩ := List.mem_map.mp hd
    rw [← Pl.inj q p e]
    exact hq
  · intro h
    exact ⟨p.d, List.mem_map.mpr ⟨p, h, rfl⟩, Pl.refl p⟩
/-! how deep the data are -/
noncomputable def Pl.Lay (k : Nat) (p : Pl) : Prop := PyData.canLay0 p.d = true ∧ PyData.depth p.d ≤ k
theorem layAll {k : Nat} : ∀ {ds : List PyData}, (∀ d ∈ ds, PyData.canLay0 d = true ∧ PyData.depth d ≤ k) → PyData.canLayAll0 ds = true ∧ PyData.depthAll ds ≤ k
  | [], _ => ⟨rfl, Nat.zero_le _⟩
  | d :: r, h => by
    obtain ⟨h1, h2⟩ := h d (List.mem_cons_self ..)
    obtain ⟨h3, h4⟩ := layAll (ds := r) fun x hx => h x (List.mem_cons_of_mem _ hx)
    refine ⟨?_, ?_⟩
    · show (PyData.canLay0 d && PyData.canLayAll0 r) = true
      rw [h1, h3]; rfl
    · show max (PyData.depth d) (PyData.depthAll r) ≤ k
      omega
theorem layAll_of {k : Nat} : ∀ {ds : List PyData}, PyData.canLayAll0 ds = true → PyData.depthAll ds ≤ k → ∀ d ∈ ds, PyData.canLay0 d = true ∧ PyData.depth d ≤ k
  | [], _, _, d, hd => nomatch hd
  | e :: r, h1, h2, d, hd => by
    have h1' : (PyData.canLay0 e && PyData.canLayAll0 r) = true := h1
    have h2' : max (PyData.depth e) (PyData.depthAll r) ≤ k := h2
    rw [Bool.and_eq_true] at h1'
    rcases List.mem_cons.mp hd with e1 | e1
    · subst e1; exact ⟨h1'.1, by omega⟩
    · exact layAll_of h1'.2 (by omega) d e1
theorem Pl.Lay.mono {j k : Nat} {p : Pl} (h : p.Lay j) (e : j ≤ k) : p.Lay k := ⟨h.1, Nat.le_trans h.2 e⟩
theorem lay_say (b : Bool) : (Pl.say b).Lay 1 := by unfold Pl.Lay Pl.d; exact ⟨by decide +kernel +revert, by decide +kernel +revert⟩
theorem lay_toss {k : Nat} {ps : List Pl} (h : ∀ q ∈ ps, q.Lay k) : (Pl.toss ps).Lay (k + 2) := by
  obtain ⟨h1, h2⟩ := layAll (k := k) (ds := ps.map Pl.d) fun d hd => by
    obtain ⟨q, hq, rfl⟩ := List.mem_map.mp hd
    exact h q hq
  unfold Pl.Lay
  rw [Pl.d_toss]
  refine ⟨?_, ?_⟩
  · show (PyData.canLay0 (.str "toss") && (PyData.canLayAll0 (ps.map Pl.d) && true)) = true
    rw [h1]; decide +kernel
  · show max 0 (max (PyData.depthAll (ps.map Pl.d) + 1) 0) + 1 ≤ k + 2
    omega
theorem lay_ask {k : Nat} {p : Str} {n : Int} {parts : List (Int × Pl)} (hp : PyData.canLay0 (.str p) = true) (h : ∀ q ∈ parts, q.2.Lay k) : (Pl.ask p n parts).Lay (k + 3) := by
  obtain ⟨h1, h2⟩ := layAll (k := k + 1) (ds := parts.map partD) fun d hd => by
    obtain ⟨q, hq, rfl⟩ := List.mem_map.mp hd
    obtain ⟨x, y⟩ := h q hq
    refine ⟨?_, ?_⟩
    · show (true && (PyData.canLay0 q.2.d && true)) = true
      rw [x]; rfl
    · show max 0 (max (PyData.depth q.2.d) 0) + 1 ≤ k + 1
      omega
  unfold Pl.Lay
  rw [Pl.d_ask]
  refine ⟨?_, ?_⟩
  · show (PyData.canLay0 (.str "ask") && (PyData.canLay0 (.str p) && (true && (PyData.canLayAll0 (parts.map partD) && true)))) = true
    rw [hp, h1]; decide +kernel
  · show max 0 (max 0 (max 0 (max (PyData.depthAll (parts.map partD) + 1) 0))) + 1 ≤ k + 3
    omega
theorem lay_kids {k : Nat} {p : Pl} (h : p.Lay k) : ∀ q ∈ p.kids, q.Lay k := by
  intro q hq
  cases p with
  | say b => exact nomatch hq
  | ask s n parts =>
    unfold Pl.Lay at h
    rw [Pl.d_ask] at h
    obtain ⟨h1, h2⟩ := h
    have h1' : (PyData.canLay0 (.str "ask") && (PyData.canLay0 (.str s) && (true && (PyData.canLayAll0 (parts.map partD) && true)))) = true := h1
    have h2' : max 0 (max 0 (max 0 (max (PyData.depthAll (parts.map partD) + 1) 0))) + 1 ≤ k := h2
    simp only [Bool.and_eq_true] at h1'
    obtain ⟨⟨a, b⟩, hab, rfl⟩ := List.mem_map.mp hq
    obtain ⟨x, y⟩ := layAll_of (k := k) h1'.2.2.2.1 (by omega) _ (List.mem_map.mpr ⟨_, hab, rfl⟩)
    have x' : (true && (PyData.canLay0 b.d && true)) = true := x
    have y' : max 0 (max (PyData.depth b.d) 0) + 1 ≤ k := y
    simp only [Bool.and_eq_true] at x'
    exact ⟨x'.2.1, by show PyData.depth b.d ≤ k; omega⟩
  | toss ps =>
    unfold Pl.Lay at h
    rw [Pl.d_toss] at h
    obtain ⟨h1, h2⟩ := h
    have h1' : (PyData.canLay0 (.str "toss") && (PyData.canLayAll0 (ps.map Pl.d) && true)) = true := h1
    have h2' : max 0 (max (PyData.depthAll (ps.map Pl.d) + 1) 0) + 1 ≤ k := h2
    simp only [Bool.and_eq_true] at h1'
    exact layAll_of (k := k) h1'.2.1 (by omega) _ (List.mem_map.mpr ⟨q, hq, rfl⟩)
theorem lay_shaped {p : Pl} (h : p.Lay 60) : SeqAt.shaped p.d = true := by
  show (PyData.canLay0 p.d && decide (PyData.depth p.d ≤ 64)) = true
  rw [h.1, decide_eq_true (Nat.le_trans h.2 (by decide))]; rfl
theorem lays_shaped {ps : List Pl} (h : ∀ q ∈ ps, q.Lay 60) : SeqAt.shaped (.list (ps.map Pl.d)) = true := by
  obtain ⟨h1, h2⟩ := layAll (k := 60) (ds := ps.map Pl.d) fun d hd => by
    obtain ⟨q, hq, rfl⟩ := List.mem_map.mp hd
    exact h q hq
  show (PyData.canLayAll0 (ps.map Pl.d) && decide (PyData.depthAll (ps.map Pl.d) + 1 ≤ 64)) = true
  rw [h1, decide_eq_true (by omega)]; rfl
/-- no list of a player is long -/
inductive Pl.Short : Pl → Prop
  | say (b : Bool) : Pl.Short (.say b)
  | ask (p : Str) (n : Int) (parts : List (Int × Pl)) : p.length ≤ 1000 → parts.length ≤ 1000 → (∀ q ∈ parts, Pl.Short q.2) → Pl.Short (.ask p n parts)
  | toss (ps : List Pl) : ps.length ≤ 1000 → (∀ q ∈ ps, Pl.Short q) → Pl.Short (.toss ps)
theorem Pl.Short.kids {p : Pl} (h : Pl.Short p) : p.kids.length ≤ 1000 ∧ ∀ q ∈ p.kids, Pl.Short q := by
  cases h with
  | say b => exact ⟨by simp [Pl.kids], fun q hq => nomatch hq⟩
  | ask p n parts h1 h2 h3 =>
    refine ⟨?_, fun q hq => ?_⟩
    · show (parts.map (·.2)).length ≤ 1000
      rw [List.length_map]
      exact h2
    · obtain ⟨x, hx, rfl⟩ := List.mem_map.mp hq
      exact h3 x hx
  | toss ps h1 h2 => exact ⟨h1, h2⟩
end Gm
set_option Elab.async false
set_option linter.all false
set_option maxRecDepth 100000
set_option maxHeartbeats 2000000
/-! Players: what is read and written. -/
namespace Pz
open PySem L2 Gm TL
mutual
noncomputable def plWords : Pl → List Str
  | .say b => ["say", if b then "yes" else "no"]
  | .toss ps => "toss" :: numS ((ps.length : Nat) : Int) :: plsWords ps
  | .ask p n parts => "ask" :: p :: numS n :: numS ((parts.length : Nat) : Int) :: ptsWords parts
noncomputable def plsWords : List Pl → List Str
  | [] => []
  | p :: r => plWords p ++ plsWords r
noncomputable def ptsWords : List (Int × Pl) → List Str
  | [] => []
  | (a, p) :: r => numS a :: (plWords p ++ ptsWords r)
end
theorem plsWords_map : ∀ ps : List Pl, plsWords ps = ps.flatMap plWords
  | [] => by unfold plsWords; rfl
  | p :: r => by unfold plsWords; rw [plsWords_map r]; rfl
noncomputable def ptWordsP (q : Int × Pl) : List Str := numS q.1 :: plWords q.2
theorem ptsWords_map : ∀ ps : List (Int × Pl), ptsWords ps = ps.flatMap ptWordsP
  | [] => by unfold ptsWords; rfl
  | (a, p) :: r => by unfold ptsWords; rw [ptsWords_map r]; rfl
theorem plWords_say (b : Bool) : plWords (.say b) = ([("say" : Str), if b then "yes" else "no"] : List Str) := by unfold plWords; rfl
theorem plWords_toss (ps : List Pl) : plWords (.toss ps) = ("toss" : Str) :: numS ((ps.length : Nat) : Int) :: ps.flatMap plWords := by unfold plWords; rw [plsWords_map]
theorem plWords_ask (p : Str) (n : Int) (parts : List (Int × Pl)) : plWords (.ask p n parts) = ("ask" : Str) :: p :: numS n :: numS ((parts.length : Nat) : Int) :: parts.flatMap ptWordsP := by unfold plWords; rw [ptsWords_map]
/-- players that a text can write, at most k calls and tosses deep -/
noncomputable def plFit : Nat → Pl → Bool
  | _, .say _ => true
  | 0, .toss _ => false
  | 0, .ask _ _ _ => false
  | k + 1, .toss ps => decide (1 ≤ ps.length ∧ ps.length ≤ 16) && ps.all fun q => plFit k q
  | k + 1, .ask p n parts => isName p && decide (0 ≤ n ∧ n ≤ 65535) && decide (parts.length ≤ 64) && decide ((parts.map (·.1)).Nodup) && parts.all fun q => decide (0 ≤ q.1 ∧ q.1 ≤ 63) && plFit k q.2
theorem plFit_say {k : Nat} {b : Bool} : plFit k (.say b) = true := by unfold plFit; cases k <;> rfl
theorem plFit_toss {k : Nat} {ps : List Pl} : plFit (k + 1) (.toss ps) = true ↔ (1 ≤ ps.length ∧ ps.length ≤ 16) ∧ ∀ q ∈ ps, plFit k q = true := by
  show (decide (1 ≤ ps.length ∧ ps.length ≤ 16) && ps.all fun q => plFit k q) = true ↔ _
  rw [Bool.and_eq_true, decide_eq_true_iff, List.all_eq_true]
theorem plFit_ask {k : Nat} {p : Str} {n : Int} {parts : List (Int × Pl)} : plFit (k + 1) (.ask p n parts) = true ↔ isName p = true ∧ (0 ≤ n ∧ n ≤ 65535) ∧ parts.length ≤ 64 ∧ (parts.map (·.1)).Nodup ∧ ∀ q ∈ parts, (0 ≤ q.1 ∧ q.1 ≤ 63) ∧ plFit k q.2 = true := by
  show (isName p && decide (0 ≤ n ∧ n ≤ 65535) && decide (parts.length ≤ 64) && decide ((parts.map (·.1)).Nodup) && parts.all fun q => decide (0 ≤ q.1 ∧ q.1 ≤ 63) && plFit k q.2) = true ↔ _
  simp only [Bool.and_eq_true, decide_eq_true_iff, List.all_eq_true, and_assoc]
theorem plFit_up : ∀ {k : Nat} {p : Pl}, plFit k p = true → plFit (k + 1) p = true := by
  intro k
  induction k with
  | zero =>
    intro p h
    cases p with
    | say b => exact plFit_say
    | toss ps => cases h
    | ask _ _ _ => cases h
  | succ k ih =>
    intro p h
    cases p with
    | say b => exact plFit_say
    | toss ps =>
      rw [plFit_toss] at h ⊢
      exact ⟨h.1, fun q hq => ih (h.2 q hq)⟩
    | ask s n parts =>
      rw [plFit_ask] at h ⊢
      exact ⟨h.1, h.2.1, h.2.2.1, h.2.2.2.1, fun q hq => ⟨(h.2.2.2.2 q hq).1, ih (h.2.2.2.2 q hq).2⟩⟩
theorem plFit_le {k j : Nat} {p : Pl} (h : plFit k p = true) (l : k ≤ j) : plFit j p = true := by
  induction l with
  | refl => exact h
  | step _ ih => exact plFit_up ih
/-! ### reading -/
def numB (ws : List Str) (lo hi : Int) (i : Nat) : Bool := isNum (wd ws i) && decide (lo ≤ ((numW (wd ws i) : Nat) : Int) ∧ ((numW (wd ws i) : Nat) : Int) ≤ hi)
noncomputable def pToss (f : Nat → Except Nat (Pl × Nat)) : Nat → List Pl → Nat → Except Nat (List Pl × Nat)
  | 0, found, i => .ok (found, i)
  | n + 1, found, i => match f i with
    | .error j => .error j
    | .ok (p, j) => pToss f n (found ++ [p]) j
noncomputable def pPartsP (f : Nat → Except Nat (Pl × Nat)) (ws : List Str) : Nat → List (Int × Pl) → Nat → Except Nat (List (Int × Pl) × Nat)
  | 0, found, i => .ok (found, i)
  | n + 1, found, i => if wd ws i ∈ found.map (fun q => numS q.1) then .error i
    else if numB ws 0 63 i = true then
      match f (i + 1) with
      | .error j => .error j
      | .ok (p, j) => pPartsP f ws n (found ++ [(((numW (wd ws i) : Nat) : Int), p)]) j
    else .error i
noncomputable def pSay (ws : List Str) (i : Nat) : Except Nat (Pl × Nat) := if wd ws i = "yes" then .ok (.say true, i + 1) else if wd ws i = "no" then .ok (.say false, i + 1) else .error i
noncomputable def pAskP (f : Nat → Except Nat (Pl × Nat)) (ws : List Str) (i : Nat) : Except Nat (Pl × Nat) :=
  if isName (wd ws i) = true then
    if numB ws 0 65535 (i + 1) = true then
      if numB ws 0 64 (i + 2) = true then
        match pPartsP f ws (numW (wd ws (i + 2))) [] (i + 3) with
        | .error j => .error j
        | .ok (parts, j) => .ok (.ask (wd ws i) ((numW (wd ws (i + 1)) : Nat) : Int) parts, j)
      else .error (i + 2)
    else .error (i + 1)
  else .error i
noncomputable def pTossP (f : Nat → Except Nat (Pl × Nat)) (ws : List Str) (i : Nat) : Except Nat (Pl × Nat) :=
  if numB ws 1 16 i = true then
    match pToss f (numW (wd ws i)) [] (i + 1) with
    | .error j => .error j
    | .ok (ps, j) => .ok (.toss ps, j)
  else .error i
noncomputable def pPl (ws : List Str) : Nat → Nat → Except Nat (Pl × Nat)
  | 0, i => if wd ws i = "say" then pSay ws (i + 1) else .error i
  | k + 1, i => if wd ws i = "say" then pSay ws (i + 1)
    else if wd ws i = "toss" then pTossP (pPl ws k) ws (i + 1)
    else if wd ws i = "ask" then pAskP (pPl ws k) ws (i + 1)
    else .error i
noncomputable def pPlayer (ws : List Str) : Except Nat Pl := match pPl ws 8 0 with
  | .error j => .error j
  | .ok (p, j) => if j = ws.length then .ok p else .error j
variable {ws : List Str}
/-! ### written, then read -/
def Fwd (ws : List Str) (f : Nat → Except Nat (Pl × Nat)) (k : Nat) : Prop := ∀ (p : Pl) (i : Nat) (r : List Str), plFit k p = true → ws.drop i = plWords p ++ r → f i = .ok (p, i + (plWords p).length) ∧ ws.drop (i + (plWords p).length) = r
theorem numB_S {n : Int} {lo hi : Int} {i : Nat} {r : List Str} (h0 : 0 ≤ n) (h1 : n ≤ 65535) (hl : lo ≤ n) (hh : n ≤ hi) (h : ws.drop i = numS n :: r) : numB ws lo hi i = true ∧ ((numW (wd ws i) : Nat) : Int) = n ∧ ws.drop (i + 1) = r ∧ wd ws i = numS n := by
  obtain ⟨m, rfl⟩ : ∃ m : Nat, n = m := ⟨n.toNat, by omega⟩
  obtain ⟨e1, e2, _⟩ := wd_of_drop h
  obtain ⟨n1, n2⟩ := isNum_S (n := m) (by omega)
  refine ⟨?_, by rw [e1, n2], e2, e1⟩
  unfold numB
  rw [e1, n1, n2, decide_eq_true ⟨hl, hh⟩]
  rfl
theorem toss_fwd {f : Nat → Except Nat (Pl × Nat)} {k : Nat} (hf : Fwd ws f k) : ∀ (ps found : List Pl) (i : Nat) (r : List Str), (∀ q ∈ ps, plFit k q = true) → ws.drop i = ps.flatMap plWords ++ r →
    pToss f ps.length found i = .ok (found ++ ps, i + (ps.flatMap plWords).length) ∧ ws.drop (i + (ps.flatMap plWords).length) = r
  | [], found, i, r, _, h => by
    refine ⟨?_, h⟩
    show Except.ok (found, i) = _
    rw [List.append_nil]
    rfl
  | p :: ps, found, i, r, g, h => by
    have h' : ws.drop i = plWords p ++ (ps.flatMap plWords ++ r) := by rw [h, List.flatMap_cons, List.append_assoc]
    obtain ⟨a1, a2⟩ := hf p i _ (g p (List.mem_cons_self ..)) h'
    obtain ⟨b1, b2⟩ := toss_fwd hf ps (found ++ [p]) _ r (fun q hq => g q (List.mem_cons_of_mem _ hq)) a2
    have el : i + (List.flatMap plWords (p :: ps)).length = i + (plWords p).length + (List.flatMap plWords ps).length := by rw [List.flatMap_cons, List.length_append]; omega
    rw [el]
    refine ⟨?_, b2⟩
    show pToss f (ps.length + 1) found i = _
    unfold pToss
    rw [a1]
    dsimp only
    rw [b1, List.append_assoc]
    rfl
theorem numS_inj {a b : Int} (ha : 0 ≤ a ∧ a ≤ 65535) (hb : 0 ≤ b ∧ b ≤ 65535) (h : numS a = numS b) : a = b := by
  obtain ⟨m, rfl⟩ : ∃ m : Nat, a = m := ⟨a.toNat, by omega⟩
  obtain ⟨n, rfl⟩ : ∃ n : Nat, b = n := ⟨b.toNat, by omega⟩
  have h1 := (isNum_S (n := m) (by omega)).2
  rw [h, (isNum_S (n := n) (by omega)).2] at h1
  rw [h1]
theorem parts_fwd {f : Nat → Except Nat (Pl × Nat)} {k : Nat} (hf : Fwd ws f k) : ∀ (ps found : List (Int × Pl)) (i : Nat) (r : List Str), (∀ q ∈ found ++ ps, 0 ≤ q.1 ∧ q.1 ≤ 63) → ((found ++ ps).map (·.1)).Nodup → (∀ q ∈ ps, plFit k q.2 = true) → ws.drop i = ps.flatMap ptWordsP ++ r →
    pPartsP f ws ps.length found i = .ok (found ++ ps, i + (ps.flatMap ptWordsP).length) ∧ ws.drop (i + (ps.flatMap ptWordsP).length) = r
  | [], found, i, r, _, _, _, h => by
    refine ⟨?_, h⟩
    show Except.ok (found, i) = _
    rw [List.append_nil]
    rfl
  | (a, p) :: ps, found, i, r, g, nd, gp, h => by
    have h' : ws.drop i = numS a :: (plWords p ++ (ps.flatMap ptWordsP ++ r)) := by
      rw [h, List.flatMap_cons]
      show (numS a :: plWords p) ++ _ ++ _ = _
      rw [List.append_assoc, List.cons_append]
    have ga := g (a, p) (List.mem_append_right _ (List.mem_cons_self ..))
    obtain ⟨n1, n2, n3, n4⟩ := numB_S (lo := 0) (hi := 63) ga.1 (by have := ga.2; dsimp only at this; omega) ga.1 ga.2 h'
    obtain ⟨a1, a2⟩ := hf p (i + 1) _ (gp (a, p) (List.mem_cons_self ..)) n3
    have e : found ++ (a, p) :: ps = (found ++ [(a, p)]) ++ ps := by rw [List.append_assoc]; rfl
    obtain ⟨b1, b2⟩ := parts_fwd hf ps (found ++ [(a, p)]) _ r (by rw [← e]; exact g) (by rw [← e]; exact nd) (fun q hq => gp q (List.mem_cons_of_mem _ hq)) a2
    have el : i + (List.flatMap ptWordsP ((a, p) :: ps)).length = i + 1 + (plWords p).length + (List.flatMap ptWordsP ps).length := by
      rw [List.flatMap_cons, List.length_append]
      show i + ((numS a :: plWords p).length + _) = _
      rw [List.length_cons]
      omega
    rw [el]
    refine ⟨?_, b2⟩
    show pPartsP f ws (ps.length + 1) found i = _
    unfold pPartsP
    have nin : ¬ wd ws i ∈ found.map (fun q => numS q.1) := fun z => by
      rw [n4] at z
      obtain ⟨q, hq, hq2⟩ := List.mem_map.mp z
      have gq := g q (List.mem_append_left _ hq)
      have e2 : q.1 = a := numS_inj ⟨gq.1, by omega⟩ ⟨ga.1, by have := ga.2; dsimp only at this; omega⟩ hq2
      rw [List.map_append, List.map_cons] at nd
      have := (List.nodup_append.mp nd).2.2 q.1 (List.mem_map.mpr ⟨q, hq, rfl⟩) a (List.mem_cons_self ..)
      exact this e2
    rw [if_neg nin, if_pos n1, a1]
    dsimp only
    rw [n2, b1, ← e]
theorem pl_fwd : ∀ k : Nat, Fwd ws (pPl ws k) k := by
  have say : ∀ (b : Bool) (i : Nat) (r : List Str), ws.drop i = plWords (.say b) ++ r → wd ws i = "say" ∧ pSay ws (i + 1) = .ok (.say b, i + (plWords (.say b)).length) ∧ ws.drop (i + (plWords (.say b)).length) = r := by
    intro b i r h
    rw [plWords_say] at h ⊢
    obtain ⟨h1, h2, _⟩ := wd_of_drop h
    obtain ⟨h3, h4, _⟩ := wd_of_drop h2
    refine ⟨h1, ?_, h4⟩
    unfold pSay
    cases b
    · have h3 : wd ws (i + 1) = "no" := h3
      rw [h3, if_neg (by decide +kernel), if_pos rfl]; rfl
    · have h3 : wd ws (i + 1) = "yes" := h3
      rw [h3, if_pos rfl]; rfl
  intro k
  induction k with
  | zero =>
    intro p i r g h
    cases p with
    | say b =>
      obtain ⟨h1, h2, h3⟩ := say b i r h
      refine ⟨?_, h3⟩
      unfold pPl
      rw [if_pos h1]
      exact h2
    | toss ps => cases g
    | ask _ _ _ => cases g
  | succ k ih =>
    intro p i r g h
    cases p with
    | say b =>
      obtain ⟨h1, h2, h3⟩ := say b i r h
      refine ⟨?_, h3⟩
      unfold pPl
      rw [if_pos h1]
      exact h2
    | toss ps =>
      rw [plFit_toss] at g
      rw [plWords_toss] at h ⊢
      obtain ⟨h1, h2, _⟩ := wd_of_drop h
      obtain ⟨n1, n2, n3, n4⟩ := numB_S (lo := 1) (hi := 16) (by omega) (by omega) (by omega) (by omega) h2
      obtain ⟨a1, a2⟩ := toss_fwd ih ps [] (i + 1 + 1) r g.2 n3
      have el : i + (("toss" : Str) :: numS ((ps.length : Nat) : Int) :: List.flatMap plWords ps).length = i + 1 + 1 + (List.flatMap plWords ps).length := by
        rw [List.length_cons, List.length_cons]; omega
      rw [el]
      refine ⟨?_, a2⟩
      unfold pPl
      rw [if_neg (by rw [h1]; decide +kernel), if_pos h1]
      unfold pTossP
      rw [if_pos n1, show numW (wd ws (i + 1)) = ps.length by omega, a1]
      rfl
    | ask s n parts =>
      rw [plFit_ask] at g
      obtain ⟨g1, g2, g3, g4, g5⟩ := g
      rw [plWords_ask] at h ⊢
      obtain ⟨h1, h2, _⟩ := wd_of_drop h
      obtain ⟨h3, h4, _⟩ := wd_of_drop h2
      obtain ⟨n1, n2, n3, n4⟩ := numB_S (lo := 0) (hi := 65535) g2.1 g2.2 g2.1 g2.2 h4
      obtain ⟨m1, m2, m3, m4⟩ := numB_S (lo := 0) (hi := 64) (by omega) (by omega) (by omega) (by omega) n3
      obtain ⟨a1, a2⟩ := parts_fwd ih parts [] (i + 1 + 1 + 1 + 1) r (fun q hq => (g5 q hq).1) g4 (fun q hq => (g5 q hq).2) m3
      have el : i + (("ask" : Str) :: s :: numS n :: numS ((parts.length : Nat) : Int) :: List.flatMap ptWordsP parts).length = i + 1 + 1 + 1 + 1 + (List.flatMap ptWordsP parts).length := by
        rw [List.length_cons, List.length_cons, List.length_cons, List.length_cons]; omega
      rw [el]
      refine ⟨?_, a2⟩
      unfold pPl
      rw [if_neg (by rw [h1]; decide +kernel), if_neg (by rw [h1]; decide +kernel), if_pos h1]
      unfold pAskP
      rw [if_pos (by rw [h3]; exact g1), if_pos n1, if_pos (show numB ws 0 64 (i + 1 + 2) = true from m1), show numW (wd ws (i + 1 + 2)) = parts.length from (by have := m2; omega : numW (wd ws (i + 1 + 1 + 1)) = parts.length)]
      rw [show pPartsP (pPl ws k) ws parts.length [] (i + 1 + 3) = _ from a1]
      dsimp only
      rw [h3, n2]
      rfl
theorem player_fwd {p : Pl} (g : plFit 8 p = true) : pPlayer (plWords p) = .ok p ∧ pPl (plWords p) 8 0 = .ok (p, (plWords p).length) := by
  have h := (pl_fwd (ws := plWords p) 8 p 0 [] g (List.append_nil _).symm).1
  rw [Nat.zero_add] at h
  refine ⟨?_, h⟩
  unfold pPlayer
  rw [h]
  exact if_pos rfl
/-! ### a word that fits nowhere -/
structure Odd2 (w : Str) : Prop where
  num : isNum w = false
  name : isName w = false
  ask : w ≠ "ask"
theorem Odd2.say {w : Str} (h : Odd2 w) : w ≠ "say" := fun z => by have := h.name; rw [z] at this; exact absurd this (by decide +kernel)
theorem Odd2.toss {w : Str} (h : Odd2 w) : w ≠ "toss" := fun z => by have := h.name; rw [z] at this; exact absurd this (by decide +kernel)
theorem Odd2.yes {w : Str} (h : Odd2 w) : w ≠ "yes" := fun z => by have := h.name; rw [z] at this; exact absurd this (by decide +kernel)
theorem Odd2.no {w : Str} (h : Odd2 w) : w ≠ "no" := fun z => by have := h.name; rw [z] at this; exact absurd this (by decide +kernel)
section
variable {us : List Str} {n : Nat}
theorem numB_odd (od : Odd2 (wd us n)) {lo hi : Int} : numB us lo hi n = false := by
  unfold numB
  rw [od.num]; rfl
theorem numB_ag (ag : Agree ws us n) {i : Nat} (hi : i < n) {lo hi' : Int} : numB us lo hi' i = numB ws lo hi' i := by
  unfold numB
  rw [ag i hi]
def Mono (f : Nat → Except Nat (Pl × Nat)) : Prop := ∀ (i j : Nat) (p : Pl), f i = .ok (p, j) → i < j
theorem toss_mono {f : Nat → Except Nat (Pl × Nat)} (hm : Mono f) : ∀ (m : Nat) (found ps : List Pl) (i j : Nat), pToss f m found i = .ok (ps, j) → i ≤ j
  | 0, _, _, _, _, h => by cases h; exact Nat.le_refl _
  | m + 1, found, ps, i, j, h => by
    unfold pToss at h
    cases e : f i with
    | error q => rw [e] at h; cases h
    | ok a =>
      obtain ⟨p, q⟩ := a
      rw [e] at h
      have := hm _ _ _ e
      have := toss_mono hm m _ _ _ _ h
      omega
theorem parts_mono {f : Nat → Except Nat (Pl × Nat)} (hm : Mono f) : ∀ (m : Nat) (found ps : List (Int × Pl)) (i j : Nat), pPartsP f ws m found i = .ok (ps, j) → i ≤ j
  | 0, _, _, _, _, h => by cases h; exact Nat.le_refl _
  | m + 1, found, ps, i, j, h => by
    unfold pPartsP at h
    split at h
    · cases h
    split at h
    · cases e : f (i + 1) with
      | error q => rw [e] at h; cases h
      | ok a =>
        obtain ⟨p, q⟩ := a
        rw [e] at h
        have := hm _ _ _ e
        have := parts_mono hm m _ _ _ _ h
        omega
    · cases h
theorem say_mono : Mono (pSay ws) := fun i j p h => by
  unfold pSay at h
  split at h
  · cases h; omega
  split at h
  · cases h; omega
  · cases h
theorem pl_mono : ∀ k : Nat, Mono (pPl ws k) := by
  intro k
  induction k with
  | zero =>
    intro i j p h
    unfold pPl at h
    split at h
    · have := say_mono _ _ _ h; omega
    · cases h
  | succ k ih =>
    intro i j p h
    unfold pPl at h
    split at h
    · have := say_mono _ _ _ h; omega
    split at h
    · unfold pTossP at h
      split at h
      · cases e : pToss (pPl ws k) (numW (wd ws (i + 1))) [] (i + 1 + 1) with
        | error q => rw [e] at h; cases h
        | ok a =>
          obtain ⟨ps, q⟩ := a
          rw [e] at h
          cases h
          have := toss_mono ih _ _ _ _ _ e
          omega
      · cases h
    split at h
    · unfold pAskP at h
      split at h
      · split at h
        · split at h
          · cases e : pPartsP (pPl ws k) ws (numW (wd ws (i + 1 + 2))) [] (i + 1 + 3) with
            | error q => rw [e] at h; cases h
            | ok a =>
              obtain ⟨ps, q⟩ := a
              rw [e] at h
              cases h
              have := parts_mono ih _ _ _ _ _ e
              omega
          · cases h
        · cases h
      · cases h
    · cases h
def CutF (n : Nat) (f g : Nat → Except Nat (Pl × Nat)) : Prop := ∀ (i j : Nat) (p : Pl), i ≤ n → f i = .ok (p, j) → Cut n (g i) p j
theorem toss_cut {f g : Nat → Except Nat (Pl × Nat)} (hm : Mono f) (hf : CutF n f g) : ∀ (m : Nat) (found ps : List Pl) (i j : Nat), i ≤ n → pToss f m found i = .ok (ps, j) → Cut n (pToss g m found i) ps j
  | 0, found, ps, i, j, hi, h => by
    cases h
    exact ⟨fun _ => rfl, fun l => absurd l (by omega)⟩
  | m + 1, found, ps, i, j, hi, h => by
    unfold pToss at h ⊢
    cases e : f i with
    | error q => rw [e] at h; cases h
    | ok a =>
      obtain ⟨p, q⟩ := a
      rw [e] at h
      dsimp only at h
      have c := hf i q p hi e
      have l2 := toss_mono hm m _ _ _ _ h
      by_cases z : q ≤ n
      · rw [c.1 z]
        exact toss_cut hm hf m _ ps q j z h
      · rw [c.2 (by omega)]
        exact ⟨fun l => absurd l (by omega), fun _ => rfl⟩
theorem found_num {found : List (Int × Pl)} {w : Str} (hf : ∀ q ∈ found, 0 ≤ q.1 ∧ q.1 ≤ 65535) (h : w ∈ found.map (fun q => numS q.1)) : isNum w = true := by
  obtain ⟨q, hq, rfl⟩ := List.mem_map.mp h
  obtain ⟨m, e⟩ : ∃ m : Nat, q.1 = m := ⟨q.1.toNat, by have := hf q hq; omega⟩
  rw [e]
  exact (isNum_S (by have := hf q hq; omega)).1
theorem parts_cut (ag : Agree ws us n) (od : Odd2 (wd us n)) {f g : Nat → Except Nat (Pl × Nat)} (hm : Mono f) (hf : CutF n f g) : ∀ (m : Nat) (found ps : List (Int × Pl)) (i j : Nat), (∀ q ∈ found, 0 ≤ q.1 ∧ q.1 ≤ 65535) → i ≤ n → pPartsP f ws m found i = .ok (ps, j) → Cut n (pPartsP g us m found i) ps j
  | 0, found, ps, i, j, _, hi, h => by
    cases h
    exact ⟨fun _ => rfl, fun l => absurd l (by omega)⟩
  | m + 1, found, ps, i, j, hn, hi, h => by
    have lt : i < j := by
      have h2 := h
      unfold pPartsP at h2
      split at h2
      · cases h2
      split at h2
      · cases e : f (i + 1) with
        | error q => rw [e] at h2; cases h2
        | ok a =>
          obtain ⟨p, q⟩ := a
          rw [e] at h2
          have := hm _ _ _ e
          have := parts_mono hm m _ _ _ _ h2
          omega
      · cases h2
    by_cases z : i = n
    · subst z
      refine ⟨fun l => absurd l (by omega), fun _ => ?_⟩
      unfold pPartsP
      rw [if_neg (fun y => by have := found_num hn y; rw [od.num] at this; cases this), numB_odd od, if_neg Bool.false_ne_true]
    have hi' : i < n := by omega
    unfold pPartsP at h ⊢
    rw [ag i hi', numB_ag ag hi']
    by_cases c1 : wd ws i ∈ found.map (fun q => numS q.1)
    · rw [if_pos c1] at h; cases h
    rw [if_neg c1] at h ⊢
    by_cases c2 : numB ws 0 63 i = true
    · rw [if_pos c2] at h ⊢
      cases e : f (i + 1) with
      | error q => rw [e] at h; cases h
      | ok a =>
        obtain ⟨p, q⟩ := a
        rw [e] at h
        dsimp only at h
        have c := hf (i + 1) q p (by omega) e
        have l2 := parts_mono hm m _ _ _ _ h
        by_cases y : q ≤ n
        · rw [c.1 y]
          refine parts_cut ag od hm hf m _ ps q j (fun x hx => ?_) y h
          rcases List.mem_append.mp hx with hx | hx
          · exact hn x hx
          · rw [List.mem_singleton.mp hx]
            unfold numB at c2
            rw [Bool.and_eq_true, decide_eq_true_iff] at c2
            dsimp only
            omega
        · rw [c.2 (by omega)]
          exact ⟨fun l => absurd l (by omega), fun _ => rfl⟩
    · rw [if_neg c2] at h; cases h
theorem say_cut (ag : Agree ws us n) (od : Odd2 (wd us n)) : CutF n (pSay ws) (pSay us) := fun i j p hi h => by
  have lt := say_mono _ _ _ h
  by_cases z : i = n
  · subst z
    refine ⟨fun l => absurd l (by omega), fun _ => ?_⟩
    unfold pSay
    rw [if_neg od.yes, if_neg od.no]
  · have e : pSay us i = pSay ws i := by
      unfold pSay
      rw [ag i (by omega)]
    rw [e, h]
    have hj : j = i + 1 := by
      unfold pSay at h
      split at h
      · cases h; rfl
      split at h
      · cases h; rfl
      · cases h
    exact ⟨fun _ => rfl, fun l => absurd l (by omega)⟩
theorem pl_cut (ag : Agree ws us n) (od : Odd2 (wd us n)) : ∀ k : Nat, CutF n (pPl ws k) (pPl us k) := by
  intro k
  induction k with
  | zero =>
    intro i j p hi h
    have lt := pl_mono 0 _ _ _ h
    unfold pPl at h ⊢
    by_cases z : i = n
    · subst z
      refine ⟨fun l => absurd l (by omega), fun _ => ?_⟩
      rw [if_neg od.say]
    · rw [ag i (by omega)]
      by_cases c : wd ws i = "say"
      · rw [if_pos c] at h ⊢
        exact say_cut ag od (i + 1) j p (by omega) h
      · rw [if_neg c] at h; cases h
  | succ k ih =>
    intro i j p hi h
    have lt := pl_mono (k + 1) _ _ _ h
    unfold pPl at h ⊢
    by_cases z : i = n
    · subst z
      refine ⟨fun l => absurd l (by omega), fun _ => ?_⟩
      rw [if_neg od.say, if_neg od.toss, if_neg od.ask]
    rw [ag i (by omega)]
    by_cases c : wd ws i = "say"
    · rw [if_pos c] at h ⊢
      exact say_cut ag od (i + 1) j p (by omega) h
    rw [if_neg c] at h ⊢
    by_cases c2 : wd ws i = "toss"
    · rw [if_pos c2] at h ⊢
      unfold pTossP at h ⊢
      by_cases z1 : i + 1 = n
      · rw [z1, numB_odd od, if_neg Bool.false_ne_true]
        refine ⟨fun l => ?_, fun _ => rfl⟩
        by_cases c3 : numB ws 1 16 (i + 1) = true
        · rw [if_pos c3] at h
          cases e : pToss (pPl ws k) (numW (wd ws (i + 1))) [] (i + 1 + 1) with
          | error q => rw [e] at h; cases h
          | ok a =>
            obtain ⟨ps, q⟩ := a
            rw [e] at h
            cases h
            have := toss_mono (pl_mono k) _ _ _ _ _ e
            omega
        · rw [if_neg c3] at h; cases h
      rw [numB_ag ag (by omega), ag (i + 1) (by omega)]
      by_cases c3 : numB ws 1 16 (i + 1) = true
      · rw [if_pos c3] at h ⊢
        cases e : pToss (pPl ws k) (numW (wd ws (i + 1))) [] (i + 1 + 1) with
        | error q => rw [e] at h; cases h
        | ok a =>
          obtain ⟨ps, q⟩ := a
          rw [e] at h
          cases h
          have c4 := toss_cut (pl_mono k) ih _ _ _ _ _ (by omega) e
          refine ⟨fun l => ?_, fun l => ?_⟩
          · rw [c4.1 l]
          · rw [c4.2 l]
      · rw [if_neg c3] at h; cases h
    rw [if_neg c2] at h ⊢
    by_cases c3 : wd ws i = "ask"
    · rw [if_pos c3] at h ⊢
      unfold pAskP at h ⊢
      by_cases d1 : isName (wd ws (i + 1)) = true
      · rw [if_pos d1] at h
        by_cases d2 : numB ws 0 65535 (i + 1 + 1) = true
        · rw [if_pos d2] at h
          by_cases d3 : numB ws 0 64 (i + 1 + 2) = true
          · rw [if_pos d3] at h
            cases e : pPartsP (pPl ws k) ws (numW (wd ws (i + 1 + 2))) [] (i + 1 + 3) with
            | error q => rw [e] at h; cases h
            | ok a =>
              obtain ⟨ps, q⟩ := a
              rw [e] at h
              cases h
              have l2 := parts_mono (pl_mono k) _ _ _ _ _ e
              by_cases z1 : i + 1 = n
              · rw [z1, od.name, if_neg Bool.false_ne_true]
                exact ⟨fun l => absurd l (by omega), fun _ => rfl⟩
              rw [ag (i + 1) (by omega), if_pos d1]
              by_cases z2 : i + 1 + 1 = n
              · rw [z2, numB_odd od, if_neg Bool.false_ne_true]
                exact ⟨fun l => absurd l (by omega), fun _ => rfl⟩
              rw [numB_ag ag (by omega), if_pos d2]
              by_cases z3 : i + 1 + 2 = n
              · rw [z3, numB_odd od, if_neg Bool.false_ne_true]
                exact ⟨fun l => absurd l (by omega), fun _ => rfl⟩
              rw [numB_ag ag (by omega), if_pos d3, ag (i + 1 + 2) (by omega), ag (i + 1 + 1) (by omega)]
              have c4 := parts_cut ag od (pl_mono k) ih _ [] _ _ _ (fun q hq => by cases hq) (by omega) e
              refine ⟨fun l => ?_, fun l => ?_⟩
              · rw [c4.1 l]
              · rw [c4.2 l]
          · rw [if_neg d3] at h; cases h
        · rw [if_neg d2] at h; cases h
      · rw [if_neg d1] at h; cases h
    · rw [if_neg c3] at h; cases h
end
noncomputable def plaAt (ws : List Str) : Int := match pPlayer ws with
  | .error i => i
  | .ok _ => -3
theorem player_cut {p : Pl} (g : plFit 8 p = true) {us : List Str} {n : Nat} (hn : n ≤ (plWords p).length) (ag : Agree (plWords p) us n) (od : Odd2 (wd us n)) : (n < (plWords p).length → plaAt us = n) ∧ (n = (plWords p).length → n < us.length → plaAt us = n) := by
  obtain ⟨_, h⟩ := player_fwd g
  have c := pl_cut ag od 8 0 _ _ (Nat.zero_le _) h
  refine ⟨fun l => ?_, fun e l => ?_⟩
  · unfold plaAt pPlayer
    rw [c.2 l]
  · unfold plaAt pPlayer
    rw [c.1 (by omega)]
    dsimp only
    rw [if_neg (by omega), e]
end Pz
set_option Elab.async false
set_option linter.all false
set_option maxRecDepth 100000
set_option maxHeartbeats 2000000
/-! Players: what was read is written again. -/
namespace Pz
open PySem L2 Gm TL
variable {ws : List Str}
theorem drop_wd {i : Nat} (h : wd ws i ≠ Str.empty) : ws.drop i = wd ws i :: ws.drop (i + 1) := by
  have hi : i < ws.length := Nat.lt_of_not_le fun z => h (by
    unfold wd
    rw [List.getD_eq_getElem?_getD, List.getElem?_eq_none z]
    rfl)
  rw [List.drop_eq_getElem_cons hi]
  unfold wd
  rw [List.getD_eq_getElem?_getD, List.getElem?_eq_getElem hi]
  rfl
theorem numB_ok {lo hi : Int} {i : Nat} (h : numB ws lo hi i = true) : isNum (wd ws i) = true ∧ lo ≤ ((numW (wd ws i) : Nat) : Int) ∧ ((numW (wd ws i) : Nat) : Int) ≤ hi := by
  unfold numB at h
  rw [Bool.and_eq_true, decide_eq_true_iff] at h
  exact ⟨h.1, h.2⟩
theorem num_ne {w : Str} (h : isNum w = true) : w ≠ Str.empty := fun z => by rw [z] at h; exact absurd h (by decide +kernel)
theorem name_ne {w : Str} (h : isName w = true) : w ≠ Str.empty := fun z => by rw [z] at h; exact absurd h (by decide +kernel)
def BackF (ws : List Str) (f : Nat → Except Nat (Pl × Nat)) (k : Nat) : Prop := ∀ (i j : Nat) (p : Pl), f i = .ok (p, j) → ws.drop i = plWords p ++ ws.drop j ∧ plFit k p = true
theorem toss_back {f : Nat → Except Nat (Pl × Nat)} {k : Nat} (hf : BackF ws f k) : ∀ (m : Nat) (found ps : List Pl) (i j : Nat), pToss f m found i = .ok (ps, j) → ∃ qs, ps = found ++ qs ∧ qs.length = m ∧ ws.drop i = qs.flatMap plWords ++ ws.drop j ∧ ∀ q ∈ qs, plFit k q = true
  | 0, found, ps, i, j, h => by
    cases h
    exact ⟨[], (List.append_nil _).symm, rfl, rfl, fun q hq => by cases hq⟩
  | m + 1, found, ps, i, j, h => by
    unfold pToss at h
    cases e : f i with
    | error q => rw [e] at h; cases h
    | ok a =>
      obtain ⟨p, q⟩ := a
      rw [e] at h
      dsimp only at h
      obtain ⟨b1, b2⟩ := hf _ _ _ e
      obtain ⟨qs, e1, e2, e3, e4⟩ := toss_back hf m _ _ _ _ h
      refine ⟨p :: qs, by rw [e1, List.append_assoc]; rfl, by rw [List.length_cons, e2], by rw [b1, e3, List.flatMap_cons, List.append_assoc], fun x hx => ?_⟩
      rcases List.mem_cons.mp hx with rfl | hx
      · exact b2
      · exact e4 x hx
theorem parts_back {f : Nat → Except Nat (Pl × Nat)} {k : Nat} (hf : BackF ws f k) : ∀ (m : Nat) (found ps : List (Int × Pl)) (i j : Nat), (∀ q ∈ found, 0 ≤ q.1 ∧ q.1 ≤ 63) → (found.map (·.1)).Nodup → pPartsP f ws m found i = .ok (ps, j) →
    ∃ qs, ps = found ++ qs ∧ qs.length = m ∧ ws.drop i = qs.flatMap ptWordsP ++ ws.drop j ∧ (∀ q ∈ found ++ qs, 0 ≤ q.1 ∧ q.1 ≤ 63) ∧ ((found ++ qs).map (·.1)).Nodup ∧ ∀ q ∈ qs, plFit k q.2 = true
  | 0, found, ps, i, j, hb, nd, h => by
    cases h
    exact ⟨[], (List.append_nil _).symm, rfl, rfl, by rw [List.append_nil]; exact hb, by rw [List.append_nil]; exact nd, fun q hq => by cases hq⟩
  | m + 1, found, ps, i, j, hb, nd, h => by
    unfold pPartsP at h
    split at h
    · cases h
    rename_i c1
    split at h
    · rename_i c2
      cases e : f (i + 1) with
      | error q => rw [e] at h; cases h
      | ok a =>
        obtain ⟨p, q⟩ := a
        rw [e] at h
        dsimp only at h
        obtain ⟨b1, b2⟩ := hf _ _ _ e
        obtain ⟨n1, n2, n3⟩ := numB_ok c2
        have ew : numS ((numW (wd ws i) : Nat) : Int) = wd ws i := num_back' n1
        have nin : ((numW (wd ws i) : Nat) : Int) ∉ found.map (·.1) := fun z => by
          obtain ⟨x, hx, e2⟩ := List.mem_map.mp z
          exact c1 (List.mem_map.mpr ⟨x, hx, by rw [e2, ew]⟩)
        obtain ⟨qs, e1, e2, e3, e4, e5, e6⟩ := parts_back hf m _ _ _ _ (fun x hx => by
          rcases List.mem_append.mp hx with hx | hx
          · exact hb x hx
          · rw [List.mem_singleton.mp hx]; exact ⟨n2, n3⟩) (by
          rw [List.map_append, List.nodup_append]
          refine ⟨nd, by simp, fun a ha b hb' eab => ?_⟩
          rw [show b = ((numW (wd ws i) : Nat) : Int) from List.mem_singleton.mp hb'] at eab
          rw [eab] at ha
          exact nin ha) h
        have ea : found ++ [(((numW (wd ws i) : Nat) : Int), p)] ++ qs = found ++ (((numW (wd ws i) : Nat) : Int), p) :: qs := by rw [List.append_assoc]; rfl
        rw [ea] at e1 e4 e5
        refine ⟨(((numW (wd ws i) : Nat) : Int), p) :: qs, e1, by rw [List.length_cons, e2], ?_, e4, e5, fun x hx => ?_⟩
        · rw [drop_wd (num_ne n1), b1, e3, List.flatMap_cons]
          show _ = (numS ((numW (wd ws i) : Nat) : Int) :: plWords p) ++ _ ++ _
          rw [ew, List.append_assoc, List.cons_append]
        · rcases List.mem_cons.mp hx with rfl | hx
          · exact b2
          · exact e6 x hx
    · cases h
theorem say_back {k i j : Nat} {p : Pl} (h0 : wd ws i = "say") (h : pSay ws (i + 1) = .ok (p, j)) : ws.drop i = plWords p ++ ws.drop j ∧ plFit k p = true := by
  unfold pSay at h
  split at h
  · rename_i c
    cases h
    refine ⟨?_, plFit_say⟩
    rw [plWords_say, drop_wd (by rw [h0]; decide +kernel), h0, drop_wd (i := i + 1) (by rw [c]; decide +kernel), c]
    rfl
  split at h
  · rename_i c
    cases h
    refine ⟨?_, plFit_say⟩
    rw [plWords_say, drop_wd (by rw [h0]; decide +kernel), h0, drop_wd (i := i + 1) (by rw [c]; decide +kernel), c]
    rfl
  · cases h
theorem pl_back : ∀ k : Nat, BackF ws (pPl ws k) k := by
  intro k
  induction k with
  | zero =>
    intro i j p h
    unfold pPl at h
    split at h
    · rename_i c
      exact say_back c h
    · cases h
  | succ k ih =>
    intro i j p h
    unfold pPl at h
    split at h
    · rename_i c
      exact say_back c h
    split at h
    · rename_i c
      unfold pTossP at h
      split at h
      · rename_i c2
        obtain ⟨n1, n2, n3⟩ := numB_ok c2
        cases e : pToss (pPl ws k) (numW (wd ws (i + 1))) [] (i + 1 + 1) with
        | error q => rw [e] at h; cases h
        | ok a =>
          obtain ⟨ps, q⟩ := a
          rw [e] at h
          cases h
          obtain ⟨qs, e1, e2, e3, e4⟩ := toss_back ih _ _ _ _ _ e
          rw [List.nil_append] at e1
          subst e1
          refine ⟨?_, plFit_toss.mpr ⟨by omega, e4⟩⟩
          rw [plWords_toss, drop_wd (by rw [c]; decide +kernel), c, drop_wd (i := i + 1) (num_ne n1), e3, e2, num_back' n1]
          rfl
      · cases h
    split at h
    · rename_i c
      unfold pAskP at h
      split at h
      · rename_i d1
        split at h
        · rename_i d2
          split at h
          · rename_i d3
            obtain ⟨n1, n2, n3⟩ := numB_ok d2
            obtain ⟨m1, m2, m3⟩ := numB_ok d3
            cases e : pPartsP (pPl ws k) ws (numW (wd ws (i + 1 + 2))) [] (i + 1 + 3) with
            | error q => rw [e] at h; cases h
            | ok a =>
              obtain ⟨ps, q⟩ := a
              rw [e] at h
              cases h
              obtain ⟨qs, e1, e2, e3, e4, e5, e6⟩ := parts_back ih _ [] _ _ _ (fun q hq => by cases hq) List.nodup_nil e
              rw [List.nil_append] at e1 e4 e5
              subst e1
              refine ⟨?_, plFit_ask.mpr ⟨d1, ⟨n2, n3⟩, by omega, e5, fun x hx => ⟨e4 x hx, e6 x hx⟩⟩⟩
              rw [plWords_ask, drop_wd (by rw [c]; decide +kernel), c, drop_wd (i := i + 1) (name_ne d1), drop_wd (i := i + 1 + 1) (num_ne n1), drop_wd (i := i + 1 + 1 + 1) (num_ne m1)]
              rw [show ws.drop (i + 1 + 1 + 1 + 1) = ws.drop (i + 1 + 3) from rfl, e3, e2, num_back' n1]
              rw [show numS ((numW (wd ws (i + 1 + 2)) : Nat) : Int) = wd ws (i + 1 + 2) from num_back' m1]
              rfl
          · cases h
        · cases h
      · cases h
    · cases h
theorem player_back {p : Pl} (h : pPlayer ws = .ok p) : plWords p = ws ∧ plFit 8 p = true := by
  unfold pPlayer at h
  cases e : pPl ws 8 0 with
  | error j => rw [e] at h; cases h
  | ok a =>
    obtain ⟨q, j⟩ := a
    rw [e] at h
    dsimp only at h
    split at h
    · rename_i c
      cases h
      obtain ⟨b1, b2⟩ := pl_back 8 _ _ _ e
      refine ⟨?_, b2⟩
      rw [c, List.drop_length, List.append_nil] at b1
      exact b1.symm
    · cases h
end Pz
set_option Elab.async false
set_option linter.all false
set_option maxRecDepth 100000
set_option maxHeartbeats 2000000
/-! Players and tactics word by word, with what is open before each word. -/
namespace Pz
open PySem L2 Gm TL
inductive Tok where
  | answer
  | player (k : Nat)
  | name (k : Nat)
  | given (k : Nat)
  | count (k : Nat)
  | size (k : Nat)
  | part (k m : Nat) (seen : List Int)
  | rules (n : Nat)
  | value (k : Nat)
  | deed
  | called
def numOk (w : Str) (lo hi : Int) : Bool := isNum w && decide (lo ≤ ((numW w : Nat) : Int) ∧ ((numW w : Nat) : Int) ≤ hi)
/-- what a word that fits leaves open, the next first -/
def stP : Tok → Str → Option (List Tok)
  | .answer, w => if w = "yes" ∨ w = "no" then some [] else none
  | .player k, w => if w = "say" then some [.answer] else match k with
    | 0 => none
    | k + 1 => if w = "toss" then some [.count k] else if w = "ask" then some [.name k] else none
  | .name k, w => if isName w = true then some [.given k] else none
  | .given k, w => if numOk w 0 65535 = true then some [.size k] else none
  | .count k, w => if numOk w 1 16 = true then some (List.replicate (numW w) (.player k)) else none
  | .size k, w => if numOk w 0 64 = true then some (match numW w with
    | 0 => []
    | m + 1 => [.part k (m + 1) []]) else none
  | .part k m seen, w => if numOk w 0 63 = true ∧ ((numW w : Nat) : Int) ∉ seen then some (.player k :: (if 1 < m then [.part k (m - 1) (seen ++ [((numW w : Nat) : Int)])] else [])) else none
  | .rules n, w => if w = "when" ∧ n < 20 then some [.value 8, .deed, .value 8, .rules (n + 1)] else none
  | .deed, w => if w = "ask" then some [.called, .value 8] else if w = "say" then some [.value 8] else none
  | .called, w => if isName w = true then some [] else none
  | .value k, w => if w ∈ ops then (if 1 < k then some [.value (k - 1), .value (k - 1)] else none) else if w ∈ knw ∨ numOk w 0 65535 = true then some [] else none
def fin : List Tok → Bool
  | [] => true
  | [.rules _] => true
  | _ => false
/-- the first word that does not fit, or the number of words -/
def goM : List Tok → Nat → List Str → Option Nat
  | st, i, [] => if fin st = true then none else some i
  | [], i, _ :: _ => some i
  | t :: r, i, w :: ws => match stP t w with
    | none => some i
    | some p => goM (p ++ r) (i + 1) ws
section
variable {w : Str} {k m n : Nat} {seen : List Int}
theorem sE_answer : stP .answer w = if w = "yes" ∨ w = "no" then some [] else none := rfl
theorem sE_p0 : stP (.player 0) w = if w = "say" then some [.answer] else none := rfl
theorem sE_pS : stP (.player (k + 1)) w = if w = "say" then some [.answer] else if w = "toss" then some [.count k] else if w = "ask" then some [.name k] else none := rfl
theorem sE_name : stP (.name k) w = if isName w = true then some [.given k] else none := rfl
theorem sE_given : stP (.given k) w = if numOk w 0 65535 = true then some [.size k] else none := rfl
theorem sE_count : stP (.count k) w = if numOk w 1 16 = true then some (List.replicate (numW w) (.player k)) else none := rfl
theorem sE_size : stP (.size k) w = if numOk w 0 64 = true then some (match numW w with
    | 0 => []
    | m + 1 => [.part k (m + 1) []]) else none := rfl
theorem sE_part : stP (.part k m seen) w = if numOk w 0 63 = true ∧ ((numW w : Nat) : Int) ∉ seen then some (.player k :: (if 1 < m then [.part k (m - 1) (seen ++ [((numW w : Nat) : Int)])] else [])) else none := rfl
theorem sE_rules : stP (.rules n) w = if w = "when" ∧ n < 20 then some [.value 8, .deed, .value 8, .rules (n + 1)] else none := rfl
theorem sE_deed : stP .deed w = if w = "ask" then some [.called, .value 8] else if w = "say" then some [.value 8] else none := rfl
theorem sE_called : stP .called w = if isName w = true then some [] else none := rfl
theorem sE_value : stP (.value k) w = if w ∈ ops then (if 1 < k then some [.value (k - 1), .value (k - 1)] else none) else if w ∈ knw ∨ numOk w 0 65535 = true then some [] else none := rfl
end
theorem stP_empty : ∀ t : Tok, stP t Str.empty = none
  | .answer => sE_answer.trans (if_neg (by decide +kernel))
  | .player 0 => sE_p0.trans (if_neg (by decide +kernel))
  | .player (k + 1) => sE_pS.trans ((if_neg (by decide +kernel)).trans ((if_neg (by decide +kernel)).trans (if_neg (by decide +kernel))))
  | .name _ => sE_name.trans (if_neg (by decide +kernel))
  | .given _ => sE_given.trans (if_neg (by decide +kernel))
  | .count _ => sE_count.trans (if_neg (by decide +kernel))
  | .size _ => sE_size.trans (if_neg (by decide +kernel))
  | .part _ _ _ => sE_part.trans (if_neg (fun z => absurd z.1 (by decide +kernel)))
  | .rules _ => sE_rules.trans (if_neg (fun z => absurd z.1 (by decide +kernel)))
  | .deed => sE_deed.trans ((if_neg (by decide +kernel)).trans (if_neg (by decide +kernel)))
  | .called => sE_called.trans (if_neg (by decide +kernel))
  | .value _ => sE_value.trans ((if_neg (by decide +kernel)).trans (if_neg (by decide +kernel)))
variable {ws : List Str}
theorem go_some {t : Tok} {r p : List Tok} {i : Nat} (h : stP t (wd ws i) = some p) : goM (t :: r) i (ws.drop i) = goM (p ++ r) (i + 1) (ws.drop (i + 1)) := by
  have ne : wd ws i ≠ Str.empty := fun z => by rw [z, stP_empty] at h; cases h
  rw [drop_wd ne]
  show (match stP t (wd ws i) with | none => some i | some p => goM (p ++ r) (i + 1) (ws.drop (i + 1))) = _
  rw [h]
theorem go_none {t : Tok} {r : List Tok} {i : Nat} (hf : fin (t :: r) = false) (h : stP t (wd ws i) = none) : goM (t :: r) i (ws.drop i) = some i := by
  cases e : ws.drop i with
  | nil =>
    show (if fin (t :: r) = true then none else some i) = _
    rw [hf]
    rfl
  | cons w l =>
    obtain ⟨h1, _, _⟩ := wd_of_drop e
    show (match stP t w with | none => some i | some p => goM (p ++ r) (i + 1) l) = _
    rw [← h1, h]
/-- a parser and what is open -/
def Runs (ws : List Str) (t : List Tok) (f : Nat → Except Nat (α × Nat)) : Prop := ∀ (i : Nat) (r : List Tok), (∀ j, f i = .error j → goM (t ++ r) i (ws.drop i) = some j) ∧ ∀ a j, f i = .ok (a, j) → goM (t ++ r) i (ws.drop i) = goM r j (ws.drop j)
theorem toss_run {f : Nat → Except Nat (Pl × Nat)} {k : Nat} (hf : Runs ws [.player k] f) : ∀ (m : Nat) (found : List Pl), Runs ws (List.replicate m (.player k)) (pToss f m found)
  | 0, found, i, r => ⟨fun j h => (by cases h), fun a j h => by cases h; rfl⟩
  | m + 1, found, i, r => by
    have ih := toss_run hf m
    have h1 := hf i (List.replicate m (.player k) ++ r)
    rw [List.replicate_succ, List.cons_append]
    unfold pToss
    cases e : f i with
    | error q => exact ⟨fun j h => by cases h; exact h1.1 _ e, fun a j h => by cases h⟩
    | ok y =>
      obtain ⟨p, q⟩ := y
      dsimp only
      have h2 := h1.2 _ _ e
      have h3 := ih (found ++ [p]) q r
      exact ⟨fun j h => (h2.trans (h3.1 j h)), fun a j h => h2.trans (h3.2 a j h)⟩
theorem nums_mem {w : Str} {found : List (Int × Pl)} (hb : ∀ q ∈ found, 0 ≤ q.1 ∧ q.1 ≤ 63) (h : numOk w 0 63 = true) : w ∈ found.map (fun q => numS q.1) ↔ ((numW w : Nat) : Int) ∈ found.map (·.1) := by
  unfold numOk at h
  rw [Bool.and_eq_true, decide_eq_true_iff] at h
  have ew := num_back' h.1
  constructor
  · intro z
    obtain ⟨q, hq, e⟩ := List.mem_map.mp z
    have := hb q hq
    refine List.mem_map.mpr ⟨q, hq, numS_inj ⟨this.1, by omega⟩ ⟨by omega, by omega⟩ ?_⟩
    rw [e, ew]
  · intro z
    obtain ⟨q, hq, e⟩ := List.mem_map.mp z
    exact List.mem_map.mpr ⟨q, hq, by rw [e, ew]⟩
theorem parts_run {f : Nat → Except Nat (Pl × Nat)} {k : Nat} (hf : Runs ws [.player k] f) : ∀ (m : Nat) (found : List (Int × Pl)), (∀ q ∈ found, 0 ≤ q.1 ∧ q.1 ≤ 63) → Runs ws [.part k (m + 1) (found.map (·.1))] (pPartsP f ws (m + 1) found) := by
  intro m
  induction m with
  | zero =>
    intro found hb i r
    show (∀ j, pPartsP f ws 1 found i = .error j → goM (.part k 1 (found.map (·.1)) :: r) i (ws.drop i) = some j) ∧ (∀ a j, pPartsP f ws 1 found i = .ok (a, j) → goM (.part k 1 (found.map (·.1)) :: r) i (ws.drop i) = goM r j (ws.drop j))
    by_cases c : numOk (wd ws i) 0 63 = true ∧ ((numW (wd ws i) : Nat) : Int) ∉ found.map (·.1)
    · have hs : stP (.part k 1 (found.map (·.1))) (wd ws i) = some [.player k] := sE_part.trans (if_pos c)
      have h1 := hf (i + 1) r
      rw [go_some hs]
      unfold pPartsP
      rw [if_neg (fun z => c.2 ((nums_mem hb c.1).mp z)), if_pos (show numB ws 0 63 i = true from c.1)]
      cases e : f (i + 1) with
      | error q => exact ⟨fun j h => by cases h; exact h1.1 _ e, fun a j h => by cases h⟩
      | ok y =>
        obtain ⟨p, q⟩ := y
        dsimp only
        exact ⟨fun j h => (by cases h), fun a j h => by cases h; exact h1.2 _ _ e⟩
    · have hs : stP (.part k 1 (found.map (·.1))) (wd ws i) = none := sE_part.trans (if_neg c)
      rw [go_none rfl hs]
      have e : pPartsP f ws 1 found i = .error i := by
        unfold pPartsP
        by_cases c1 : wd ws i ∈ found.map (fun q => numS q.1)
        · rw [if_pos c1]
        rw [if_neg c1, if_neg (show ¬ numB ws 0 63 i = true from fun z => c ⟨z, fun y => c1 ((nums_mem hb z).mpr y)⟩)]
      rw [e]
      exact ⟨fun j h => by cases h; rfl, fun a j h => by cases h⟩
  | succ m ih =>
    intro found hb i r
    show (∀ j, pPartsP f ws (m + 1 + 1) found i = .error j → goM (.part k (m + 1 + 1) (found.map (·.1)) :: r) i (ws.drop i) = some j) ∧ (∀ a j, pPartsP f ws (m + 1 + 1) found i = .ok (a, j) → goM (.part k (m + 1 + 1) (found.map (·.1)) :: r) i (ws.drop i) = goM r j (ws.drop j))
    by_cases c : numOk (wd ws i) 0 63 = true ∧ ((numW (wd ws i) : Nat) : Int) ∉ found.map (·.1)
    · have hs : stP (.part k (m + 1 + 1) (found.map (·.1))) (wd ws i) = some [.player k, .part k (m + 1) (found.map (·.1) ++ [((numW (wd ws i) : Nat) : Int)])] := by
        refine sE_part.trans ((if_pos c).trans ?_)
        rw [if_pos (by omega)]
        rfl
      have h1 := hf (i + 1) (.part k (m + 1) (found.map (·.1) ++ [((numW (wd ws i) : Nat) : Int)]) :: r)
      rw [go_some hs]
      have h0 := c.1
      unfold numOk at h0
      rw [Bool.and_eq_true, decide_eq_true_iff] at h0
      unfold pPartsP
      rw [if_neg (fun z => c.2 ((nums_mem hb c.1).mp z)), if_pos (show numB ws 0 63 i = true from c.1)]
      cases e : f (i + 1) with
      | error q => exact ⟨fun j h => by cases h; exact h1.1 _ e, fun a j h => by cases h⟩
      | ok y =>
        obtain ⟨p, q⟩ := y
        dsimp only
        have h2 := h1.2 _ _ e
        have h3 := ih (found ++ [(((numW (wd ws i) : Nat) : Int), p)]) (fun x hx => by
          rcases List.mem_append.mp hx with hx | hx
          · exact hb x hx
          · rw [List.mem_singleton.mp hx]; exact h0.2) q r
        rw [List.map_append] at h3
        exact ⟨fun j h => h2.trans (h3.1 j h), fun a j h => h2.trans (h3.2 a j h)⟩
    · have hs : stP (.part k (m + 1 + 1) (found.map (·.1))) (wd ws i) = none := sE_part.trans (if_neg c)
      rw [go_none rfl hs]
      have e : pPartsP f ws (m + 1 + 1) found i = .error i := by
        unfold pPartsP
        by_cases c1 : wd ws i ∈ found.map (fun q => numS q.1)
        · rw [if_pos c1]
        rw [if_neg c1, if_neg (show ¬ numB ws 0 63 i = true from fun z => c ⟨z, fun y => c1 ((nums_mem hb z).mpr y)⟩)]
      rw [e]
      exact ⟨fun j h => by cases h; rfl, fun a j h => by cases h⟩
/-- one word that is read alone -/
theorem one_run {α : Type} {t : Tok} {i : Nat} {r : List Tok} {x : Except Nat (α × Nat)} {a : α} (hf : fin (t :: r) = false) (h : (stP t (wd ws i) = some [] ∧ x = .ok (a, i + 1)) ∨ (stP t (wd ws i) = none ∧ x = .error i)) : (∀ j, x = .error j → goM (t :: r) i (ws.drop i) = some j) ∧ ∀ a j, x = .ok (a, j) → goM (t :: r) i (ws.drop i) = goM r j (ws.drop j) := by
  rcases h with ⟨h1, h2⟩ | ⟨h1, h2⟩
  · rw [h2, go_some h1]
    exact ⟨fun j h => (by cases h), fun a j h => by cases h; rfl⟩
  · rw [h2, go_none hf h1]
    exact ⟨fun j h => by cases h; rfl, fun a j h => by cases h⟩
theorem say_run : Runs ws [.answer] (pSay ws) := fun i r => by
  show (∀ j, pSay ws i = .error j → goM (.answer :: r) i (ws.drop i) = some j) ∧ ∀ a j, pSay ws i = .ok (a, j) → goM (.answer :: r) i (ws.drop i) = goM r j (ws.drop j)
  unfold pSay
  by_cases c1 : wd ws i = "yes"
  · exact one_run (a := .say true) rfl (.inl ⟨sE_answer.trans (if_pos (.inl c1)), by rw [if_pos c1]⟩)
  by_cases c2 : wd ws i = "no"
  · exact one_run (a := .say false) rfl (.inl ⟨sE_answer.trans (if_pos (.inr c2)), by rw [if_neg c1, if_pos c2]⟩)
  · exact one_run (a := .say false) rfl (.inr ⟨sE_answer.trans (if_neg (fun z => z.elim c1 c2)), by rw [if_neg c1, if_neg c2]⟩)
theorem pl_run : ∀ k : Nat, Runs ws [.player k] (pPl ws k) := by
  intro k
  induction k with
  | zero =>
    intro i r
    show (∀ j, pPl ws 0 i = .error j → goM (.player 0 :: r) i (ws.drop i) = some j) ∧ ∀ a j, pPl ws 0 i = .ok (a, j) → goM (.player 0 :: r) i (ws.drop i) = goM r j (ws.drop j)
    unfold pPl
    by_cases c : wd ws i = "say"
    · rw [if_pos c, go_some (show stP (.player 0) (wd ws i) = some [.answer] from sE_p0.trans (if_pos c))]
      exact say_run (i + 1) r
    · rw [if_neg c, go_none rfl (show stP (.player 0) (wd ws i) = none from sE_p0.trans (if_neg c))]
      exact ⟨fun j h => by cases h; rfl, fun a j h => by cases h⟩
  | succ k ih =>
    intro i r
    show (∀ j, pPl ws (k + 1) i = .error j → goM (.player (k + 1) :: r) i (ws.drop i) = some j) ∧ ∀ a j, pPl ws (k + 1) i = .ok (a, j) → goM (.player (k + 1) :: r) i (ws.drop i) = goM r j (ws.drop j)
    unfold pPl
    by_cases c : wd ws i = "say"
    · rw [if_pos c, go_some (show stP (.player (k + 1)) (wd ws i) = some [.answer] from sE_pS.trans (if_pos c))]
      exact say_run (i + 1) r
    rw [if_neg c]
    by_cases c2 : wd ws i = "toss"
    · rw [if_pos c2, go_some (show stP (.player (k + 1)) (wd ws i) = some [.count k] from sE_pS.trans ((if_neg c).trans (if_pos c2)))]
      unfold pTossP
      show (∀ j, _ → goM (.count k :: r) (i + 1) (ws.drop (i + 1)) = some j) ∧ ∀ a j, _ → goM (.count k :: r) (i + 1) (ws.drop (i + 1)) = goM r j (ws.drop j)
      by_cases c3 : numB ws 1 16 (i + 1) = true
      · rw [if_pos c3, go_some (show stP (.count k) (wd ws (i + 1)) = some (List.replicate (numW (wd ws (i + 1))) (.player k)) from sE_count.trans (if_pos c3))]
        have h1 := toss_run ih (numW (wd ws (i + 1))) [] (i + 1 + 1) r
        cases e : pToss (pPl ws k) (numW (wd ws (i + 1))) [] (i + 1 + 1) with
        | error q => exact ⟨fun j h => by cases h; exact h1.1 _ e, fun a j h => by cases h⟩
        | ok y =>
          obtain ⟨ps, q⟩ := y
          exact ⟨fun j h => (by cases h), fun a j h => by cases h; exact h1.2 _ _ e⟩
      · rw [if_neg c3, go_none rfl (show stP (.count k) (wd ws (i + 1)) = none from sE_count.trans (if_neg c3))]
        exact ⟨fun j h => by cases h; rfl, fun a j h => by cases h⟩
    rw [if_neg c2]
    by_cases c3 : wd ws i = "ask"
    · rw [if_pos c3, go_some (show stP (.player (k + 1)) (wd ws i) = some [.name k] from sE_pS.trans ((if_neg c).trans ((if_neg c2).trans (if_pos c3))))]
      unfold pAskP
      show (∀ j, _ → goM (.name k :: r) (i + 1) (ws.drop (i + 1)) = some j) ∧ ∀ a j, _ → goM (.name k :: r) (i + 1) (ws.drop (i + 1)) = goM r j (ws.drop j)
      by_cases d1 : isName (wd ws (i + 1)) = true
      rotate_left
      · rw [if_neg d1, go_none rfl (show stP (.name k) (wd ws (i + 1)) = none from sE_name.trans (if_neg d1))]
        exact ⟨fun j h => by cases h; rfl, fun a j h => by cases h⟩
      rw [if_pos d1, go_some (show stP (.name k) (wd ws (i + 1)) = some [.given k] from sE_name.trans (if_pos d1))]
      show (∀ j, _ → goM (.given k :: r) (i + 1 + 1) (ws.drop (i + 1 + 1)) = some j) ∧ ∀ a j, _ → goM (.given k :: r) (i + 1 + 1) (ws.drop (i + 1 + 1)) = goM r j (ws.drop j)
      by_cases d2 : numB ws 0 65535 (i + 1 + 1) = true
      rotate_left
      · rw [if_neg d2, go_none rfl (show stP (.given k) (wd ws (i + 1 + 1)) = none from sE_given.trans (if_neg d2))]
        exact ⟨fun j h => by cases h; rfl, fun a j h => by cases h⟩
      rw [if_pos d2, go_some (show stP (.given k) (wd ws (i + 1 + 1)) = some [.size k] from sE_given.trans (if_pos d2))]
      show (∀ j, _ → goM (.size k :: r) (i + 1 + 2) (ws.drop (i + 1 + 2)) = some j) ∧ ∀ a j, _ → goM (.size k :: r) (i + 1 + 2) (ws.drop (i + 1 + 2)) = goM r j (ws.drop j)
      by_cases d3 : numB ws 0 64 (i + 1 + 2) = true
      rotate_left
      · rw [if_neg d3, go_none rfl (show stP (.size k) (wd ws (i + 1 + 2)) = none from sE_size.trans (if_neg d3))]
        exact ⟨fun j h => by cases h; rfl, fun a j h => by cases h⟩
      rw [if_pos d3, go_some (show stP (.size k) (wd ws (i + 1 + 2)) = some (match numW (wd ws (i + 1 + 2)) with | 0 => [] | m + 1 => [.part k (m + 1) []]) from sE_size.trans (if_pos d3))]
      cases em : numW (wd ws (i + 1 + 2)) with
      | zero =>
        unfold pPartsP
        exact ⟨fun j h => (by cases h), fun a j h => by cases h; rfl⟩
      | succ m =>
        have h1 := parts_run ih m [] (fun q hq => by cases hq) (i + 1 + 3) r
        cases e : pPartsP (pPl ws k) ws (m + 1) [] (i + 1 + 3) with
        | error q => exact ⟨fun j h => by cases h; exact h1.1 _ e, fun a j h => by cases h⟩
        | ok y =>
          obtain ⟨ps, q⟩ := y
          exact ⟨fun j h => (by cases h), fun a j h => by cases h; exact h1.2 _ _ e⟩
    rw [if_neg c3, go_none rfl (show stP (.player (k + 1)) (wd ws i) = none from sE_pS.trans ((if_neg c).trans ((if_neg c2).trans (if_neg c3))))]
    exact ⟨fun j h => by cases h; rfl, fun a j h => by cases h⟩
theorem go_end (j : Nat) (h : j ≤ ws.length) : goM [] j (ws.drop j) = if j = ws.length then none else some j := by
  by_cases c : j = ws.length
  · rw [if_pos c, c, List.drop_length]
    rfl
  · rw [if_neg c]
    cases e : ws.drop j with
    | nil =>
      have := congrArg List.length e
      rw [List.length_drop] at this
      simp at this
      omega
    | cons x l => rfl
/-! ### tactics -/
theorem atom_run {k : Nat} : ∀ (i : Nat) (r : List Tok), wd ws i ∉ ops → (∀ j, tAtom ws i = .error j → goM (.value k :: r) i (ws.drop i) = some j) ∧ ∀ a j, tAtom ws i = .ok (a, j) → goM (.value k :: r) i (ws.drop i) = goM r j (ws.drop j) := fun i r c => by
  unfold tAtom
  by_cases c1 : isNum (wd ws i) = true
  · by_cases c2 : ((numW (wd ws i) : Nat) : Int) ≤ 65535
    · refine one_run (a := .num (numW (wd ws i) : Nat)) rfl (.inl ⟨sE_value.trans ((if_neg c).trans (if_pos (.inr ?_))), by rw [if_pos c1]⟩)
      unfold numOk
      rw [c1, decide_eq_true ⟨by omega, c2⟩]
      rfl
    · exact absurd (show ((numW (wd ws i) : Nat) : Int) ≤ 65535 by have := isNum_le c1; omega) c2
  by_cases c2 : wd ws i ∈ knw
  · exact one_run (a := .key (wd ws i)) rfl (.inl ⟨sE_value.trans ((if_neg c).trans (if_pos (.inl c2))), by rw [if_neg c1, if_pos c2]⟩)
  · refine one_run (a := .key (wd ws i)) rfl (.inr ⟨sE_value.trans ((if_neg c).trans (if_neg (fun z => z.elim c2 fun y => ?_))), by rw [if_neg c1, if_neg c2]⟩)
    unfold numOk at y
    rw [Bool.and_eq_true] at y
    exact c1 y.1
theorem tx_run : ∀ k : Nat, Runs ws [.value (k + 1)] (pTx ws k) := by
  intro k
  induction k with
  | zero =>
    intro i r
    show (∀ j, tAtom ws i = .error j → goM (.value 1 :: r) i (ws.drop i) = some j) ∧ ∀ a j, tAtom ws i = .ok (a, j) → goM (.value 1 :: r) i (ws.drop i) = goM r j (ws.drop j)
    by_cases c : wd ws i ∈ ops
    · rw [go_none rfl (show stP (.value 1) (wd ws i) = none from sE_value.trans ((if_pos c).trans (if_neg (by decide))))]
      have e : tAtom ws i = .error i := by
        unfold tAtom
        rw [if_neg (fun z => num_ops z c), if_neg (fun z => knw_ops _ z c)]
      rw [e]
      exact ⟨fun j h => by cases h; rfl, fun a j h => by cases h⟩
    · exact atom_run i r c
  | succ k ih =>
    intro i r
    show (∀ j, pTx ws (k + 1) i = .error j → goM (.value (k + 1 + 1) :: r) i (ws.drop i) = some j) ∧ ∀ a j, pTx ws (k + 1) i = .ok (a, j) → goM (.value (k + 1 + 1) :: r) i (ws.drop i) = goM r j (ws.drop j)
    unfold pTx
    by_cases c : wd ws i ∈ ops
    · rw [if_pos c, go_some (show stP (.value (k + 1 + 1)) (wd ws i) = some [.value (k + 1), .value (k + 1)] from sE_value.trans ((if_pos c).trans (if_pos (by omega))))]
      have h1 := ih (i + 1) (.value (k + 1) :: r)
      cases e : pTx ws k (i + 1) with
      | error q => exact ⟨fun j h => by cases h; exact h1.1 _ e, fun a j h => by cases h⟩
      | ok y =>
        obtain ⟨a, q⟩ := y
        dsimp only
        have h2 := h1.2 _ _ e
        have h3 := ih q r
        cases e2 : pTx ws k q with
        | error q2 => exact ⟨fun j h => by cases h; exact h2.trans (h3.1 _ e2), fun a j h => by cases h⟩
        | ok y2 =>
          obtain ⟨b, q2⟩ := y2
          exact ⟨fun j h => (by cases h), fun a j h => by cases h; exact h2.trans (h3.2 _ _ e2)⟩
    · rw [if_neg c]
      exact atom_run i r c
theorem rule_run (i : Nat) (r : List Tok) : (∀ j, pRule ws i = .error j → goM (.value 8 :: .deed :: .value 8 :: r) i (ws.drop i) = some j) ∧ ∀ a j, pRule ws i = .ok (a, j) → goM (.value 8 :: .deed :: .value 8 :: r) i (ws.drop i) = goM r j (ws.drop j) := by
  unfold pRule
  have h1 := tx_run (ws := ws) 7 i (.deed :: .value 8 :: r)
  cases e : pTx ws 7 i with
  | error q => exact ⟨fun j h => by cases h; exact h1.1 _ e, fun a j h => by cases h⟩
  | ok y =>
  obtain ⟨t, q⟩ := y
  dsimp only
  have h2 := h1.2 _ _ e
  have hd : (∀ j, pDeed ws q = .error j → goM (.deed :: .value 8 :: r) q (ws.drop q) = some j) ∧ ∀ a j, pDeed ws q = .ok (a, j) → goM (.deed :: .value 8 :: r) q (ws.drop q) = goM (.value 8 :: .value 8 :: r) j (ws.drop j) := by
    unfold pDeed
    by_cases c : wd ws q = "ask"
    · rw [if_pos c, go_some (show stP .deed (wd ws q) = some [.called, .value 8] from sE_deed.trans (if_pos c))]
      show (∀ j, _ → goM (.called :: .value 8 :: .value 8 :: r) (q + 1) (ws.drop (q + 1)) = some j) ∧ ∀ a j, _ → goM (.called :: .value 8 :: .value 8 :: r) (q + 1) (ws.drop (q + 1)) = goM (.value 8 :: .value 8 :: r) j (ws.drop j)
      by_cases c2 : isName (wd ws (q + 1)) = true
      · exact one_run (a := some (wd ws (q + 1))) rfl (.inl ⟨sE_called.trans (if_pos c2), by rw [if_pos c2]⟩)
      · exact one_run (a := none) rfl (.inr ⟨sE_called.trans (if_neg c2), by rw [if_neg c2]⟩)
    rw [if_neg c]
    by_cases c2 : wd ws q = "say"
    · rw [if_pos c2, go_some (show stP .deed (wd ws q) = some [.value 8] from sE_deed.trans ((if_neg c).trans (if_pos c2)))]
      exact ⟨fun j h => (by cases h), fun a j h => by cases h; rfl⟩
    · rw [if_neg c2, go_none rfl (show stP .deed (wd ws q) = none from sE_deed.trans ((if_neg c).trans (if_neg c2)))]
      exact ⟨fun j h => by cases h; rfl, fun a j h => by cases h⟩
  cases e2 : pDeed ws q with
  | error q2 => exact ⟨fun j h => by cases h; exact h2.trans (hd.1 _ e2), fun a j h => by cases h⟩
  | ok y2 =>
  obtain ⟨a, q2⟩ := y2
  dsimp only
  have h3 := h2.trans (hd.2 _ _ e2)
  have h4 := tx_run (ws := ws) 7 q2 (.value 8 :: r)
  cases e3 : pTx ws 7 q2 with
  | error q3 => exact ⟨fun j h => by cases h; exact h3.trans (h4.1 _ e3), fun a j h => by cases h⟩
  | ok y3 =>
  obtain ⟨e', q3⟩ := y3
  dsimp only
  have h5 := h3.trans (h4.2 _ _ e3)
  have h6 := tx_run (ws := ws) 7 q3 r
  cases e4 : pTx ws 7 q3 with
  | error q4 => exact ⟨fun j h => by cases h; exact h5.trans (h6.1 _ e4), fun a j h => by cases h⟩
  | ok y4 =>
  obtain ⟨k', q4⟩ := y4
  exact ⟨fun j h => (by cases h), fun a j h => by cases h; exact h5.trans (h6.2 _ _ e4)⟩
theorem tx_bnd : ∀ {k i j : Nat} {e : TX}, pTx ws k i = .ok (e, j) → j ≤ ws.length := by
  have ne : ∀ {i : Nat}, wd ws i ≠ Str.empty → i < ws.length := fun {i} h => Nat.lt_of_not_le fun z => h (by
    unfold wd
    rw [List.getD_eq_getElem?_getD, List.getElem?_eq_none z]
    rfl)
  have atom : ∀ {i j : Nat} {e : TX}, tAtom ws i = .ok (e, j) → j ≤ ws.length := by
    intro i j e h
    unfold tAtom at h
    split at h
    · rename_i c
      cases h
      exact ne (num_ne c)
    split at h
    · rename_i c
      cases h
      exact ne (fun z => by rw [z] at c; exact absurd c (by decide +kernel))
    · cases h
  intro k
  induction k with
  | zero => intro i j e h; exact atom h
  | succ k ih =>
    intro i j e h
    unfold pTx at h
    split at h
    · cases e1 : pTx ws k (i + 1) with
      | error q => rw [e1] at h; cases h
      | ok y =>
        obtain ⟨a, q⟩ := y
        rw [e1] at h
        dsimp only at h
        cases e2 : pTx ws k q with
        | error q2 => rw [e2] at h; cases h
        | ok y2 =>
          obtain ⟨b, q2⟩ := y2
          rw [e2] at h
          cases h
          exact ih e2
    · exact atom h
theorem rule_bnd {i j : Nat} {x : Ru} (h : pRule ws i = .ok (x, j)) : j ≤ ws.length := by
  unfold pRule at h
  cases e1 : pTx ws 7 i with
  | error q => rw [e1] at h; cases h
  | ok y =>
  obtain ⟨a, q⟩ := y
  rw [e1] at h
  dsimp only at h
  cases e2 : pDeed ws q with
  | error q => rw [e2] at h; cases h
  | ok y =>
  obtain ⟨b, q⟩ := y
  rw [e2] at h
  dsimp only at h
  cases e3 : pTx ws 7 q with
  | error q => rw [e3] at h; cases h
  | ok y =>
  obtain ⟨c, q⟩ := y
  rw [e3] at h
  dsimp only at h
  cases e4 : pTx ws 7 q with
  | error q => rw [e4] at h; cases h
  | ok y =>
  obtain ⟨d, q⟩ := y
  rw [e4] at h
  cases h
  exact tx_bnd e4
theorem rules_run : ∀ (m : Nat) (found : List Ru) (i : Nat), m ≤ 20 → i ≤ ws.length → goM [.rules (20 - m)] i (ws.drop i) = match pRules ws m found i with
    | .error j => some j
    | .ok (_, j) => if j = ws.length then none else some j := by
  have stop : ∀ (n i : Nat), i ≤ ws.length → stP (.rules n) (wd ws i) = none → goM [.rules n] i (ws.drop i) = if i = ws.length then none else some i := by
    intro n i hi h
    cases e : ws.drop i with
    | nil =>
      have := congrArg List.length e
      rw [List.length_drop, List.length_nil] at this
      rw [if_pos (by omega)]
      rfl
    | cons w l =>
      obtain ⟨h1, _, h3⟩ := wd_of_drop e
      rw [if_neg (by omega)]
      show (match stP (.rules n) w with | none => some i | some p => goM (p ++ []) (i + 1) l) = _
      rw [← h1, h]
  intro m
  induction m with
  | zero =>
    intro found i _ hi
    unfold pRules
    exact stop 20 i hi (sE_rules.trans (if_neg (fun z => absurd z.2 (by omega))))
  | succ m ih =>
    intro found i hm hi
    unfold pRules
    by_cases c : wd ws i = "when"
    · rw [if_pos c, go_some (show stP (.rules (20 - (m + 1))) (wd ws i) = some [.value 8, .deed, .value 8, .rules (20 - m)] from sE_rules.trans ((if_pos ⟨c, by omega⟩).trans (by rw [show 20 - (m + 1) + 1 = 20 - m by omega])))]
      have h1 := rule_run (ws := ws) (i + 1) [.rules (20 - m)]
      cases e : pRule ws (i + 1) with
      | error q => exact h1.1 _ e
      | ok y =>
        obtain ⟨x, q⟩ := y
        dsimp only
        exact (h1.2 _ _ e).trans (ih (found ++ [x]) q (by omega) (rule_bnd e))
    · rw [if_neg c]
      exact stop _ i hi (sE_rules.trans (if_neg (fun z => c z.1)))
/-! ### whole texts -/
theorem tac_go : goM [.rules 0] 0 ws = match pTac ws with
    | .error j => some j
    | .ok _ => none := by
  have h := rules_run (ws := ws) 20 [] 0 (Nat.le_refl _) (Nat.zero_le _)
  have h : goM [.rules 0] 0 ws = _ := h
  rw [h]
  unfold pTac
  cases pRules ws 20 [] 0 with
  | error j => rfl
  | ok y =>
    obtain ⟨rs, j⟩ := y
    dsimp only
    by_cases c : j = ws.length
    · rw [if_pos c, if_pos c]
    · rw [if_neg c, if_neg c]
theorem play_go : goM [.player 8] 0 ws = match pPlayer ws with
    | .error j => some j
    | .ok _ => none := by
  have h := pl_run (ws := ws) 8 0 []
  unfold pPlayer
  cases e : pPl ws 8 0 with
  | error j => exact h.1 _ e
  | ok y =>
    obtain ⟨p, j⟩ := y
    dsimp only
    have h2 : goM [.player 8] 0 ws = goM [] j (ws.drop j) := h.2 _ _ e
    obtain ⟨b1, b2⟩ := pl_back 8 _ _ _ e
    have f := (pl_fwd 8 p 0 _ b2 b1).1
    rw [e] at f
    have ej : j = 0 + (plWords p).length := (Prod.mk.inj (Except.ok.inj f)).2
    have ll := congrArg List.length b1
    rw [List.drop_zero, List.length_append] at ll
    rw [h2, go_end j (by omega)]
    by_cases c : j = ws.length
    · rw [if_pos c, if_pos c]
    · rw [if_neg c, if_neg c]
end Pz
set_option Elab.async false
set_option linter.all false
set_option maxRecDepth 100000
set_option maxHeartbeats 4000000
/-! tuple(d.values()). -/
namespace TupV
open PySem PySem.W PySem.Calls PyProof.Rows
section
variable {prog : Program} {w : World} {A : Around} {E : Value → Shared → Prop} {s : Shared} {T : String} {r d : Addr} {n : Nat} {P : Nat → Value → Prop} {OK : Heap → Prop}
theorem collect_kdl {Q : List Value → Shared → Prop} (K : KdlSrc prog w T r d n P OK) (hh : A.handled = none) (hok : OK s.heap) (hn : n ≤ sizeLine)
    (hQ : ∀ (h' : Heap) (tk : Nat) (acc : Array Value), (∀ b o, s.heap.get? b = some o → h'.get? b = some o) → ItemsOf P acc n → Q acc.toList { s with heap := h', toks := tk }) :
    wpAny (model prog w) A (collect (.ref r)) Q E s := by
  unfold collect
  refine wpAny_bind (wpAny_runValue (codeAny_builtin F.entry_proto_collect ?_))
  rw [Around.under_plainId F.plain_proto_collect _]
  show wpAny _ A.in1 (newList [] >>= fun l => again (.builtin "list.__iadd__" ⟨[l, .ref r], []⟩)) _ _ s
  refine wpAny_bind (wpAny_newObj_type ?_)
  refine wpAny_pure ⟨plainId_quiet F.plain_list_iadd _, codeAny_builtin F.entry_list_iadd ?_⟩
  rw [Around.under_plainId F.plain_list_iadd _]
  show wpAny _ A.in1 (Builtin.List.listExtendWith (.ref s.heap.objs.size) (.ref r) (.ref s.heap.objs.size)) _ _ _
  have hS : (s.heap.push { cls := .type "list", data := .seq ([] : List Value).toArray }).get? s.heap.objs.size = some { cls := .type "list", data := .seq #[] 0 } := Heap.get?_push_size _ rfl
  obtain ⟨t1, t2⟩ := K.there _ hok
  have hok1 : OK (s.heap.push { cls := .type "list", data := .seq ([] : List Value).toArray }) := K.keep _ _ hok fun b _ o q => Heap.get?_push_of_some _ q
  refine wpAny_mono (kdl_extend (A := A) (R := fun rr s' => rr = .ok (.ret (.ref s.heap.objs.size)) ∧ ∃ (h' : Heap) (tk : Nat) (acc : Array Value) (c' : Nat), s' = { s with heap := h', toks := tk } ∧
      (∀ b o, s.heap.get? b = some o → h'.get? b = some o) ∧ h'.get? s.heap.objs.size = some { cls := .type "list", dict := none, data := .seq acc c', slots := #[] } ∧ ItemsOf P acc n)
    (s := { s with heap := s.heap.push { cls := .type "list", data := .seq ([] : List Value).toArray } }) K hh hok1 s.heap.objs.size (Nat.ne_of_gt t1) (Nat.ne_of_gt t2) _ 0 hS
    (fun h' tk acc c' hk e hi => ⟨rfl, h', tk, acc, c', rfl, fun b o q => hk b o (Nat.ne_of_lt (Heap.lt_size q)) (Heap.get?_push_of_some _ q), e, hi⟩) hn) (fun fin s' h => ?_) (fun e s' h => ?_)
  · cases fin with
    | done f =>
      obtain ⟨e, h', tk, acc, c', rfl, hk, hS', hi⟩ := h
      cases e
      show wpAny _ A (load s.heap.objs.size >>= _) _ _ _
      exact wpAny_bind (wpAny_load hS' (wpAny_pure (hQ h' tk acc hk hi)))
    | again c' =>
      refine ⟨h.1, codeAny_mono h.2 fun rr s'' hr' => ?_⟩
      obtain ⟨rfl, h', tk, acc, c', rfl, hk, hS', hi⟩ := hr'
      show wpAny _ A (load s.heap.objs.size >>= _) _ _ _
      exact wpAny_bind (wpAny_load hS' (wpAny_pure (hQ h' tk acc hk hi)))
  · exact absurd h.1 (by simp)
theorem code_tuple_new_kdl {Q₁ : Value → Shared → Prop} (K : KdlSrc prog w T r d n P OK) (hh : A.handled = none) (hok : OK s.heap) (hn : n ≤ sizeLine) (hT : T = "dict_values")
    (h : ∀ (h' : Heap) (tk : Nat) (acc : Array Value), (∀ b o, s.heap.get? b = some o → h'.get? b = some o) → ItemsOf P acc n →
      Q₁ (.ref h'.objs.size) { s with heap := h'.push { cls := .type "tuple", data := .seq acc }, toks := tk }) :
    codeAny (model prog w) A (.call (.builtin "tuple.__new__") ⟨[.type "tuple", .ref r], []⟩) (wants Q₁ E) s := by
  subst hT
  refine codeAny_of_tree ?_
  show wpAny _ A.in1 (do checkBuiltinCall "tuple.__new__" ⟨[.type "tuple", .ref r], []⟩; again (.builtin "tuple.__new__" ⟨[.type "tuple", .ref r], []⟩)) _ _ s
  refine wpAny_bind (wpAny_of_eq (F.newCall_tuple_1 _) (wpAny_pure ⟨plainId_quiet F.plain_tuple_new _, codeAny_builtin F.entry_tuple_new ?_⟩))
  rw [Around.under_plainId F.plain_tuple_new _]
  have hsub := sub_tuple_self
  have hinit := init_tuple_lookup
  have hmh := madeHere_tuple
  have hTI : s.TypeIs (.ref r) "dict_values" := K.type s hok
  have hh1 : A.in1.handled = none := hh
  wp_walk using wpAny_typeOf hTI, collect_kdl (A := A.in1) K hh1 hok hn
  intro h' tk acc hk hacc
  show wpAny _ _ (Builtin.Tuple.tupleExact acc.toList.toArray >>= fun v => ret v) _ _ _
  unfold Builtin.Tuple.tupleExact
  refine wpAny_bind (wpAny_newObj_type ?_ (by show acc.toList.toArray.size ≤ sizeLine; simp only [Array.toArray_toList]; rw [hacc.1]; exact hn))
  refine wpAny_pure ?_
  have e : acc.toList.toArray = acc := by simp
  rw [e]
  exact h h' tk acc hk hacc
theorem call_tuple_kdl {Q : Value → Shared → Prop} (K : KdlSrc prog w "dict_values" r d n P OK) (hh : A.handled = none) (hok : OK s.heap) (hn : n ≤ sizeLine)
    (hQ : ∀ (h' : Heap) (tk : Nat) (acc : Array Value), (∀ b o, s.heap.get? b = some o → h'.get? b = some o) → ItemsOf P acc n →
      Q (.ref h'.objs.size) { s with heap := h'.push { cls := .type "tuple", data := .seq acc }, toks := tk }) :
    wpAny (model prog w) A (call (.type "tuple") [.ref r]) Q E s := by
  refine callType_codes (Q₁ := fun obj s₁ => s₁.TypeIs obj "tuple" ∧ Q obj s₁) F.called_tuple (F.typeCall_tuple_1 _) F.entry_object_init
    (code_tuple_new_kdl (A := A.in1) K hh hok hn rfl fun h' tk acc hk hacc => ⟨⟨_, Heap.get?_push_size _ rfl, rfl⟩, hQ h' tk acc hk hacc⟩) fun obj s₁ h₁ => ?_
  exact ⟨h₁.1, F.args_object_init_2 obj _, object_init_meets F.called_tuple.init.lookup F.called_tuple.made (by decide) prog w A.in1 _ s₁ ⟨h₁.1, rfl, h₁.2⟩⟩
end
end TupV
namespace TupV
open PySem PySem.W PySem.Calls PyProof.Rows L2
theorem same_new_ {H : Hp} {p : Addr} (h : H p = none) (o : HO) : Same H (upd H p o) := fun b u q => by rw [upd_ne (ne_of_none q h)]; exact q
theorem vals_of {kvs : List (Key × V)} {vs : List (Key × Value)} (r : KV kvs vs) {acc : List Value} (hl : acc.length = vs.length) (h : ∀ (i : Nat) (v : Value), acc[i]? = some v → ∃ k : Key, vs[i]? = some (k, v)) : Vals (kvs.map (·.2)) acc := by
  have hk := KV.length r
  have e : acc = vs.map (·.2) := by
    apply List.ext_getElem?
    intro i
    rw [List.getElem?_map]
    cases ei : acc[i]? with
    | some v =>
      obtain ⟨k, hk⟩ := h i v ei
      rw [hk]; rfl
    | none =>
      rw [List.getElem?_eq_none (by have := List.getElem?_eq_none_iff.mp ei; omega)]
      rfl
  rw [e]
  clear e h hl hk
  unfold KV at r
  induction r with
  | nil => exact .nil
  | cons h t ih => exact .cons h.2 ih
section
variable {X : Cx} {o : Expr} {p pos apos mpos : Pos} {td : TE}
def tTupVals (td : TE) : TE := fun σ H Q => td σ H fun x H1 => ∃ a kvs, x = V.ref a ∧ H1 a = some (.dK kvs) ∧ ∀ q H', Same H1 H' → H1 q = none → H' q = some (.tup (kvs.map (·.2))) → Q (.ref q) H'
theorem pe_tupVals (hc : X.calm = true) (hg : Gl X "tuple") (hm : X.mg "tuple" = none) (hd : PE X o td) (hbase : attributeBase o "values" X.env (eval o X.env) = eval o X.env := by rfl) (hline : (apos.endLine == mpos.line) = true := by rfl)
    (hse : starEach [Expr.Call (.Attribute o "values" apos) [] [] mpos] X.env = (false, eval (Expr.Call (.Attribute o "values" apos) [] [] mpos) X.env) :: starEach [] X.env := by rfl) :
    PE X (.Call (.Name "tuple" p) [.Call (.Attribute o "values" apos) [] [] mpos] [] pos) (tTupVals td) := by
  refine ⟨fun pins s σ H Q I h => ?_⟩
  refine Call_ (ld_blt I hg hm boot_tuple (PyProof.Rows.callWith_type1 (args_cons (wpAny_Call_method0_late hbase hline (thn (hd.run pins s σ H _ I h) fun v s1 ⟨x, H1, I1, r1, a, kvs, ex, ha, q⟩ => ?_)) hse) hse))
  subst ex
  obtain rfl : v = Value.ref a := r1
  obtain ⟨hz, hsys, vs, rel, dof⟩ := dk_of I1.hok ha
  obtain ⟨ep, dat⟩ := dof.dictAt
  have dat' := dat
  obtain ⟨ob, es, ho, ex, hdat, hko, hpr, hnd⟩ := dat'
  refine ⟨"dict", "dict.values", F.plainAttrs_dict, F.slot_dict_values, F.type_dict_values, ⟨ob, ho, ex.1⟩, fun b e => ?_, Calls.callWith_builtin rfl (PySem.evalArgs_none ?_)⟩
  · cases e
    exact ⟨ob, ho, ex.2.1⟩
  refine call_meetsIn F.slot_dict_values ⟨ob, ho, ex.1⟩ F.entry_dict_values (F.args_dict_values_1 _) (meets_dict_values (mixKind X.prog X.w) a hsys) ⟨⟨vs, dof⟩, ?_⟩
  have k1 : ∀ b u, s1.heap.get? b = some u → (s1.heap.push { cls := .type "dict_values", data := .fields #[.ref a] }).get? b = some u := fun b u e => Heap.get?_push_of_some _ e
  have dat1 : (s1.heap.push { cls := .type "dict_values", data := .fields #[.ref a] }).DictAt (mixKind X.prog X.w) a vs ep := dat.keep k1
  have hlen : vs.length = kvs.length := (KV.length rel).symm
  refine args_nil ?_
  refine call_tuple_kdl (s := { s1 with heap := s1.heap.push { cls := .type "dict_values", data := .fields #[.ref a] } }) (kdl_values (knd := mixKind X.prog X.w) (r := s1.heap.objs.size) (d := a) (kvs := vs) (ep := ep)) (I.ok.hd hc) ⟨⟨_, Heap.get?_push_size _ rfl, rfl, rfl⟩, dat1⟩ (by rw [hlen]; exact hz) fun h' tk acc hk hacc => ?_
  have I2 : Inv X pins σ H1 { s1 with heap := h', toks := tk } := I1.kept (t' := tk) fun b u e => hk b u (k1 b u e)
  have rv : Vals (kvs.map (·.2)) acc.toList := vals_of rel (by rw [Array.length_toList, hacc.1]) fun i v e => hacc.2 i v (by rw [← Array.getElem?_toList]; exact e)
  have I3 : Inv X pins σ (upd H1 h'.objs.size (.tup (kvs.map (·.2)))) { s1 with heap := h'.push { cls := .type "tuple", data := .seq acc }, toks := tk } :=
    I2.laid (t' := tk) (fun b o e => Heap.get?_push_of_some _ e) (Nat.le_refl _) (show ObjOk X.prog X.w _ _ _ (.tup (kvs.map (·.2))) from ⟨by rw [List.length_map]; exact hz, acc.toList, rv, by have := IsTup.new h' acc; simpa using this⟩)
  exact ⟨.ref h'.objs.size, _, I3, rfl, q _ _ (same_new_ (I2.hok.fresh (Nat.le_refl _)) _) (I2.hok.fresh (Nat.le_refl _)) upd_same⟩
end
end TupV
set_option Elab.async false
set_option linter.all false
set_option maxRecDepth 100000
set_option maxHeartbeats 4000000
/-! A tuple times a number, also 0 and 1. -/
namespace Mine
open PySem PySem.Spec PyProof.Rows L2
theorem tuple_mul_zero (l : Addr) (items : Array Value) (n : Nat) (dd : Option Addr) (sl : Array (Option Value)) (u : Tok) (c1 : (items.isEmpty || (0 : Int) == 1) = false) :
    Meets (Builtin.«tuple.__mul__» ⟨[.ref l, .int 0 u], []⟩) (fun _ R s => s.heap.get? l = some { cls := .type "tuple", dict := dd, data := .seq items n, slots := sl } ∧
      R (.ok (.ret (Value.ref s.heap.objs.size))) { s with heap := s.heap.push { cls := Value.type "tuple", data := Data.seq #[] }, toks := s.toks }) :=
  .of_wp fun prog w A R s h => by
    obtain ⟨hp, g, d, tk, os⟩ := s
    obtain ⟨hl, h⟩ := h
    have f1 := AutoSeq1.idx_int
    wp_walk using wpAny_loadPart' hl
    repeat (first
      | (refine wpAny_ite_false (by decide) ?_; wp_walk using wpAny_loadPart' hl)
      | (refine wpAny_ite_false (decide_eq_false (by rw [c1]; exact Bool.false_ne_true)) ?_; wp_walk using wpAny_loadPart' hl))
    exact ⟨_, rfl, h⟩
theorem tuple_mul_one (l : Addr) (items : Array Value) (n : Nat) (dd : Option Addr) (sl : Array (Option Value)) (u : Tok) :
    Meets (Builtin.«tuple.__mul__» ⟨[.ref l, .int 1 u], []⟩) (fun _ R s => s.heap.get? l = some { cls := .type "tuple", dict := dd, data := .seq items n, slots := sl } ∧
      R (.ok (.ret (Value.ref l))) s) :=
  .of_wp fun prog w A R s h => by
    obtain ⟨hp, g, d, tk, os⟩ := s
    obtain ⟨hl, h⟩ := h
    have f1 := AutoSeq1.idx_int
    have c1 : (items.isEmpty || (1 : Int) == 1) = true := by rw [Bool.or_eq_true]; exact .inr rfl
    wp_walk using wpAny_loadPart' hl
    repeat (first
      | (refine wpAny_ite_false (by decide) ?_; wp_walk using wpAny_loadPart' hl)
      | (refine wpAny_ite_true (decide_eq_true c1) ?_; wp_walk using wpAny_loadPart' hl))
    exact ⟨_, rfl, h⟩
noncomputable def rRepA (K : PySem.W.Frag) : R2 := fun x y H Q => ∃ l k xs, x = .ref l ∧ y = .int k ∧ SqT K H l xs ∧ xs ≠ [] ∧ 0 ≤ k ∧ k ≤ 1000 ∧ xs.length ≤ 1000 ∧ ∀ p H', Same H H' → SqT K H' p (List.replicate k.toNat xs).flatten → Q (.ref p) H'
theorem op_repA {X : Cx} : OpR X (binaryOp .Mult) (rRepA X.K) := by
  intro pins s σ H x y v u Q I rx ry h
  obtain ⟨l, k, xs, rfl, rfl, hT, hne, h0, h2, hz, q⟩ := h
  by_cases h1 : 2 ≤ k
  · refine op_repT pins s σ H _ _ v u Q I rx ry ⟨l, k, xs, rfl, rfl, hT, hne, h1, h2, hz, fun p hp => q p _ (Gm.same_new hp _) (SqT.of upd_same)⟩
  cases rx
  obtain ⟨t, rfl⟩ := ry
  obtain ⟨its, r, ⟨⟨cls, dd, data, sl⟩, ho, hc, n, hd⟩, hs⟩ := I.tuple hT
  simp only at hc hd
  subst hc hd
  have hn : its ≠ [] := fun e => hne (by
    subst e
    cases r
    rfl)
  have c1 : (its.toArray.isEmpty || (0 : Int) == 1) = false := by
    cases its with
    | nil => exact absurd rfl hn
    | cons a b => rfl
  have k01 : k = 0 ∨ k = 1 := by omega
  rcases k01 with rfl | rfl
  · refine wpAny_binaryOp_repeat_ref (T := "tuple") (U := "int") (by decide) ⟨_, ho, rfl⟩ (fun s' => typeIs_int s' 0 t) noFill_tuple_mul F.fills_int_mul F.slot_int_rmul repeat_tuple F.slot_int_index.lookup
      (call_meets F.slot_int_rmul (typeIs_int s 0 t) F.entry_int_rmul (F.args_int_rmul_2 _ _) (int_rmul_tuple 0 t l its.toArray n dd sl)
        ⟨ho, rfl, ⟨_, ho, rfl⟩, call_meets F.slot_tuple_mul ⟨_, ho, rfl⟩ F.entry_tuple_mul (F.args_tuple_mul_2 _ _) (tuple_mul_zero l its.toArray n dd sl t c1) ⟨ho, ?_⟩⟩)
    have fr := I.hok.fresh (Nat.le_refl _)
    refine ⟨.ref s.heap.objs.size, _, I.laid (t' := s.toks) (o := .tup []) (fun b ob q => Heap.get?_push_of_some _ q) (Nat.le_refl _) ?_, rfl, q _ _ (Gm.same_new fr _) (SqT.of upd_same)⟩
    exact ⟨by decide, [], .nil, IsTup.new _ _⟩
  · refine wpAny_binaryOp_repeat_ref (T := "tuple") (U := "int") (by decide) ⟨_, ho, rfl⟩ (fun s' => typeIs_int s' 1 t) noFill_tuple_mul F.fills_int_mul F.slot_int_rmul repeat_tuple F.slot_int_index.lookup
      (call_meets F.slot_int_rmul (typeIs_int s 1 t) F.entry_int_rmul (F.args_int_rmul_2 _ _) (int_rmul_tuple 1 t l its.toArray n dd sl)
        ⟨ho, rfl, ⟨_, ho, rfl⟩, call_meets F.slot_tuple_mul ⟨_, ho, rfl⟩ F.entry_tuple_mul (F.args_tuple_mul_2 _ _) (tuple_mul_one l its.toArray n dd sl t) ⟨ho, ?_⟩⟩)
    refine ⟨.ref l, H, I, rfl, q _ _ (Same.refl _) ?_⟩
    show SqT X.K H l (xs ++ [])
    rw [List.append_nil]
    exact hT
end Mine
set_option Elab.async false
set_option linter.all false
set_option maxRecDepth 100000
set_option maxHeartbeats 2000000
/-! t + u of two tuples, whatever is empty. -/
namespace CatB
open PySem L2 Gm
def rCatB (K : PySem.W.Frag) : R2 := fun x y H Q => ∃ a b xs ys, x = .ref a ∧ y = .ref b ∧ SqT K H a xs ∧ SqT K H b ys ∧ xs.length + ys.length ≤ sizeLine ∧ ∀ p H', Same H H' → SqT K H' p (xs ++ ys) → Q (.ref p) H'
theorem op_catB {X : Cx} (K : PySem.W.Frag) (h : X.K = K) : OpR X (binaryOp .Add) (rCatB K) := by
  subst h
  intro pins s σ H x y v u Q I rx ry h
  obtain ⟨a, b, xs, ys, rfl, rfl, ha, hb, hz, q⟩ := h
  refine op_catA pins s σ H _ _ v u Q I rx ry ⟨a, b, xs, ys, rfl, rfl, ha, hb, hz, fun e => ?_, fun _ e => ?_, fun _ _ p hp => q p _ (same_new hp _) (SqT.of upd_same)⟩
  · refine q b H (Same.refl _) ?_
    rw [e]
    exact hb
  · refine q a H (Same.refl _) ?_
    rw [e, List.append_nil]
    exact ha
end CatB
set_option Elab.async false
set_option linter.all false
set_option maxRecDepth 100000
set_option maxHeartbeats 2000000
/-! isinstance of a held error that has fields. -/
namespace IsD
open PySem L2 PySem.Spec PyProof.Rows
def rIsE2 (K : PySem.W.Frag) (D a : Addr) (cls : Value) (d : Option Addr) : List V → Hp → VK → Prop := fun xs H Q => ∃ (c : V) (cv : Value) (b : Bool) (dd : Addr) (fs : List (Str × V)), xs = [.ref a, c] ∧ cls = .ref D ∧ d = some dd ∧ H dd = some (.xd fs) ∧ (∀ u, RelV c u → u = cv) ∧ PySem.W.kitOne K (.ref D) cv = some b ∧ Q (.bl b) H
def rIsET2 (K : PySem.W.Frag) (D a : Addr) (cls : Value) (d : Option Addr) : List V → Hp → VK → Prop := fun xs H Q => ∃ (tp : Addr) (cs : List V) (us : List Value) (b : Bool) (dd : Addr) (fs : List (Str × V)), xs = [.ref a, .ref tp] ∧ cls = .ref D ∧ d = some dd ∧ H dd = some (.xd fs) ∧ H tp = some (.tup cs) ∧ Paired ClsV cs us ∧ PySem.W.kitAny K (.ref D) us = some b ∧ Q (.bl b) H
section
variable {X : Cx} {a D : Addr} {oe : Obj} {pn : List (Addr × Obj)} {cls : Value} {d : Option Addr}
theorem kit_of {K : PySem.W.Frag} {x : Addr} {ox : Obj} {od : Option Obj} (C : ExcC K D) : PySem.W.KitX K (.ref x) (.ref D) (fun h => PySem.W.InstAt h x ox D od) := by
  have hcl : (PySem.W.clsIn K D).isSome = true := by
    obtain ⟨cd, hc, _⟩ := PySem.W.any_some C.hd
    rw [hc]; rfl
  exact PySem.W.kitx_exc hcl C.hg C.hk C.hs C.ha C.hn C.ht C.hm
theorem call_isE2 (C : ExcC X.K D) (hz : Zc cls d oe) (hf : ∃ vs, oe.data = .fields vs) : CallR (X.suite a ((a, oe) :: pn)) (.builtin "isinstance") (rIsE2 X.K D a cls d) := by
  intro pins s σ H xs us Q I r h
  obtain ⟨c, cv, b, dd, fs, rfl, rfl, rfl, ea, hcv, e, q⟩ := h
  cases r with
  | cons rx rr =>
    cases rr with
    | cons rt rr =>
      cases rr
      cases rx
      have ec := hcv _ rt
      subst ec
      obtain ⟨hget, _⟩ := I.pin (a, oe) (List.mem_append.mpr (.inl List.mem_cons_self))
      obtain ⟨vs, hd⟩ := hf
      have hx : ObjOk X.prog X.w H s.heap dd (.xd fs) := I.hok dd _ ea
      obtain ⟨mA, hns, hr⟩ := hx
      obtain ⟨od, ho, hl⟩ := lookIn_ns hns
      have J : PySem.W.InstAt s.heap a oe D (some od) := ⟨hget, hz.1, by unfold PySem.W.notCls; rw [hd] <;> rfl, by rw [hz.2]; exact ho⟩
      exact PySem.W.kia_one (kit_of C) I.kIn J e (fun z => nomatch z) fun tk => ⟨.bl b, H, I.kept (t' := tk) fun _ _ z => z, rfl, q⟩
theorem call_isET2 (C : ExcC X.K D) (hz : Zc cls d oe) (hf : ∃ vs, oe.data = .fields vs) : CallR (X.suite a ((a, oe) :: pn)) (.builtin "isinstance") (rIsET2 X.K D a cls d) := by
  intro pins s σ H xs us Q I r h
  obtain ⟨tp, cs, ws, b, dd, fs, rfl, rfl, rfl, ea, hT, k, e, q⟩ := h
  obtain ⟨u1, u2, rfl, r1, r2⟩ := vals2 r
  cases (show u1 = Value.ref a from r1)
  cases (show u2 = Value.ref tp from r2)
  obtain ⟨hget, _⟩ := I.pin (a, oe) (List.mem_append.mpr (.inl List.mem_cons_self))
  obtain ⟨vs, hd⟩ := hf
  have hx : ObjOk X.prog X.w H s.heap dd (.xd fs) := I.hok dd _ ea
  obtain ⟨mA, hns, hr⟩ := hx
  obtain ⟨od, ho, hl⟩ := lookIn_ns hns
  have J : PySem.W.InstAt s.heap a oe D (some od) := ⟨hget, hz.1, by unfold PySem.W.notCls; rw [hd] <;> rfl, by rw [hz.2]; exact ho⟩
  obtain ⟨_, its, rv, o, h1, h2, n, h3⟩ := (show ObjOk X.prog X.w H s.heap tp (.tup cs) from I.hok tp _ hT)
  have e3 := ClsV.all k rv
  subst e3
  obtain ⟨oc, od2, dt, sl⟩ := o
  simp only at h2 h3
  subst h2 h3
  exact PySem.W.kia_tup (kit_of C) I.kIn J h1 e (fun z => nomatch z) fun tk => ⟨.bl b, H, I.kept (t' := tk) fun _ _ z => z, rfl, q⟩
end
end IsD
set_option Elab.async false
set_option linter.all false
set_option maxRecDepth 100000
set_option maxHeartbeats 4000000
namespace Toy
open PySem L2 Mine NdefX Gm Pz
def top (i : Nat) : Stmt := PySem.Challenge.pw_tellsnone_k78_whole_texts_of_players_and.main.body.getD i (.Pass ⟨0, 0, 0, 0⟩)
abbrev s_BadText_init : Stmt := inClass (top 2) 0
def oke_BadText : V → Prop := fun y => ∃ i : Int, y = .int i ∧ i.natAbs < 2 ^ 64
theorem err_BadText {P : Program} {w : World} {K : PySem.W.Frag} {mg : Str → Option Value} {base : Heap} {k : Nat} {C f : Addr} {fd : FuncData} {file : Str} (F : ErrF K mg C f fd "BadText.__init__" s_BadText_init file "at") (hP : PrF P file) :
    FnOk P w K mg base CX0 (k + 1) f fd [("self" : Str), "at"] (spErr C "at" oke_BadText) :=
  err_ok F hP.1 hP.2 rfl (nscope_by (by decide +kernel)) rfl rfl rfl (fun _ => rfl) (fun _ => rfl) (fun _ => rfl) (fun _ => rfl) (by decide) (by decide) (fun X hN hs => pe_joined (.cons pe_str (.cons (pe_fmt (pe_var (i := 1) (by rw [hN]; rfl) (by rw [hs]; exact .inl rfl))) (.cons pe_str .nil))))
    (by
      rintro σ H y Q e ⟨i, rfl, hi⟩ q
      exact js_I3 (by decide +kernel) (by decide +kernel) e hi q)
abbrev s_is_name : Stmt := top 18
theorem sc_is_name : FnScope ["word", "sign"] ["word"] (defScope s_is_name) := ⟨rfl, rfl, rfl, by decide +kernel, rfl, by decide +kernel, by decide +kernel⟩
abbrev s_is_number : Stmt := top 19
theorem sc_is_number : FnScope ["word", "sign"] ["word"] (defScope s_is_number) := ⟨rfl, rfl, rfl, by decide +kernel, rfl, by decide +kernel, by decide +kernel⟩
abbrev s_Words_init : Stmt := inClass (top 20) 0
theorem sc_Words_init : FnScope ["self", "text"] ["self", "text"] (defScope s_Words_init) := ⟨rfl, rfl, rfl, by decide +kernel, rfl, by decide +kernel, by decide +kernel⟩
abbrev s_Words_ended : Stmt := inClass (top 20) 1
theorem sc_Words_ended : FnScope ["self"] ["self"] (defScope s_Words_ended) := ⟨rfl, rfl, rfl, by decide +kernel, rfl, by decide +kernel, by decide +kernel⟩
abbrev s_Words_ahead : Stmt := inClass (top 20) 2
theorem sc_Words_ahead : FnScope ["self"] ["self"] (defScope s_Words_ahead) := ⟨rfl, rfl, rfl, by decide +kernel, rfl, by decide +kernel, by decide +kernel⟩
abbrev s_Words_refuse : Stmt := inClass (top 20) 3
theorem sc_Words_refuse : FnScope ["self"] ["self"] (defScope s_Words_refuse) := ⟨rfl, rfl, rfl, by decide +kernel, rfl, by decide +kernel, by decide +kernel⟩
abbrev s_Words_take : Stmt := inClass (top 20) 4
theorem sc_Words_take : FnScope ["self", "word"] ["self"] (defScope s_Words_take) := ⟨rfl, rfl, rfl, by decide +kernel, rfl, by decide +kernel, by decide +kernel⟩
abbrev s_Words_one_of : Stmt := inClass (top 20) 5
theorem sc_Words_one_of : FnScope ["self", "choices"] ["self", "choices"] (defScope s_Words_one_of) := ⟨rfl, rfl, rfl, by decide +kernel, rfl, by decide +kernel, by decide +kernel⟩
abbrev s_Words_name : Stmt := inClass (top 20) 6
theorem sc_Words_name : FnScope ["self", "taken"] ["self", "taken"] (defScope s_Words_name) := ⟨rfl, rfl, rfl, by decide +kernel, rfl, by decide +kernel, by decide +kernel⟩
abbrev s_Words_number : Stmt := inClass (top 20) 7
theorem sc_Words_number : FnScope ["self", "least", "greatest"] ["self", "least", "greatest"] (defScope s_Words_number) := ⟨rfl, rfl, rfl, by decide +kernel, rfl, by decide +kernel, by decide +kernel⟩
abbrev s_Words_finish : Stmt := inClass (top 20) 8
theorem sc_Words_finish : FnScope ["self"] ["self"] (defScope s_Words_finish) := ⟨rfl, rfl, rfl, by decide +kernel, rfl, by decide +kernel, by decide +kernel⟩
abbrev s_read_player : Stmt := top 23
theorem sc_read_player : FnScope ["text", "words", "player"] ["text"] (defScope s_read_player) := ⟨rfl, rfl, rfl, by decide +kernel, rfl, by decide +kernel, by decide +kernel⟩
abbrev s_read_below : Stmt := top 24
theorem sc_read_below : FnScope ["words", "left", "word", "many", "_", "procedure", "number"] ["words", "left"] (defScope s_read_below) := ⟨rfl, rfl, rfl, by decide +kernel, rfl, by decide +kernel, by decide +kernel⟩
abbrev s_read_parts : Stmt := top 25
theorem sc_read_parts : FnScope ["words", "left", "many", "found", "_", "word", "answer"] ["words", "left"] (defScope s_read_parts) := ⟨rfl, rfl, rfl, by decide +kernel, rfl, by decide +kernel, by decide +kernel⟩
abbrev s_player_text : Stmt := top 26
theorem sc_player_text : FnScope ["player"] ["player"] (defScope s_player_text) := ⟨rfl, rfl, rfl, by decide +kernel, rfl, by decide +kernel, by decide +kernel⟩
abbrev s_player_words : Stmt := top 27
theorem sc_player_words : FnScope ["player", "found", "part", "_", "procedure", "number", "parts", "answer"] ["player"] (defScope s_player_words) := ⟨rfl, rfl, rfl, by decide +kernel, rfl, by decide +kernel, by decide +kernel⟩
abbrev s_read_expression : Stmt := top 32
theorem sc_read_expression : FnScope ["words", "meanings", "tables", "depth", "word", "left", "table"] ["words", "meanings", "tables", "depth"] (defScope s_read_expression) := ⟨rfl, rfl, rfl, by decide +kernel, rfl, by decide +kernel, by decide +kernel⟩
abbrev s_expression_words : Stmt := top 33
theorem sc_expression_words : FnScope ["expression", "head"] ["expression"] (defScope s_expression_words) := ⟨rfl, rfl, rfl, by decide +kernel, rfl, by decide +kernel, by decide +kernel⟩
abbrev s_Tactic_init : Stmt := inClass (top 37) 0
theorem sc_Tactic_init : FnScope ["self", "rules"] ["self", "rules"] (defScope s_Tactic_init) := ⟨rfl, rfl, rfl, by decide +kernel, rfl, by decide +kernel, by decide +kernel⟩
abbrev s_Tactic_eq : Stmt := inClass (top 37) 1
theorem sc_Tactic_eq : FnScope ["self", "other"] ["self", "other"] (defScope s_Tactic_eq) := ⟨rfl, rfl, rfl, by decide +kernel, rfl, by decide +kernel, by decide +kernel⟩
abbrev s_read_tactic : Stmt := top 38
theorem sc_read_tactic : FnScope ["text", "words", "rules"] ["text"] (defScope s_read_tactic) := ⟨rfl, rfl, rfl, by decide +kernel, rfl, by decide +kernel, by decide +kernel⟩
abbrev s_read_rule : Stmt := top 39
theorem sc_read_rule : FnScope ["words", "test", "word", "named", "deed"] ["words"] (defScope s_read_rule) := ⟨rfl, rfl, rfl, by decide +kernel, rfl, by decide +kernel, by decide +kernel⟩
abbrev s_read_part : Stmt := top 40
theorem sc_read_part : FnScope ["words", "word"] ["words"] (defScope s_read_part) := ⟨rfl, rfl, rfl, by decide +kernel, rfl, by decide +kernel, by decide +kernel⟩
abbrev s_tactic_text : Stmt := top 41
theorem sc_tactic_text : FnScope ["tactic", "found", "test", "deed", "keep"] ["tactic"] (defScope s_tactic_text) := ⟨rfl, rfl, rfl, by decide +kernel, rfl, by decide +kernel, by decide +kernel⟩
abbrev s_law_pool : Stmt := top 43
theorem sc_law_pool : FnScope ["script", "budget"] ["script", "budget"] (defScope s_law_pool) := ⟨rfl, rfl, rfl, by decide +kernel, rfl, by decide +kernel, by decide +kernel⟩
abbrev s_law_draw : Stmt := top 44
theorem sc_law_draw : FnScope ["pool", "size", "cell", "value"] ["pool", "size"] (defScope s_law_draw) := ⟨rfl, rfl, rfl, by decide +kernel, rfl, by decide +kernel, by decide +kernel⟩
abbrev s_law_same : Stmt := top 45
theorem sc_law_same : FnScope ["actual", "due", "k"] ["actual", "due"] (defScope s_law_same) := ⟨rfl, rfl, rfl, by decide +kernel, rfl, by decide +kernel, by decide +kernel⟩
abbrev s_law_is_number : Stmt := top 46
theorem sc_law_is_number : FnScope ["word", "least", "most", "char"] ["word", "least", "most"] (defScope s_law_is_number) := ⟨rfl, rfl, rfl, by decide +kernel, rfl, by decide +kernel, by decide +kernel⟩
abbrev s_law_is_name : Stmt := top 47
theorem sc_law_is_name : FnScope ["word", "keys", "char"] ["word"] (defScope s_law_is_name) := ⟨rfl, rfl, rfl, by decide +kernel, rfl, by decide +kernel, by decide +kernel⟩
abbrev s_law_player : Stmt := top 48
theorem sc_law_player : FnScope ["stack", "top", "word"] ["stack", "top", "word"] (defScope s_law_player) := ⟨rfl, rfl, rfl, by decide +kernel, rfl, by decide +kernel, by decide +kernel⟩
abbrev s_law_tactic : Stmt := top 49
theorem sc_law_tactic : FnScope ["stack", "top", "word"] ["stack", "top", "word"] (defScope s_law_tactic) := ⟨rfl, rfl, rfl, by decide +kernel, rfl, by decide +kernel, by decide +kernel⟩
abbrev s_law_wrong : Stmt := top 50
theorem sc_law_wrong : FnScope ["way", "words", "stack", "at", "top"] ["way", "words"] (defScope s_law_wrong) := ⟨rfl, rfl, rfl, by decide +kernel, rfl, by decide +kernel, by decide +kernel⟩
abbrev s_law_menu : Stmt := top 51
theorem sc_law_menu : FnScope ["pool", "words"] ["pool"] (defScope s_law_menu) := ⟨rfl, rfl, rfl, by decide +kernel, rfl, by decide +kernel, by decide +kernel⟩
abbrev s_law_chain : Stmt := top 52
theorem sc_law_chain : FnScope ["pool", "words", "k", "count", "at", "parts", "place", "part"] ["pool"] (defScope s_law_chain) := ⟨rfl, rfl, rfl, by decide +kernel, rfl, by decide +kernel, by decide +kernel⟩
abbrev s_law_rules : Stmt := top 53
theorem sc_law_rules : FnScope ["pool", "words", "k"] ["pool"] (defScope s_law_rules) := ⟨rfl, rfl, rfl, by decide +kernel, rfl, by decide +kernel, by decide +kernel⟩
abbrev s_law_value : Stmt := top 54
theorem sc_law_value : FnScope ["pool", "deep", "words", "left", "k"] ["pool", "deep"] (defScope s_law_value) := ⟨rfl, rfl, rfl, by decide +kernel, rfl, by decide +kernel, by decide +kernel⟩
abbrev s_law_walked : Stmt := top 55
theorem sc_law_walked : FnScope ["pool", "way", "words", "k", "word", "turn"] ["pool", "way"] (defScope s_law_walked) := ⟨rfl, rfl, rfl, by decide +kernel, rfl, by decide +kernel, by decide +kernel⟩
abbrev s_law_changed : Stmt := top 56
theorem sc_law_changed : FnScope ["pool", "words", "k", "kind", "place", "other", "word", "at", "signs"] ["pool", "words"] (defScope s_law_changed) := ⟨rfl, rfl, rfl, by decide +kernel, rfl, by decide +kernel, by decide +kernel⟩
abbrev s_law : Stmt := top 57
theorem sc_law : FnScope ["script", "pool", "way", "words", "text", "wrong", "actual", "e"] ["script"] (defScope s_law) := ⟨rfl, rfl, rfl, by decide +kernel, rfl, by decide +kernel, by decide +kernel⟩
structure Txt (K : PySem.W.Frag) (mg : Str → Option Value) (file : Str) where
  o_n : PySem.W.specialIn K (.builtin "object.__class__") "__get__" = some (some (.builtin "getset_descriptor.__get__"))
  o_t : PySem.W.takesIn K (.builtin "object.__class__") = some true
  C_Words : Addr
  g_Words : mg "Words" = some (.ref C_Words)
  cl_Words : Cls K C_Words
  sf_Words : PySem.W.selfFirst K C_Words = true
  na_Words_words : NoAttr K C_Words "words"
  na_Words_at : NoAttr K C_Words "at"
  C_Tactic : Addr
  g_Tactic : mg "Tactic" = some (.ref C_Tactic)
  cl_Tactic : Cls K C_Tactic
  sf_Tactic : PySem.W.selfFirst K C_Tactic = true
  na_Tactic_rules : NoAttr K C_Tactic "rules"
  ia_Tactic : PySem.W.findIn K (.ref C_Tactic) "__class__" = some (some (.builtin "object.__class__"))
  im_Tactic : PySem.W.mroIn K C_Tactic (.type "object") = some true
  ik_Tactic : PySem.W.kitOne K (.ref C_Tactic) (.ref C_Tactic) = some true
  a_is_name : Addr
  fd_is_name : FuncData
  F_is_name : Fun K "is_name" "is_name" s_is_name a_is_name fd_is_name
  b_is_name : L2.Binds K fd_is_name ["word"] []
  k_is_name : PySem.W.keepIn K (.ref a_is_name) = true
  g_is_name : mg "is_name" = some (.ref a_is_name)
  a_is_number : Addr
  fd_is_number : FuncData
  F_is_number : Fun K "is_number" "is_number" s_is_number a_is_number fd_is_number
  b_is_number : L2.Binds K fd_is_number ["word"] []
  k_is_number : PySem.W.keepIn K (.ref a_is_number) = true
  g_is_number : mg "is_number" = some (.ref a_is_number)
  a_Words_init : Addr
  fd_Words_init : FuncData
  F_Words_init : Fun K "__init__" "Words.__init__" s_Words_init a_Words_init fd_Words_init
  b_Words_init : L2.Binds K fd_Words_init ["self", "text"] []
  k_Words_init : PySem.W.keepIn K (.ref a_Words_init) = true
  m_Words_init : Meth K C_Words "__init__" a_Words_init
  a_Words_ended : Addr
  fd_Words_ended : FuncData
  F_Words_ended : Fun K "ended" "Words.ended" s_Words_ended a_Words_ended fd_Words_ended
  b_Words_ended : L2.Binds K fd_Words_ended ["self"] []
  k_Words_ended : PySem.W.keepIn K (.ref a_Words_ended) = true
  m_Words_ended : Meth K C_Words "ended" a_Words_ended
  a_Words_ahead : Addr
  fd_Words_ahead : FuncData
  F_Words_ahead : Fun K "ahead" "Words.ahead" s_Words_ahead a_Words_ahead fd_Words_ahead
  b_Words_ahead : L2.Binds K fd_Words_ahead ["self"] []
  k_Words_ahead : PySem.W.keepIn K (.ref a_Words_ahead) = true
  m_Words_ahead : Meth K C_Words "ahead" a_Words_ahead
  a_Words_refuse : Addr
  fd_Words_refuse : FuncData
  F_Words_refuse : Fun K "refuse" "Words.refuse" s_Words_refuse a_Words_refuse fd_Words_refuse
  b_Words_refuse : L2.Binds K fd_Words_refuse ["self"] []
  k_Words_refuse : PySem.W.keepIn K (.ref a_Words_refuse) = true
  m_Words_refuse : Meth K C_Words "refuse" a_Words_refuse
  a_Words_take : Addr
  fd_Words_take : FuncData
  F_Words_take : Fun K "take" "Words.take" s_Words_take a_Words_take fd_Words_take
  b_Words_take : L2.Binds K fd_Words_take ["self"] []
  k_Words_take : PySem.W.keepIn K (.ref a_Words_take) = true
  m_Words_take : Meth K C_Words "take" a_Words_take
  a_Words_one_of : Addr
  fd_Words_one_of : FuncData
  F_Words_one_of : Fun K "one_of" "Words.one_of" s_Words_one_of a_Words_one_of fd_Words_one_of
  b_Words_one_of : L2.Binds K fd_Words_one_of ["self", "choices"] []
  k_Words_one_of : PySem.W.keepIn K (.ref a_Words_one_of) = true
  m_Words_one_of : Meth K C_Words "one_of" a_Words_one_of
  a_Words_name : Addr
  fd_Words_name : FuncData
  te0_Words_name : Addr
  qe0_Words_name : ∀ H, SqT K H te0_Words_name []
  F_Words_name : FunD K "name" "Words.name" (defArgs s_Words_name) (defBody s_Words_name) (defScope s_Words_name) [.ref te0_Words_name] [] a_Words_name fd_Words_name
  ds0_Words_name : List Value
  dv0_Words_name : Vals [.ref te0_Words_name] ds0_Words_name
  db0_Words_name : L2.Binds K fd_Words_name ["self", "taken"] ds0_Words_name
  b_Words_name : L2.Binds K fd_Words_name ["self", "taken"] []
  k_Words_name : PySem.W.keepIn K (.ref a_Words_name) = true
  m_Words_name : Meth K C_Words "name" a_Words_name
  a_Words_number : Addr
  fd_Words_number : FuncData
  F_Words_number : Fun K "number" "Words.number" s_Words_number a_Words_number fd_Words_number
  b_Words_number : L2.Binds K fd_Words_number ["self", "least", "greatest"] []
  k_Words_number : PySem.W.keepIn K (.ref a_Words_number) = true
  m_Words_number : Meth K C_Words "number" a_Words_number
  a_Words_finish : Addr
  fd_Words_finish : FuncData
  F_Words_finish : Fun K "finish" "Words.finish" s_Words_finish a_Words_finish fd_Words_finish
  b_Words_finish : L2.Binds K fd_Words_finish ["self"] []
  k_Words_finish : PySem.W.keepIn K (.ref a_Words_finish) = true
  m_Words_finish : Meth K C_Words "finish" a_Words_finish
  a_read_expression : Addr
  fd_read_expression : FuncData
  F_read_expression : FunD K "read_expression" "read_expression" (defArgs s_read_expression) (defBody s_read_expression) (defScope s_read_expression) [.int 1] [] a_read_expression fd_read_expression
  ds0_read_expression : List Value
  dv0_read_expression : Vals [.int 1] ds0_read_expression
  db0_read_expression : L2.Binds K fd_read_expression ["words", "meanings", "tables", "depth"] ds0_read_expression
  b_read_expression : L2.Binds K fd_read_expression ["words", "meanings", "tables", "depth"] []
  k_read_expression : PySem.W.keepIn K (.ref a_read_expression) = true
  g_read_expression : mg "read_expression" = some (.ref a_read_expression)
  a_expression_words : Addr
  fd_expression_words : FuncData
  F_expression_words : Fun K "expression_words" "expression_words" s_expression_words a_expression_words fd_expression_words
  b_expression_words : L2.Binds K fd_expression_words ["expression"] []
  k_expression_words : PySem.W.keepIn K (.ref a_expression_words) = true
  g_expression_words : mg "expression_words" = some (.ref a_expression_words)
  a_Tactic_init : Addr
  fd_Tactic_init : FuncData
  F_Tactic_init : Fun K "__init__" "Tactic.__init__" s_Tactic_init a_Tactic_init fd_Tactic_init
  b_Tactic_init : L2.Binds K fd_Tactic_init ["self", "rules"] []
  k_Tactic_init : PySem.W.keepIn K (.ref a_Tactic_init) = true
  m_Tactic_init : Meth K C_Tactic "__init__" a_Tactic_init
  a_Tactic_eq : Addr
  fd_Tactic_eq : FuncData
  F_Tactic_eq : Fun K "__eq__" "Tactic.__eq__" s_Tactic_eq a_Tactic_eq fd_Tactic_eq
  b_Tactic_eq : L2.Binds K fd_Tactic_eq ["self", "other"] []
  k_Tactic_eq : PySem.W.keepIn K (.ref a_Tactic_eq) = true
  m_Tactic_eq : Meth K C_Tactic "__eq__" a_Tactic_eq
  a_read_tactic : Addr
  fd_read_tactic : FuncData
  F_read_tactic : Fun K "read_tactic" "read_tactic" s_read_tactic a_read_tactic fd_read_tactic
  b_read_tactic : L2.Binds K fd_read_tactic ["text"] []
  k_read_tactic : PySem.W.keepIn K (.ref a_read_tactic) = true
  g_read_tactic : mg "read_tactic" = some (.ref a_read_tactic)
  a_read_rule : Addr
  fd_read_rule : FuncData
  F_read_rule : Fun K "read_rule" "read_rule" s_read_rule a_read_rule fd_read_rule
  b_read_rule : L2.Binds K fd_read_rule ["words"] []
  k_read_rule : PySem.W.keepIn K (.ref a_read_rule) = true
  g_read_rule : mg "read_rule" = some (.ref a_read_rule)
  a_read_part : Addr
  fd_read_part : FuncData
  F_read_part : Fun K "read_part" "read_part" s_read_part a_read_part fd_read_part
  b_read_part : L2.Binds K fd_read_part ["words"] []
  k_read_part : PySem.W.keepIn K (.ref a_read_part) = true
  g_read_part : mg "read_part" = some (.ref a_read_part)
  a_tactic_text : Addr
  fd_tactic_text : FuncData
  F_tactic_text : Fun K "tactic_text" "tactic_text" s_tactic_text a_tactic_text fd_tactic_text
  b_tactic_text : L2.Binds K fd_tactic_text ["tactic"] []
  k_tactic_text : PySem.W.keepIn K (.ref a_tactic_text) = true
  g_tactic_text : mg "tactic_text" = some (.ref a_tactic_text)
  a_read_player : Addr
  fd_read_player : FuncData
  F_read_player : Fun K "read_player" "read_player" s_read_player a_read_player fd_read_player
  b_read_player : L2.Binds K fd_read_player ["text"] []
  k_read_player : PySem.W.keepIn K (.ref a_read_player) = true
  g_read_player : mg "read_player" = some (.ref a_read_player)
  a_read_below : Addr
  fd_read_below : FuncData
  F_read_below : Fun K "read_below" "read_below" s_read_below a_read_below fd_read_below
  b_read_below : L2.Binds K fd_read_below ["words", "left"] []
  k_read_below : PySem.W.keepIn K (.ref a_read_below) = true
  g_read_below : mg "read_below" = some (.ref a_read_below)
  a_read_parts : Addr
  fd_read_parts : FuncData
  F_read_parts : Fun K "read_parts" "read_parts" s_read_parts a_read_parts fd_read_parts
  b_read_parts : L2.Binds K fd_read_parts ["words", "left"] []
  k_read_parts : PySem.W.keepIn K (.ref a_read_parts) = true
  g_read_parts : mg "read_parts" = some (.ref a_read_parts)
  a_player_text : Addr
  fd_player_text : FuncData
  F_player_text : Fun K "player_text" "player_text" s_player_text a_player_text fd_player_text
  b_player_text : L2.Binds K fd_player_text ["player"] []
  k_player_text : PySem.W.keepIn K (.ref a_player_text) = true
  g_player_text : mg "player_text" = some (.ref a_player_text)
  a_player_words : Addr
  fd_player_words : FuncData
  F_player_words : Fun K "player_words" "player_words" s_player_words a_player_words fd_player_words
  b_player_words : L2.Binds K fd_player_words ["player"] []
  k_player_words : PySem.W.keepIn K (.ref a_player_words) = true
  g_player_words : mg "player_words" = some (.ref a_player_words)
  a_law_pool : Addr
  fd_law_pool : FuncData
  F_law_pool : Fun K "_law_pool" "_law_pool" s_law_pool a_law_pool fd_law_pool
  b_law_pool : L2.Binds K fd_law_pool ["script", "budget"] []
  k_law_pool : PySem.W.keepIn K (.ref a_law_pool) = true
  g_law_pool : mg "_law_pool" = some (.ref a_law_pool)
  a_law_draw : Addr
  fd_law_draw : FuncData
  F_law_draw : Fun K "_law_draw" "_law_draw" s_law_draw a_law_draw fd_law_draw
  b_law_draw : L2.Binds K fd_law_draw ["pool", "size"] []
  k_law_draw : PySem.W.keepIn K (.ref a_law_draw) = true
  g_law_draw : mg "_law_draw" = some (.ref a_law_draw)
  a_law_same : Addr
  fd_law_same : FuncData
  F_law_same : Fun K "_law_same" "_law_same" s_law_same a_law_same fd_law_same
  b_law_same : L2.Binds K fd_law_same ["actual", "due"] []
  k_law_same : PySem.W.keepIn K (.ref a_law_same) = true
  g_law_same : mg "_law_same" = some (.ref a_law_same)
  a_law_is_number : Addr
  fd_law_is_number : FuncData
  F_law_is_number : Fun K "_law_is_number" "_law_is_number" s_law_is_number a_law_is_number fd_law_is_number
  b_law_is_number : L2.Binds K fd_law_is_number ["word", "least", "most"] []
  k_law_is_number : PySem.W.keepIn K (.ref a_law_is_number) = true
  g_law_is_number : mg "_law_is_number" = some (.ref a_law_is_number)
  a_law_is_name : Addr
  fd_law_is_name : FuncData
  F_law_is_name : Fun K "_law_is_name" "_law_is_name" s_law_is_name a_law_is_name fd_law_is_name
  b_law_is_name : L2.Binds K fd_law_is_name ["word"] []
  k_law_is_name : PySem.W.keepIn K (.ref a_law_is_name) = true
  g_law_is_name : mg "_law_is_name" = some (.ref a_law_is_name)
  a_law_player : Addr
  fd_law_player : FuncData
  F_law_player : Fun K "_law_player" "_law_player" s_law_player a_law_player fd_law_player
  b_law_player : L2.Binds K fd_law_player ["stack", "top", "word"] []
  k_law_player : PySem.W.keepIn K (.ref a_law_player) = true
  g_law_player : mg "_law_player" = some (.ref a_law_player)
  a_law_tactic : Addr
  fd_law_tactic : FuncData
  F_law_tactic : Fun K "_law_tactic" "_law_tactic" s_law_tactic a_law_tactic fd_law_tactic
  b_law_tactic : L2.Binds K fd_law_tactic ["stack", "top", "word"] []
  k_law_tactic : PySem.W.keepIn K (.ref a_law_tactic) = true
  g_law_tactic : mg "_law_tactic" = some (.ref a_law_tactic)
  a_law_wrong : Addr
  fd_law_wrong : FuncData
  F_law_wrong : Fun K "_law_wrong" "_law_wrong" s_law_wrong a_law_wrong fd_law_wrong
  b_law_wrong : L2.Binds K fd_law_wrong ["way", "words"] []
  k_law_wrong : PySem.W.keepIn K (.ref a_law_wrong) = true
  g_law_wrong : mg "_law_wrong" = some (.ref a_law_wrong)
  a_law_menu : Addr
  fd_law_menu : FuncData
  F_law_menu : Fun K "_law_menu" "_law_menu" s_law_menu a_law_menu fd_law_menu
  b_law_menu : L2.Binds K fd_law_menu ["pool"] []
  k_law_menu : PySem.W.keepIn K (.ref a_law_menu) = true
  g_law_menu : mg "_law_menu" = some (.ref a_law_menu)
  a_law_value : Addr
  fd_law_value : FuncData
  F_law_value : Fun K "_law_value" "_law_value" s_law_value a_law_value fd_law_value
  b_law_value : L2.Binds K fd_law_value ["pool", "deep"] []
  k_law_value : PySem.W.keepIn K (.ref a_law_value) = true
  g_law_value : mg "_law_value" = some (.ref a_law_value)
  a_law_chain : Addr
  fd_law_chain : FuncData
  F_law_chain : Fun K "_law_chain" "_law_chain" s_law_chain a_law_chain fd_law_chain
  b_law_chain : L2.Binds K fd_law_chain ["pool"] []
  k_law_chain : PySem.W.keepIn K (.ref a_law_chain) = true
  g_law_chain : mg "_law_chain" = some (.ref a_law_chain)
  a_law_rules : Addr
  fd_law_rules : FuncData
  F_law_rules : Fun K "_law_rules" "_law_rules" s_law_rules a_law_rules fd_law_rules
  b_law_rules : L2.Binds K fd_law_rules ["pool"] []
  k_law_rules : PySem.W.keepIn K (.ref a_law_rules) = true
  g_law_rules : mg "_law_rules" = some (.ref a_law_rules)
  a_law_walked : Addr
  fd_law_walked : FuncData
  F_law_walked : Fun K "_law_walked" "_law_walked" s_law_walked a_law_walked fd_law_walked
  b_law_walked : L2.Binds K fd_law_walked ["pool", "way"] []
  k_law_walked : PySem.W.keepIn K (.ref a_law_walked) = true
  g_law_walked : mg "_law_walked" = some (.ref a_law_walked)
  a_law_changed : Addr
  fd_law_changed : FuncData
  F_law_changed : Fun K "_law_changed" "_law_changed" s_law_changed a_law_changed fd_law_changed
  b_law_changed : L2.Binds K fd_law_changed ["pool", "words"] []
  k_law_changed : PySem.W.keepIn K (.ref a_law_changed) = true
  g_law_changed : mg "_law_changed" = some (.ref a_law_changed)
  a_law : Addr
  fd_law : FuncData
  F_law : Fun K "law" "law" s_law a_law fd_law
  b_law : L2.Binds K fd_law ["script"] []
  k_law : PySem.W.keepIn K (.ref a_law) = true
  g_law : mg "law" = some (.ref a_law)
  mk_Words : Mk K C_Words a_Words_init
  mk_Tactic : Mk K C_Tactic a_Tactic_init
  C_BadText : Addr
  g_BadText : mg "BadText" = some (.ref C_BadText)
  kc_BadText : PySem.W.keepIn K (.ref C_BadText) = true
  xb_BadText : PySem.W.subIn K (.ref C_BadText) (.type "BaseException") = some true
  xt_BadText : PySem.W.typeIn K (.ref C_BadText) = some (.type "type")
  xd_BadText : PySem.W.hasDictIn K C_BadText = true
  a_BadText_init : Addr
  fd_BadText_init : FuncData
  E_BadText : ErrF K mg C_BadText a_BadText_init fd_BadText_init "BadText.__init__" s_BadText_init file "at"
  b_BadText_init : L2.Binds K fd_BadText_init [("self" : Str), "at"] []
  z_super : mg "super" = none
  C_PlayError : Addr
  g_PlayError : mg "PlayError" = some (.ref C_PlayError)
  kc_PlayError : PySem.W.keepIn K (.ref C_PlayError) = true
  xb_PlayError : PySem.W.subIn K (.ref C_PlayError) (.type "BaseException") = some true
  xt_PlayError : PySem.W.typeIn K (.ref C_PlayError) = some (.type "type")
  xd_PlayError : PySem.W.hasDictIn K C_PlayError = true
  C_BadBound : Addr
  g_BadBound : mg "BadBound" = some (.ref C_BadBound)
  C_BadCall : Addr
  g_BadCall : mg "BadCall" = some (.ref C_BadCall)
  C_BadPaper : Addr
  g_BadPaper : mg "BadPaper" = some (.ref C_BadPaper)
  C_BadPlayer : Addr
  g_BadPlayer : mg "BadPlayer" = some (.ref C_BadPlayer)
  C_BadStep : Addr
  g_BadStep : mg "BadStep" = some (.ref C_BadStep)
  C_TooLarge : Addr
  g_TooLarge : mg "TooLarge" = some (.ref C_TooLarge)
  ec_BadText : ExcC K C_BadText
  g_LONGEST_NAME : ∃ t, mg "LONGEST_NAME" = some (.int 12 t)
  g_LONGEST_NUMBER : ∃ t, mg "LONGEST_NUMBER" = some (.int 5 t)
  g_GREATEST_NUMBER : ∃ t, mg "GREATEST_NUMBER" = some (.int 65535 t)
  g_LETTERS : ∃ t, mg "LETTERS" = some (.str "abcdefghijklmnopqrstuvwxyz" t)
  g_DIGITS : ∃ t, mg "DIGITS" = some (.str "0123456789" t)
  a_KEY_WORDS : Addr
  g_KEY_WORDS : mg "KEY_WORDS" = some (.ref a_KEY_WORDS)
  q_KEY_WORDS : ∀ H, SqT K H a_KEY_WORDS ((["var", "table", "lots", "proc", "local", "set", "let", "draw", "put", "lot", "ask", "if", "else", "end", "bad", "after", "answer", "has", "cell", "mod"] : List Str).map V.str)
  g_DEEPEST_PLAYER : ∃ t, mg "DEEPEST_PLAYER" = some (.int 8 t)
  g_MOST_TOSSED : ∃ t, mg "MOST_TOSSED" = some (.int 16 t)
  g_MOST_PARTS : ∃ t, mg "MOST_PARTS" = some (.int 64 t)
  a_OPERATORS : Addr
  g_OPERATORS : mg "OPERATORS" = some (.ref a_OPERATORS)
  q_OPERATORS : ∀ H, SqT K H a_OPERATORS ((["+", "-", "*", "/", "mod", "<", "="] : List Str).map V.str)
  a_LOOKS : Addr
  g_LOOKS : mg "LOOKS" = some (.ref a_LOOKS)
  q_LOOKS : ∀ H, SqT K H a_LOOKS ((["has", "cell"] : List Str).map V.str)
  g_DEEPEST_EXPRESSION : ∃ t, mg "DEEPEST_EXPRESSION" = some (.int 8 t)
  g_MOST_RULES : ∃ t, mg "MOST_RULES" = some (.int 20 t)
  a_KNOWN : Addr
  g_KNOWN : mg "KNOWN" = some (.ref a_KNOWN)
  q_KNOWN : ∀ H, SqT K H a_KNOWN ((["last", "made", "kept"] : List Str).map V.str)
  z_len : mg "len" = none
  z_all : mg "all" = none
  z_int : mg "int" = none
  z_str : mg "str" = none
  z_tuple : mg "tuple" = none
  z_list : mg "list" = none
  z_range : mg "range" = none
  z_isinstance : mg "isinstance" = none
  z_abs : mg "abs" = none
  z_bool : mg "bool" = none
  xga_BadText : PySem.W.findIn K (.ref C_BadText) "__getattribute__" = some (some (.builtin "BaseException.__getattribute__"))
  xgg_BadText : PySem.W.findIn K (.ref C_BadText) "__getattr__" = some none
  sub_tp : PySem.W.subIn K (.ref C_BadText) (.ref C_PlayError) = some true
  ki_tt : PySem.W.kitOne K (.ref C_BadText) (.ref C_BadText) = some true
  ki_e : PySem.W.kitAny K (.ref C_BadText) [.ref C_BadBound, .ref C_BadCall, .ref C_BadPaper, .ref C_BadPlayer, .ref C_BadStep, .ref C_TooLarge] = some false
def spIsName : Sp := fun vs H Q _ => ∃ x : Str, vs = [.str x] ∧ x.length ≤ 1000000 ∧ ∀ H', Same H H' → Q (.bl (isName x)) H'
def spIsNum : Sp := fun vs H Q _ => ∃ x : Str, vs = [.str x] ∧ x.length ≤ 1000000 ∧ ∀ H', Same H H' → Q (.bl (isNum x)) H'
theorem a_le : (1000000 : Nat) ≤ sizeLine := by decide
theorem all_map {α : Type} (f : α → Bool) (xs : List α) : (xs.map f).all id = xs.all f := by
  rw [List.all_map]
  rfl
theorem tk_next {α β : Type} (f : α → β) (xs : List α) {i : Nat} {c : α} (h : xs[i]? = some c) : (xs.take i).map f ++ [f c] = (xs.take (i + 1)).map f := by
  rw [take_more h, List.map_append]
  rfl
section
variable {P : Program} {w : World} {K : PySem.W.Frag} {mg : Str → Option Value} {base : Heap} {file : Str}

theorem ok_is_name (T : Txt K mg file) : FnOk P w K mg base CX0 1 T.a_is_name T.fd_is_name ["word"] spIsName := by
  refine T.F_is_name.ok sc_is_name (fun vs H Q E h => ?_) (fun cdv A outer s H vs Q E hr h => ?_)
  · obtain ⟨x, rfl, _⟩ := h
    rfl
  obtain ⟨x, rfl, hx, q⟩ := h
  refine ⟨_, (pss_cons (ps_if (PW.pt (pw_or (pt_not (pt_chain op_le op_le pe_int (pe_callB call_len_str (by rfl) T.z_len (by decide +kernel) (pa_cons (pv 0) pa_nil)) (pe_glob (v := .int 12) rfl T.g_LONGEST_NAME.choose_spec ⟨_, rfl⟩))) (pw_or1 (pt_cmpR op_in_seq (pv 0) (pe_glob (v := .ref T.a_KEY_WORDS) rfl T.g_KEY_WORDS rfl) rfl))))
      (pss_one (ps_ret pe_bl))
      pss_nil)
    (pss_one (ps_ret (pe_and (pe_cmpR op_in_sign (pe_ix ix_str (pv 0) pe_int (fun _ _ => rfl)) (pe_glob (v := .str "abcdefghijklmnopqrstuvwxyz") rfl T.g_LETTERS.choose_spec ⟨_, rfl⟩) rfl) (pe_one (pe_callB (cr_all rfl) (by rfl) T.z_all (by decide +kernel) (pa_cons (pe_lc (own := [("sign", 1)]) (g := gName 1) (tt := tYes) rfl sc_is_name.nd (pi_str (pv 0)) (blkOk_by (own := [("sign", 1)]) (N := ["word", "sign"]) (sc := defScope s_is_name) (by decide +kernel)) (fun _ _ _ _ _ => pg_name (i := 1) sc_is_name.nd rfl (Or.inl rfl)) (fun _ _ _ _ _ => pts_nil) (fun _ _ _ _ _ => (pe_or (pe_cmpR op_in_sign (pv 1) (pe_glob (v := .str "abcdefghijklmnopqrstuvwxyz") rfl T.g_LETTERS.choose_spec ⟨_, rfl⟩) rfl) (pe_one (pe_cmpR op_in_sign (pv 1) (pe_glob (v := .str "0123456789") rfl T.g_DIGITS.choose_spec ⟨_, rfl⟩) rfl))))) pa_nil))))))), ?_⟩
  have no : isName x = false → Q (.bl false) H := fun e => by rw [← e]; exact q H (Same.refl _)
  have hl := len_signs x
  refine ⟨_, rfl, x, rfl, Nat.le_trans hx a_le, _, _, rfl, rfl, _, rfl, ?_⟩
  refine ite2 (fun c1 => ?_) (fun c1 => ?_)
  rotate_left
  · refine ⟨_, rfl, ?_⟩
    refine no ?_
    have := of_decide_eq_false (Bool.eq_false_iff.mpr c1)
    unfold isName
    rw [show decide (1 ≤ x.length ∧ x.length ≤ 12) = false from decide_eq_false (by omega)]
    rfl
  refine ⟨_, _, rfl, rfl, _, rfl, ?_⟩
  have c1' := of_decide_eq_true c1
  refine ite2 (fun c2 => ?_) (fun c2 => ?_)
  · refine no ?_
    have : ¬ x.length ≤ 12 := by
      intro z
      rw [show decide ((x.length : Int) ≤ 12) = true from decide_eq_true (by omega)] at c2
      cases c2
    unfold isName
    rw [show decide (1 ≤ x.length ∧ x.length ≤ 12) = false from decide_eq_false (by omega)]
    rfl
  have c2' : x.length ≤ 12 := by
    cases e : decide ((x.length : Int) ≤ 12) with
    | true => have := of_decide_eq_true e; omega
    | false => rw [e] at c2; exact absurd rfl c2
  refine ⟨_, rfl, _, _, rfl, .inr (T.q_KEY_WORDS H), rfl, flat_strs _, _, rfl, ?_⟩
  rw [if_neg Bool.false_ne_true, inV_strs]
  refine ite2 (fun c3 => ?_) (fun c3 => ?_)
  · refine no ?_
    unfold isName
    rw [show decide (x ∈ keys) = true from c3]
    simp
  have c3' : decide (x ∈ keys) = false := Bool.eq_false_iff.mpr c3
  obtain ⟨c, cs, ec⟩ : ∃ c cs, signs x = c :: cs := by
    cases e : signs x with
    | nil => rw [e] at hl; simp at hl; omega
    | cons c cs => exact ⟨c, cs, rfl⟩
  have bas : isName x = (letB c && (signs x).all fun c => letB c || digB c) := by
    unfold isName
    rw [decide_eq_true (show 1 ≤ x.length ∧ x.length ≤ 12 from ⟨by omega, c2'⟩), c3', ec]
    rfl
  have e0 : atI (signs x) 0 = some c := atI_nat (j := 0) (show (signs x)[0]? = some c by rw [ec] <;> rfl)
  refine ⟨_, rfl, x, 0, c, rfl, rfl, Nat.le_trans hx a_le, e0, _, _, rfl, rfl, ?_⟩
  show ∃ k, V.bl (letB c) = .bl k ∧ _
  refine ⟨_, rfl, ?_⟩
  refine ite2 (fun c4 => ?_) (fun c4 => ?_)
  rotate_left
  · refine no ?_
    rw [bas, Bool.eq_false_iff.mpr c4]
    rfl
  refine ⟨_, rfl, _, rfl, fun D hD => ?_⟩
  refine lc_it walk_str (fun i H' => Same H H' ∧ H' D = some (.lst (((signs x).take i).map fun c => V.bl (letB c || digB c)))) ⟨Gm.same_new hD _, upd_same⟩ (fun _ _ _ _ => trivial) ?_ ?_
  · rintro i v H1 H2 hi ⟨m, e1⟩ ⟨rfl, c', e2, rfl⟩
    refine ⟨rfl, ?_⟩
    have e2' : (signs x)[i]? = some c' := by unfold signs; rw [Array.getElem?_toList]; exact e2
    have fin : ∀ b, (letB c' || digB c') = b → ∃ acc, H2 D = some (.lst acc) ∧ acc.length < sizeLine ∧ Same H (upd H2 D (.lst (acc ++ [V.bl b]))) ∧ upd H2 D (.lst (acc ++ [V.bl b])) D = some (.lst (((signs x).take (i + 1)).map fun c => V.bl (letB c || digB c))) := by
      intro b eb
      refine ⟨_, e1, ?_, fun a o z => ?_, ?_⟩
      · rw [List.length_map, List.length_take]
        exact Nat.lt_of_le_of_lt (Nat.min_le_right _ _) (Nat.lt_of_le_of_lt (show (signs x).length ≤ 12 by omega) (by decide))
      · rw [upd_ne (ne_of_none z hD)]
        exact m _ _ z
      · rw [upd_same, take_more e2', List.map_append, ← eb]
        rfl
    refine ⟨_, rfl, c', _, rfl, rfl, ?_⟩
    show ∃ k, V.bl (letB c') = .bl k ∧ _
    refine ⟨_, rfl, ite2 (fun d => ?_) (fun d => ?_)⟩
    · exact fin true (by rw [d]; rfl)
    · refine ⟨_, rfl, c', _, rfl, rfl, ?_⟩
      show _
      exact fin (digB c') (by rw [Bool.eq_false_iff.mpr d]; rfl)
  · rintro H1 ⟨m, e1⟩
    have e1' : H1 D = some (.lst (((signs x).map fun c => letB c || digB c).map V.bl)) := by
      rw [e1, List.map_map]
      have : (signs x).take x.cps.size = signs x := by
        rw [show x.cps.size = (signs x).length from (Array.length_toList).symm, List.take_length]
      rw [this]
      rfl
    refine ⟨D, _, rfl, SqL.of e1', ?_⟩
    rw [all_map]
    have := q H1 m
    rw [bas, c4, Bool.true_and] at this
    exact this
theorem ok_is_number (T : Txt K mg file) : FnOk P w K mg base CX0 1 T.a_is_number T.fd_is_number ["word"] spIsNum := by
  refine T.F_is_number.ok sc_is_number (fun vs H Q E h => ?_) (fun cdv A outer s H vs Q E hr h => ?_)
  · obtain ⟨x, rfl, _⟩ := h
    rfl
  obtain ⟨x, rfl, hx, q⟩ := h
  refine ⟨_, (pss_cons (ps_if (PW.pt (pw_or (pt_not (pt_chain op_le op_le pe_int (pe_callB call_len_str (by rfl) T.z_len (by decide +kernel) (pa_cons (pv 0) pa_nil)) (pe_glob (v := .int 5) rfl T.g_LONGEST_NUMBER.choose_spec ⟨_, rfl⟩))) (pw_or1 (pt_not (pt_val (pe_callB (cr_all rfl) (by rfl) T.z_all (by decide +kernel) (pa_cons (pe_lc (own := [("sign", 1)]) (g := gName 1) (tt := tYes) rfl sc_is_number.nd (pi_str (pv 0)) (blkOk_by (own := [("sign", 1)]) (N := ["word", "sign"]) (sc := defScope s_is_number) (by decide +kernel)) (fun _ _ _ _ _ => pg_name (i := 1) sc_is_number.nd rfl (Or.inl rfl)) (fun _ _ _ _ _ => pts_nil) (fun _ _ _ _ _ => (pe_cmpR op_in_sign (pv 1) (pe_glob (v := .str "0123456789") rfl T.g_DIGITS.choose_spec ⟨_, rfl⟩) rfl))) pa_nil)))))))
      (pss_one (ps_ret pe_bl))
      pss_nil)
    (pss_cons (ps_if (pt_cmpR op_eq (pe_ix ix_str (pv 0) pe_int (fun _ _ => rfl)) pe_str (nomark _))
      (pss_one (ps_ret (pe_cmpR op_eq (pv 0) pe_str (nomark _))))
      pss_nil)
    (pss_one (ps_ret (pe_cmpR op_le (pe_callTy call_int_str (by rfl) T.z_int (by decide +kernel) (pa_cons (pv 0) pa_nil)) (pe_glob (v := .int 65535) rfl T.g_GREATEST_NUMBER.choose_spec ⟨_, rfl⟩) (nomark _)))))), ?_⟩
  have hl := len_signs x
  have no : isNum x = false → ∀ H', Same H H' → Q (.bl false) H' := fun e H' m => by rw [← e]; exact q H' m
  refine ⟨_, rfl, x, rfl, Nat.le_trans hx a_le, _, _, rfl, rfl, _, rfl, ?_⟩
  refine ite2 (fun c1 => ?_) (fun c1 => ?_)
  rotate_left
  · refine ⟨_, rfl, ?_⟩
    refine no ?_ H (Same.refl _)
    have := of_decide_eq_false (Bool.eq_false_iff.mpr c1)
    unfold isNum
    rw [show decide (1 ≤ x.length ∧ x.length ≤ 5) = false from decide_eq_false (by omega)]
    rfl
  refine ⟨_, _, rfl, rfl, _, rfl, ?_⟩
  have c1' := of_decide_eq_true c1
  refine ite2 (fun c2 => ?_) (fun c2 => ?_)
  · refine no ?_ H (Same.refl _)
    have : ¬ x.length ≤ 5 := by
      intro z
      rw [show decide ((x.length : Int) ≤ 5) = true from decide_eq_true (by omega)] at c2
      cases c2
    unfold isNum
    rw [show decide (1 ≤ x.length ∧ x.length ≤ 5) = false from decide_eq_false (by omega)]
    rfl
  have c2' : x.length ≤ 5 := by
    cases e : decide ((x.length : Int) ≤ 5) with
    | true => have := of_decide_eq_true e; omega
    | false => rw [e] at c2; exact absurd rfl c2
  obtain ⟨c, cs, ec⟩ : ∃ c cs, signs x = c :: cs := by
    cases e : signs x with
    | nil => rw [e] at hl; simp at hl; omega
    | cons c cs => exact ⟨c, cs, rfl⟩
  have bas : isNum x = ((signs x).all digB && if c = 48 then decide (x = "0") else decide (numW x ≤ 65535)) := by
    unfold isNum
    rw [decide_eq_true (show 1 ≤ x.length ∧ x.length ≤ 5 from ⟨by omega, c2'⟩), ec]
    rfl
  have e0 : atI (signs x) 0 = some c := atI_nat (j := 0) (show (signs x)[0]? = some c by rw [ec] <;> rfl)
  refine ⟨_, rfl, _, rfl, fun D hD => ?_⟩
  refine lc_it walk_str (fun i H' => Same H H' ∧ H' D = some (.lst (((signs x).take i).map fun c => V.bl (digB c)))) ⟨Gm.same_new hD _, upd_same⟩ (fun _ _ _ _ => trivial) ?_ ?_
  · rintro i v H1 H2 hi ⟨m, e1⟩ ⟨rfl, c', e2, rfl⟩
    refine ⟨rfl, ?_⟩
    have e2' : (signs x)[i]? = some c' := by unfold signs; rw [Array.getElem?_toList]; exact e2
    refine ⟨_, rfl, c', _, rfl, rfl, _, e1, ?_, fun a o z => ?_, ?_⟩
    · rw [List.length_map, List.length_take]
      exact Nat.lt_of_le_of_lt (Nat.min_le_right _ _) (Nat.lt_of_le_of_lt (show (signs x).length ≤ 12 by omega) (by decide))
    · rw [upd_ne (ne_of_none z hD)]
      exact m _ _ z
    · rw [upd_same, take_more e2', List.map_append]
      rfl
  · rintro H1 ⟨m, e1⟩
    have e1' : H1 D = some (.lst (((signs x).map digB).map V.bl)) := by
      rw [e1, List.map_map]
      have : (signs x).take x.cps.size = signs x := by
        rw [show x.cps.size = (signs x).length from (Array.length_toList).symm, List.take_length]
      rw [this]
      rfl
    refine ⟨D, _, rfl, SqL.of e1', ?_⟩
    rw [all_map]
    refine ⟨_, rfl, ?_⟩
    refine ite2 (fun c3 => ?_) (fun c3 => ?_)
    · refine no ?_ H1 m
      have : (signs x).all digB = false := by
        cases e : (signs x).all digB with
        | false => rfl
        | true => rw [e] at c3; cases c3
      rw [bas, this]
      rfl
    have c3' : (signs x).all digB = true := by
      cases e : (signs x).all digB with
      | true => rfl
      | false => rw [e] at c3; exact absurd rfl c3
    have s0 : ("0" : Str) = ⟨#[48]⟩ := by decide +kernel
    have d0 : decide (V.str (⟨#[c]⟩ : Str) = V.str ("0" : Str)) = decide (c = 48) := by
      rw [s0]
      refine decide_eq_decide.mpr ⟨fun z => ?_, fun z => by rw [z]⟩
      have z1 := V.str.inj z
      have z2 : (#[c] : Array Nat) = #[48] := congrArg Str.cps z1
      simpa using z2
    have qn := q H1 m
    rw [bas, c3', Bool.true_and] at qn
    refine ⟨_, rfl, x, 0, c, rfl, rfl, Nat.le_trans hx a_le, e0, ?_⟩
    refine ⟨rfl, _, rfl, ?_⟩
    rw [d0]
    refine ite2 (fun c4 => ?_) (fun c4 => ?_)
    · rw [if_pos (of_decide_eq_true c4)] at qn
      refine ⟨_, rfl, rfl, ?_⟩
      have : decide (V.str x = V.str ("0" : Str)) = decide (x = ("0" : Str)) := decide_eq_decide.mpr ⟨V.str.inj, congrArg V.str⟩
      rw [this]
      exact qn
    · rw [if_neg (of_decide_eq_false (Bool.eq_false_iff.mpr c4))] at qn
      refine ⟨_, rfl, x, _, rfl, num_text c3' (by omega) c2', by omega, _, _, rfl, rfl, ?_⟩
      have : decide (((numW x : Nat) : Int) ≤ 65535) = decide (numW x ≤ 65535) := decide_eq_decide.mpr ⟨by omega, by omega⟩
      show Q (.bl (decide (((numW x : Nat) : Int) ≤ 65535))) H1
      rw [this]
      exact qn
/-! ### the object that takes words -/
theorem ok_ended (T : Txt K mg file) : FnOk P w K mg base CX0 1 T.a_Words_ended T.fd_Words_ended ["self"] (spEnded T.C_Words) := by
  refine T.F_Words_ended.ok sc_Words_ended (fun vs H Q E h => ?_) (fun cdv A outer s H vs Q E hr h => ?_)
  · obtain ⟨p, l, ws, i, rfl, _⟩ := h
    rfl
  obtain ⟨p, l, ws, i, rfl, W, q⟩ := h
  refine ⟨_, (pss_one (ps_ret (pe_cmpR op_eq (pe_fld (pv 0) rfl) (pe_callB call_len_seq (by rfl) T.z_len (by decide +kernel) (pa_cons (pe_fld (pv 0) rfl) pa_nil)) (nomark _)))), ?_⟩
  obtain ⟨dx, fs, e1, e2, e3, e4, e5⟩ := W.ob
  refine ⟨_, rfl, p, _, _, _, _, rfl, e1, T.cl_Words, T.na_Words_at, e3, ?_⟩
  refine ⟨_, rfl, p, _, _, _, _, rfl, e1, T.cl_Words, T.na_Words_words, e2, ?_⟩
  refine ⟨l, _, rfl, .inl (SqL.of W.li), rfl, ?_⟩
  have : decide (V.int (i : Int) = V.int ((ws.map V.str).length : Nat)) = decide (i = ws.length) := by
    rw [List.length_map]
    exact decide_eq_decide.mpr ⟨fun z => Int.ofNat.inj (V.int.inj z), fun z => by rw [z]⟩
  show Q (.bl _) H
  rw [this]
  exact q
theorem ok_ahead (T : Txt K mg file) : FnOk P w K mg base CX0 2 T.a_Words_ahead T.fd_Words_ahead ["self"] (spAhead T.C_Words) := by
  have G_Words_ended : FnOk P w K mg base CX0 1 T.a_Words_ended T.fd_Words_ended ["self"] (spEnded T.C_Words) := ok_ended T
  refine T.F_Words_ahead.ok sc_Words_ahead (fun vs H Q E h => ?_) (fun cdv A outer s H vs Q E hr h => ?_)
  · obtain ⟨p, l, ws, i, rfl, _⟩ := h
    rfl
  obtain ⟨p, l, ws, i, rfl, W, q⟩ := h
  refine ⟨_, (pss_cons (ps_if (pt_val (pe_meth0 (pv 0) T.cl_Words T.m_Words_ended G_Words_ended (hr.mono (by decide)) T.b_Words_ended .nil pass0))
      (pss_one (ps_ret pe_str))
      pss_nil)
    (pss_one (ps_ret (pe_ix ix_list (pe_fld (pv 0) rfl) (pe_fld (pv 0) rfl) (fun _ _ => rfl))))), ?_⟩
  obtain ⟨dx, fs, e1, e2, e3, e4, e5⟩ := W.ob
  refine ⟨_, rfl, p, _, _, rfl, e1, e4 _ (by decide) (by decide), p, l, ws, i, rfl, W, _, rfl, ?_⟩
  refine ite2 (fun c => ?_) (fun c => ?_)
  · have c' := of_decide_eq_true c
    have : wd ws i = Str.empty := by unfold wd; rw [c', List.getD_eq_getElem?_getD, List.getElem?_eq_none (Nat.le_refl _)]; rfl
    rw [this] at q
    exact q
  · have c' : i ≠ ws.length := of_decide_eq_false (Bool.eq_false_iff.mpr c)
    have hi : i < ws.length := Nat.lt_of_le_of_ne W.le c'
    have ew : ws[i]? = some (wd ws i) := by unfold wd; rw [List.getD_eq_getElem?_getD, List.getElem?_eq_getElem hi]; rfl
    refine ⟨_, rfl, p, _, _, _, _, rfl, e1, T.cl_Words, T.na_Words_words, e2, ?_⟩
    refine ⟨_, rfl, p, _, _, _, _, rfl, e1, T.cl_Words, T.na_Words_at, e3, ?_⟩
    exact ⟨l, _, _, _, rfl, rfl, SqL.of W.li, atI_nat (by rw [List.getElem?_map, ew]; rfl), q⟩
theorem ok_refuse (hP : PrF P file) (T : Txt K mg file) : FnOk P w K mg base (L2.CX P w) 4 T.a_Words_refuse T.fd_Words_refuse ["self"] (spRefuse T.C_Words T.C_BadText) := by
  refine T.F_Words_refuse.okX sc_Words_refuse (fun vs H Q E h => ?_) (fun cdv A outer s H vs Q E hr h => ?_)
  · obtain ⟨p, l, ws, i, rfl, _⟩ := h
    rfl
  obtain ⟨p, l, ws, i, rfl, W, q⟩ := h
  refine ⟨_, (pss_one (ps_raise rfl (takes_of rfl rfl rfl rfl) (pmk_err T.E_BadText (err_BadText (k := 0) T.E_BadText hP) T.b_BadText_init (hr.mono (by decide)) rfl T.g_BadText (pa_cons (pe_fld (pv 0) rfl) pa_nil)))), ?_⟩
  obtain ⟨dx, fs, e1, e2, e3, e4, e5⟩ := W.ob
  refine ⟨_, rfl, p, _, _, _, _, rfl, e1, T.cl_Words, T.na_Words_at, e3, _, rfl, ⟨i, rfl, ?_⟩, fun d hd => ?_⟩
  · have := W.le
    have := W.sz
    omega
  · exact q d _ (fun b o e _ => by rw [upd_ne (ne_of_none e hd)]; exact e) upd_same
theorem ok_take (T : Txt K mg file) : FnOk P w K mg base CX0 3 T.a_Words_take T.fd_Words_take ["self"] (spTake T.C_Words) := by
  have G_Words_ahead : FnOk P w K mg base CX0 2 T.a_Words_ahead T.fd_Words_ahead ["self"] (spAhead T.C_Words) := ok_ahead T
  refine T.F_Words_take.ok sc_Words_take (fun vs H Q E h => ?_) (fun cdv A outer s H vs Q E hr h => ?_)
  · obtain ⟨p, l, ws, i, rfl, _⟩ := h
    rfl
  obtain ⟨p, l, ws, i, rfl, W, hi, q⟩ := h
  refine ⟨_, (pss_cons (ps_set (i := 1) sc_Words_take.nd rfl (Or.inl rfl) (pe_meth0 (pv 0) T.cl_Words T.m_Words_ahead G_Words_ahead (hr.mono (by decide)) T.b_Words_ahead .nil pass0))
    (pss_cons (ps_fldaug (pv 0) pe_int in_add)
    (pss_one (ps_ret (pv 1))))), ?_⟩
  obtain ⟨dx, fs, e1, e2, e3, e4, e5⟩ := W.ob
  refine ⟨_, rfl, p, _, _, rfl, e1, e4 _ (by decide) (by decide), p, l, ws, i, rfl, W, ?_⟩
  refine ⟨_, rfl, p, _, _, _, _, rfl, e1, T.cl_Words, T.na_Words_at, e3, _, _, rfl, rfl, dx, fs, e1, by omega, _, rfl, ?_⟩
  refine q _ But.upd ⟨⟨dx, _, upd_same, ?_, ?_, fun m h1 h2 => ?_, ?_⟩, ?_, by omega, W.sz, W.wl⟩
  · rw [lookup_putF, if_neg (by decide +kernel)]
    exact e2
  · rw [lookup_putF, if_pos rfl]
    exact congrArg some (congrArg V.int (by omega))
  · rw [lookup_putF, if_neg h2]
    exact e4 m h1 h2
  · rw [putF_len e3]
    exact e5
  · rw [upd_ne W.ne]
    exact W.li
theorem ok_one_of (hP : PrF P file) (T : Txt K mg file) : FnOk P w K mg base (L2.CX P w) 5 T.a_Words_one_of T.fd_Words_one_of ["self", "choices"] (spOneOf T.C_Words T.C_BadText K) := by
  have G_Words_ahead : FnOk P w K mg base CX0 2 T.a_Words_ahead T.fd_Words_ahead ["self"] (spAhead T.C_Words) := ok_ahead T
  have G_Words_take : FnOk P w K mg base CX0 3 T.a_Words_take T.fd_Words_take ["self"] (spTake T.C_Words) := ok_take T
  have G_Words_refuse : FnOk P w K mg base (L2.CX P w) 4 T.a_Words_refuse T.fd_Words_refuse ["self"] (spRefuse T.C_Words T.C_BadText) := ok_refuse hP T
  refine T.F_Words_one_of.okX sc_Words_one_of (fun vs H Q E h => ?_) (fun cdv A outer s H vs Q E hr h => ?_)
  · obtain ⟨p, l, ws, i, v, cs, rfl, _⟩ := h
    rfl
  obtain ⟨p, l, ws, i, v, cs, rfl, W, am, ne, hh⟩ := h
  refine ⟨_, (pss_cons (ps_if (pt_cmpR (op_notU (hu_of hr)) (pe_meth0 (pv 0) T.cl_Words T.m_Words_ahead G_Words_ahead (hr.mono (by decide)) T.b_Words_ahead .nil pass0) (pv 1) rfl)
      (pss_one (ps_expr (pe_meth0 (pv 0) T.cl_Words T.m_Words_refuse G_Words_refuse (hr.mono (by decide)) T.b_Words_refuse .nil (passes_call (takes_of rfl rfl rfl rfl) (fun _ _ _ _ z => z)))))
      pss_nil)
    (pss_one (ps_ret (pe_meth0 (pv 0) T.cl_Words T.m_Words_take G_Words_take (hr.mono (by decide)) T.b_Words_take .nil pass0)))), ?_⟩
  have mt : ∀ m : Str, m ≠ "words" → m ≠ "at" → ∃ dx fs, H p = some (.ins T.C_Words dx fs) ∧ fs.lookup m = none := fun m h1 h2 => W.nomt h1 h2
  obtain ⟨dx, fs, e1, e2⟩ := mt "ahead" (by decide) (by decide)
  obtain ⟨dx3, fs3, e5, e6⟩ := mt "refuse" (by decide) (by decide)
  obtain ⟨dx4, fs4, e7, e8⟩ := mt "take" (by decide) (by decide)
  refine ⟨_, rfl, p, dx, fs, rfl, e1, e2, p, l, ws, i, rfl, W, _, rfl, am.notU ?_⟩
  refine ⟨_, rfl, ?_⟩
  unfold Tk1 at hh
  refine ite2 (fun c => ?_) (fun c => ?_)
  · have c' : decide (wd ws i ∈ cs) = false := by
      cases z : decide (wd ws i ∈ cs) with
      | false => rfl
      | true => rw [z] at c; cases c
    rw [c', if_neg Bool.false_ne_true] at hh
    exact ⟨_, rfl, p, dx3, fs3, rfl, e5, e6, p, l, ws, i, rfl, W, hh⟩
  · have c' : decide (wd ws i ∈ cs) = true := by
      cases z : decide (wd ws i ∈ cs) with
      | true => rfl
      | false => rw [z] at c; exact absurd rfl c
    rw [c', if_pos rfl] at hh
    have hi : i < ws.length := W.lt_of fun z => ne (by rw [← z]; exact of_decide_eq_true c')
    exact ⟨_, rfl, p, dx4, fs4, rfl, e7, e8, p, l, ws, i, rfl, W, hi, hh⟩
theorem ok_name (hP : PrF P file) (T : Txt K mg file) : FnOk P w K mg base (L2.CX P w) 5 T.a_Words_name T.fd_Words_name ["self", "taken"] (spName T.C_Words T.C_BadText K) := by
  have G_Words_ahead : FnOk P w K mg base CX0 2 T.a_Words_ahead T.fd_Words_ahead ["self"] (spAhead T.C_Words) := ok_ahead T
  have G_Words_take : FnOk P w K mg base CX0 3 T.a_Words_take T.fd_Words_take ["self"] (spTake T.C_Words) := ok_take T
  have G_Words_refuse : FnOk P w K mg base (L2.CX P w) 4 T.a_Words_refuse T.fd_Words_refuse ["self"] (spRefuse T.C_Words T.C_BadText) := ok_refuse hP T
  have G_is_name : FnOk P w K mg base CX0 1 T.a_is_name T.fd_is_name ["word"] spIsName := ok_is_name T
  refine T.F_Words_name.ok sc_Words_name (fun vs H Q E h => ?_) (fun cdv A outer s H vs Q E hr h => ?_)
  · obtain ⟨p, l, ws, i, a, cs, rfl, _⟩ := h
    rfl
  obtain ⟨p, l, ws, i, a, cs, rfl, W, am, hh⟩ := h
  refine ⟨_, (pss_cons (ps_if (PW.pt (pw_or (pt_not (pt_val (pe_call G_is_name (hr.mono (by decide)) rfl T.g_is_name T.k_is_name T.b_is_name .nil pass0 (pa_cons (pe_meth0 (pv 0) T.cl_Words T.m_Words_ahead G_Words_ahead (hr.mono (by decide)) T.b_Words_ahead .nil pass0) pa_nil)))) (pw_or1 (pt_cmpR op_in_seq (pe_meth0 (pv 0) T.cl_Words T.m_Words_ahead G_Words_ahead (hr.mono (by decide)) T.b_Words_ahead .nil pass0) (pv 1) rfl))))
      (pss_one (ps_expr (pe_meth0 (pv 0) T.cl_Words T.m_Words_refuse G_Words_refuse (hr.mono (by decide)) T.b_Words_refuse .nil (passes_call (takes_of rfl rfl rfl rfl) (fun _ _ _ _ z => z)))))
      pss_nil)
    (pss_one (ps_ret (pe_meth0 (pv 0) T.cl_Words T.m_Words_take G_Words_take (hr.mono (by decide)) T.b_Words_take .nil pass0)))), ?_⟩
  obtain ⟨dx, fs, e1, e2⟩ := W.nomt (m := "ahead")
  refine ⟨_, rfl, p, dx, fs, rfl, e1, e2, p, l, ws, i, rfl, W, _, rfl, wd_len W, fun H1 m1 => ⟨_, rfl, ?_⟩⟩
  have W1 := W.same m1
  have am1 : SqL K H1 a (cs.map V.str) ∨ SqT K H1 a (cs.map V.str) := am.imp (fun z => m1.seq z) fun z => sqT_mono m1 z
  obtain ⟨dx2, fs2, e3, e4⟩ := W1.nomt (m := "ahead")
  obtain ⟨dx3, fs3, e5, e6⟩ := W1.nomt (m := "refuse")
  obtain ⟨dx4, fs4, e7, e8⟩ := W1.nomt (m := "take")
  unfold Tk1 at hh
  refine ite2 (fun c => ?_) (fun c => ?_)
  · have c' : isName (wd ws i) = false := by
      cases z : isName (wd ws i) with
      | false => rfl
      | true => rw [z] at c; cases c
    rw [c', Bool.false_and, if_neg Bool.false_ne_true] at hh
    refine ite2 (fun _ => ?_) (fun z => absurd rfl z)
    exact ⟨_, rfl, p, dx3, fs3, rfl, e5, e6, p, l, ws, i, rfl, W1, hh.later (But.same m1)⟩
  have c' : isName (wd ws i) = true := by
    cases z : isName (wd ws i) with
    | true => rfl
    | false => rw [z] at c; exact absurd rfl c
  rw [c', Bool.true_and] at hh
  refine ⟨_, rfl, p, dx2, fs2, rfl, e3, e4, p, l, ws, i, rfl, W1, _, rfl, a, _, rfl, am1, rfl, flat_strs _, _, rfl, ?_⟩
  rw [if_neg Bool.false_ne_true, inV_strs]
  refine ite2 (fun c2 => ?_) (fun c2 => ?_)
  · rw [c2] at hh
    exact ⟨_, rfl, p, dx3, fs3, rfl, e5, e6, p, l, ws, i, rfl, W1, hh.later (But.same m1)⟩
  · have c2' : decide (wd ws i ∈ cs) = false := Bool.eq_false_iff.mpr c2
    rw [c2', if_pos (by rfl)] at hh
    have hi : i < ws.length := W.lt_of fun z => by rw [z] at c'; exact absurd c' (by decide +kernel)
    exact ⟨_, rfl, p, dx4, fs4, rfl, e7, e8, p, l, ws, i, rfl, W1, hi, fun H' b W' => hh H' ((But.same m1).trans b) W'⟩
theorem ok_number (hP : PrF P file) (T : Txt K mg file) : FnOk P w K mg base (L2.CX P w) 5 T.a_Words_number T.fd_Words_number ["self", "least", "greatest"] (spNumber T.C_Words T.C_BadText) := by
  have G_Words_ahead : FnOk P w K mg base CX0 2 T.a_Words_ahead T.fd_Words_ahead ["self"] (spAhead T.C_Words) := ok_ahead T
  have G_Words_take : FnOk P w K mg base CX0 3 T.a_Words_take T.fd_Words_take ["self"] (spTake T.C_Words) := ok_take T
  have G_Words_refuse : FnOk P w K mg base (L2.CX P w) 4 T.a_Words_refuse T.fd_Words_refuse ["self"] (spRefuse T.C_Words T.C_BadText) := ok_refuse hP T
  have G_is_number : FnOk P w K mg base CX0 1 T.a_is_number T.fd_is_number ["word"] spIsNum := ok_is_number T
  refine T.F_Words_number.okX sc_Words_number (fun vs H Q E h => ?_) (fun cdv A outer s H vs Q E hr h => ?_)
  · obtain ⟨p, l, ws, i, lo, hi, rfl, _⟩ := h
    rfl
  obtain ⟨p, l, ws, i, lo, hi, rfl, W, hh⟩ := h
  refine ⟨_, (pss_cons (ps_if (PW.pt (pw_or (pt_not (pt_val (pe_call G_is_number (hr.mono (by decide)) rfl T.g_is_number T.k_is_number T.b_is_number .nil pass0 (pa_cons (pe_meth0 (pv 0) T.cl_Words T.m_Words_ahead G_Words_ahead (hr.mono (by decide)) T.b_Words_ahead .nil pass0) pa_nil)))) (pw_or1 (pt_not (pt_chain op_le op_le (pv 1) (pe_callTy call_int_str (by rfl) T.z_int (by decide +kernel) (pa_cons (pe_meth0 (pv 0) T.cl_Words T.m_Words_ahead G_Words_ahead (hr.mono (by decide)) T.b_Words_ahead .nil pass0) pa_nil)) (pv 2))))))
      (pss_one (ps_expr (pe_meth0 (pv 0) T.cl_Words T.m_Words_refuse G_Words_refuse (hr.mono (by decide)) T.b_Words_refuse .nil (passes_call (takes_of rfl rfl rfl rfl) (fun _ _ _ _ z => z)))))
      pss_nil)
    (pss_one (ps_ret (pe_callTy call_int_str (by rfl) T.z_int (by decide +kernel) (pa_cons (pe_meth0 (pv 0) T.cl_Words T.m_Words_take G_Words_take (hr.mono (by decide)) T.b_Words_take .nil pass0) pa_nil))))), ?_⟩
  obtain ⟨dx, fs, e1, e2⟩ := W.nomt (m := "ahead")
  refine ⟨_, rfl, p, dx, fs, rfl, e1, e2, p, l, ws, i, rfl, W, _, rfl, wd_len W, fun H1 m1 => ⟨_, rfl, ?_⟩⟩
  have W1 := W.same m1
  obtain ⟨dx2, fs2, e3, e4⟩ := W1.nomt (m := "ahead")
  obtain ⟨dx3, fs3, e5, e6⟩ := W1.nomt (m := "refuse")
  obtain ⟨dx4, fs4, e7, e8⟩ := W1.nomt (m := "take")
  unfold Tk1 at hh
  have bad : (isNum (wd ws i) && decide (lo ≤ (numW (wd ws i) : Nat) ∧ ((numW (wd ws i) : Nat) : Int) ≤ hi)) = false → Ref p T.C_BadText H1 i E := fun z => by
    rw [z, if_neg Bool.false_ne_true] at hh
    exact hh.later (But.same m1)
  refine ite2 (fun c => ?_) (fun c => ?_)
  · have c' : isNum (wd ws i) = false := by
      cases z : isNum (wd ws i) with
      | false => rfl
      | true => rw [z] at c; cases c
    refine ite2 (fun _ => ?_) (fun z => absurd rfl z)
    exact ⟨_, rfl, p, dx3, fs3, rfl, e5, e6, p, l, ws, i, rfl, W1, bad (by rw [c']; rfl)⟩
  have c' : isNum (wd ws i) = true := by
    cases z : isNum (wd ws i) with
    | true => rfl
    | false => rw [z] at c; exact absurd rfl c
  obtain ⟨t1, t2⟩ := isNum_text c'
  refine ⟨_, rfl, _, rfl, p, dx2, fs2, rfl, e3, e4, p, l, ws, i, rfl, W1, _, _, rfl, t1, t2, ?_⟩
  refine ⟨_, _, rfl, rfl, _, rfl, ?_⟩
  have hin : i < ws.length := W.lt_of fun z => by rw [z] at c'; exact absurd c' (by decide +kernel)
  refine ite2 (fun c1 => ?_) (fun c1 => ?_)
  · have c1' := of_decide_eq_true c1
    refine ⟨_, rfl, _, _, rfl, rfl, _, rfl, ?_⟩
    refine ite2 (fun c2 => ?_) (fun c2 => ?_)
    · refine ⟨_, rfl, p, dx3, fs3, rfl, e5, e6, p, l, ws, i, rfl, W1, bad ?_⟩
      have : ¬ ((numW (wd ws i) : Nat) : Int) ≤ hi := fun z => by rw [decide_eq_true z] at c2; cases c2
      rw [decide_eq_false fun z : _ ∧ _ => this z.2, Bool.and_false]
    · have c2' : ((numW (wd ws i) : Nat) : Int) ≤ hi := by
        by_cases z : ((numW (wd ws i) : Nat) : Int) ≤ hi
        · exact z
        · rw [decide_eq_false z] at c2; exact absurd rfl c2
      rw [c', decide_eq_true ⟨c1', c2'⟩, if_pos (by rfl)] at hh
      exact ⟨_, rfl, p, dx4, fs4, rfl, e7, e8, p, l, ws, i, rfl, W1, hin, fun H' b W' => ⟨_, _, rfl, t1, t2, hh H' ((But.same m1).trans b) W'⟩⟩
  · refine ⟨_, rfl, ?_⟩
    refine ite2 (fun _ => ?_) (fun z => absurd rfl z)
    refine ⟨_, rfl, p, dx3, fs3, rfl, e5, e6, p, l, ws, i, rfl, W1, bad ?_⟩
    have : ¬ lo ≤ (numW (wd ws i) : Nat) := of_decide_eq_false (Bool.eq_false_iff.mpr c1)
    rw [decide_eq_false fun z : _ ∧ _ => this z.1, Bool.and_false]
theorem ok_finish (hP : PrF P file) (T : Txt K mg file) : FnOk P w K mg base (L2.CX P w) 5 T.a_Words_finish T.fd_Words_finish ["self"] (spFinish T.C_Words T.C_BadText) := by
  have G_Words_ended : FnOk P w K mg base CX0 1 T.a_Words_ended T.fd_Words_ended ["self"] (spEnded T.C_Words) := ok_ended T
  have G_Words_refuse : FnOk P w K mg base (L2.CX P w) 4 T.a_Words_refuse T.fd_Words_refuse ["self"] (spRefuse T.C_Words T.C_BadText) := ok_refuse hP T
  refine T.F_Words_finish.okX sc_Words_finish (fun vs H Q E h => ?_) (fun cdv A outer s H vs Q E hr h => ?_)
  · obtain ⟨p, l, ws, i, rfl, _⟩ := h
    rfl
  obtain ⟨p, l, ws, i, rfl, W, hh⟩ := h
  refine ⟨_, (pss_one (ps_if (pt_not (pt_val (pe_meth0 (pv 0) T.cl_Words T.m_Words_ended G_Words_ended (hr.mono (by decide)) T.b_Words_ended .nil pass0)))
      (pss_one (ps_expr (pe_meth0 (pv 0) T.cl_Words T.m_Words_refuse G_Words_refuse (hr.mono (by decide)) T.b_Words_refuse .nil (passes_call (takes_of rfl rfl rfl rfl) (fun _ _ _ _ z => z)))))
      pss_nil)), ?_⟩
  obtain ⟨dx, fs, e1, e2⟩ := W.nomt (m := "ended")
  obtain ⟨dx3, fs3, e5, e6⟩ := W.nomt (m := "refuse")
  refine ⟨_, rfl, p, dx, fs, rfl, e1, e2, p, l, ws, i, rfl, W, _, rfl, ?_⟩
  by_cases c : i = ws.length
  · rw [if_pos c] at hh
    rw [decide_eq_true c]
    exact hh
  · rw [if_neg c] at hh
    rw [decide_eq_false c]
    exact ⟨_, rfl, p, dx3, fs3, rfl, e5, e6, p, l, ws, i, rfl, W, hh⟩
theorem ok_Words (T : Txt K mg file) : FnOk P w K mg base CX0 2 T.a_Words_init T.fd_Words_init ["self", "text"] (spWords T.C_Words) := by
  refine T.F_Words_init.ok sc_Words_init (fun vs H Q E h => ?_) (fun cdv A outer s H vs Q E hr h => ?_)
  · obtain ⟨p, dx, x, rfl, _⟩ := h
    rfl
  obtain ⟨p, dx, x, rfl, hp, hx, hs, hw, q⟩ := h
  refine ⟨_, (pss_cons (ps_fld (pv 0) (pe_ifExp (pt_truth (pv 1) (by intro _; rfl)) (pe_split (pv 1) pe_str) (pe_lst pa_nil)) rfl)
    (pss_one (ps_fld (pv 0) pe_int rfl))), ?_⟩
  have fin : ∀ l, H l = none → Q .non (upd (upd (upd H l (.lst ((toWords x).map V.str))) p (.ins T.C_Words dx (putF "words" (.ref l) []))) p (.ins T.C_Words dx (putF "at" (.int 0) (putF "words" (.ref l) [])))) := by
    intro l hl
    have npl : p ≠ l := ne_of_none hp hl
    refine q l _ (fun b o e n => ?_) ⟨⟨dx, _, upd_same, ?_, ?_, fun m h1 h2 => ?_, (by show 2 < 900; decide)⟩, ?_, Nat.zero_le _, hs, hw⟩
    · rw [upd_ne n, upd_ne n, upd_ne (ne_of_none e hl)]
      exact e
    · rw [lookup_putF, if_neg (by decide +kernel), lookup_putF, if_pos rfl]
    · rw [lookup_putF, if_pos rfl]
      rfl
    · rw [lookup_putF, if_neg h2, lookup_putF, if_neg h1]
      rfl
    · rw [upd_ne (Ne.symm npl), upd_ne (Ne.symm npl), upd_same]
  refine ⟨_, rfl, _, ⟨Nat.le_trans hx (by decide), rfl⟩, ?_⟩
  refine ite2 (fun c => ?_) (fun c => ?_)
  · have c' : ¬ x.length = 0 := fun z => by rw [z] at c; cases c
    have e : toWords x = Txt.split x " " := if_neg c'
    rw [e] at fin
    refine ⟨_, rfl, ⟨_, rfl⟩, x, _, rfl, rfl, rfl, ?_, fun l hl => ?_⟩
    · exact Nat.le_trans (Nat.add_le_add_right hx 2) (by decide)
    · exact ⟨_, rfl, p, T.C_Words, dx, [], rfl, by rw [upd_ne (ne_of_none hp hl)]; exact hp, T.cl_Words, T.na_Words_words, (by show 0 < 1000; decide), _, rfl, p, T.C_Words, dx, _, rfl, upd_same, T.cl_Words, T.na_Words_at, (by show 1 < 1000; decide), fin l hl⟩
  · have c' : x.length = 0 := by
      by_cases z : x.length = 0
      · exact z
      · exact absurd (by simpa using z) c
    have e : toWords x = [] := if_pos c'
    rw [e] at fin
    refine ⟨(by show 0 ≤ sizeLine; decide), fun l hl => ?_⟩
    exact ⟨_, rfl, p, T.C_Words, dx, [], rfl, by rw [upd_ne (ne_of_none hp hl)]; exact hp, T.cl_Words, T.na_Words_words, (by show 0 < 1000; decide), _, rfl, p, T.C_Words, dx, _, rfl, upd_same, T.cl_Words, T.na_Words_at, (by show 1 < 1000; decide), fin l hl⟩

def MeanT (K : PySem.W.Frag) (H : Hp) (m : Addr) : Prop :=
  ∃ kvs, H m = some (.dK kvs) ∧ ∀ x : Str, (x ∈ knw → ∃ v, valV kvs (.inr x) = some v ∧ Dp K H v (TX.key x).d) ∧ (x ∉ knw → valV kvs (.inr x) = none)
theorem mean_later {C p l m : Addr} {ws : List Str} {i : Nat} {H H' : Hp} (h : WAt C H p l ws i) (b : But p H H') (M : MeanT K H m) : MeanT K H' m := by
  obtain ⟨kvs, e, f⟩ := M
  refine ⟨kvs, b _ _ e (h.other e fun _ _ _ z => by cases z), fun x => ⟨fun hx => ?_, (f x).2⟩⟩
  obtain ⟨v, e1, d⟩ := (f x).1 hx
  exact ⟨v, e1, dp_tups (h.tups b) _ _ (TX.nol _) d⟩
theorem mean_amg {m : Addr} {H : Hp} (M : MeanT K H m) : Amg K H (.ref m) knw := by
  obtain ⟨kvs, e, f⟩ := M
  refine ⟨m, rfl, .inr (.inr ⟨kvs, e, fun x => ?_⟩)⟩
  by_cases h1 : x ∈ knw
  · obtain ⟨v, e1, _⟩ := (f x).1 h1
    rw [e1]
    exact (decide_eq_true h1).symm
  · rw [(f x).2 h1]
    exact (decide_eq_false h1).symm
def TxEnd (C B : Addr) (K : PySem.W.Frag) (p l : Addr) (ws : List Str) (H : Hp) (Q : VK) (E : XK) : Except Nat (TX × Nat) → Prop
  | .ok (e, j) => ∀ v H', But p H H' → WAt C H' p l ws j → Dp K H' v e.d → Q v H'
  | .error j => Ref p B H j E
def spTx (C B : Addr) (K : PySem.W.Frag) (k : Nat) : Sp := fun vs H Q E => ∃ (p l m tb : Addr) (ws : List Str) (i : Nat), vs = [.ref p, .ref m, .ref tb, .int (8 - (k : Int))] ∧ WAt C H p l ws i ∧ MeanT K H m ∧ SqT K H tb [] ∧
  TxEnd C B K p l ws H Q E (pTx ws k i)
theorem knw_ne : Str.empty ∉ knw := by decide +kernel
theorem ok_tx_step (hP : PrF P file) (T : Txt K mg file) (k : Nat) (sp0 : Sp) (G : FnOk P w K mg base (L2.CX P w) (k + 5) T.a_read_expression T.fd_read_expression ["words", "meanings", "tables", "depth"] sp0) (hsp : ∀ j, k = j + 1 → ∀ vs H Q E, spTx T.C_Words T.C_BadText K j vs H Q E → sp0 vs H Q E) :
    FnOk P w K mg base (L2.CX P w) (k + 6) T.a_read_expression T.fd_read_expression ["words", "meanings", "tables", "depth"] (spTx T.C_Words T.C_BadText K k) := by
  have G_read_expression : FnOk P w K mg base (L2.CX P w) (k + 5) T.a_read_expression T.fd_read_expression ["words", "meanings", "tables", "depth"] sp0 := G
  have G_Words_ahead : FnOk P w K mg base CX0 2 T.a_Words_ahead T.fd_Words_ahead ["self"] (spAhead T.C_Words) := ok_ahead T
  have G_Words_take : FnOk P w K mg base CX0 3 T.a_Words_take T.fd_Words_take ["self"] (spTake T.C_Words) := ok_take T
  have G_Words_one_of : FnOk P w K mg base (L2.CX P w) 5 T.a_Words_one_of T.fd_Words_one_of ["self", "choices"] (spOneOf T.C_Words T.C_BadText K) := ok_one_of hP T
  have G_Words_number : FnOk P w K mg base (L2.CX P w) 5 T.a_Words_number T.fd_Words_number ["self", "least", "greatest"] (spNumber T.C_Words T.C_BadText) := ok_number hP T
  have G_is_number : FnOk P w K mg base CX0 1 T.a_is_number T.fd_is_number ["word"] spIsNum := ok_is_number T
  refine T.F_read_expression.ok sc_read_expression (fun vs H Q E h => ?_) (fun cdv A outer s H vs Q E hr h => ?_)
  · obtain ⟨p, l, m, tb, ws, i, rfl, _⟩ := h
    rfl
  obtain ⟨p, l, m, tb, ws, i, rfl, W, M, ht, hh⟩ := h
  refine ⟨_, (pss_cons (ps_set (i := 4) sc_read_expression.nd rfl (Or.inl rfl) (pe_meth0 (pv 0) T.cl_Words T.m_Words_ahead G_Words_ahead (hr.mono (by omega)) T.b_Words_ahead .nil pass0))
    (pss_cons (ps_if (PW.pt (pw_and (pt_cmpR op_lt (pv 3) (pe_glob (v := .int 8) rfl T.g_DEEPEST_EXPRESSION.choose_spec ⟨_, rfl⟩) (nomark _)) (pw_and1 (pt_cmpR op_in_seq (pv 4) (pe_glob (v := .ref T.a_OPERATORS) rfl T.g_OPERATORS rfl) rfl))))
      (pss_cons (ps_expr (pe_meth0 (pv 0) T.cl_Words T.m_Words_take G_Words_take (hr.mono (by omega)) T.b_Words_take .nil pass0))
    (pss_cons (ps_set (i := 5) sc_read_expression.nd rfl (Or.inl rfl) (pe_call G_read_expression (hr.mono (by omega)) rfl T.g_read_expression T.k_read_expression T.b_read_expression .nil (passes_call (takes_of rfl rfl rfl rfl) (fun _ _ _ _ z => z)) (pa_cons (pv 0) (pa_cons (pv 1) (pa_cons (pv 2) (pa_cons (pe_op op_add (pv 3) pe_int) pa_nil))))))
    (pss_one (ps_ret (pe_tup (pa_cons (pv 4) (pa_cons (pv 5) (pa_cons (pe_call G_read_expression (hr.mono (by omega)) rfl T.g_read_expression T.k_read_expression T.b_read_expression .nil (passes_call (takes_of rfl rfl rfl rfl) (fun _ _ _ _ z => z)) (pa_cons (pv 0) (pa_cons (pv 1) (pa_cons (pv 2) (pa_cons (pe_op op_add (pv 3) pe_int) pa_nil))))) pa_nil))))))))
      pss_nil)
    (pss_cons (ps_if (PW.pt (pw_and (pt_cmpR op_lt (pv 3) (pe_glob (v := .int 8) rfl T.g_DEEPEST_EXPRESSION.choose_spec ⟨_, rfl⟩) (nomark _)) (pw_and (pt_cmpR op_in_seq (pv 4) (pe_glob (v := .ref T.a_LOOKS) rfl T.g_LOOKS rfl) rfl) (pw_and1 (pt_truth (pv 2) (by intro _; rfl))))))
      (pss_cons (ps_expr (pe_meth0 (pv 0) T.cl_Words T.m_Words_take G_Words_take (hr.mono (by omega)) T.b_Words_take .nil pass0))
    (pss_cons (ps_set (i := 6) sc_read_expression.nd rfl (Or.inl rfl) (pe_meth (pv 0) T.cl_Words T.m_Words_one_of G_Words_one_of (hr.mono (by omega)) T.b_Words_one_of .nil (passes_call (takes_of rfl rfl rfl rfl) (fun _ _ _ _ z => z)) (pa_cons (pv 2) pa_nil)))
    (pss_one (ps_ret (pe_tup (pa_cons (pv 4) (pa_cons (pv 6) (pa_cons (pe_call G_read_expression (hr.mono (by omega)) rfl T.g_read_expression T.k_read_expression T.b_read_expression .nil (passes_call (takes_of rfl rfl rfl rfl) (fun _ _ _ _ z => z)) (pa_cons (pv 0) (pa_cons (pv 1) (pa_cons (pv 2) (pa_cons (pe_op op_add (pv 3) pe_int) pa_nil))))) pa_nil))))))))
      pss_nil)
    (pss_cons (ps_if (pt_val (pe_call G_is_number (hr.mono (by omega)) rfl T.g_is_number T.k_is_number T.b_is_number .nil pass0 (pa_cons (pv 4) pa_nil)))
      (pss_one (ps_ret (pe_tup (pa_cons pe_str (pa_cons (pe_meth (pv 0) T.cl_Words T.m_Words_number G_Words_number (hr.mono (by omega)) T.b_Words_number .nil (passes_call (takes_of rfl rfl rfl rfl) (fun _ _ _ _ z => z)) (pa_cons pe_int (pa_cons (pe_glob (v := .int 65535) rfl T.g_GREATEST_NUMBER.choose_spec ⟨_, rfl⟩) pa_nil))) pa_nil)))))
      pss_nil)
    (pss_one (ps_ret (pe_dget (hu_of hr) (pv 1) (pe_meth (pv 0) T.cl_Words T.m_Words_one_of G_Words_one_of (hr.mono (by omega)) T.b_Words_one_of .nil (passes_call (takes_of rfl rfl rfl rfl) (fun _ _ _ _ z => z)) (pa_cons (pv 1) pa_nil)) (fun _ _ => rfl)))))))), ?_⟩
  obtain ⟨dx, fs, e1, e2⟩ := W.nomt (m := "ahead")
  refine ⟨_, rfl, p, dx, fs, rfl, e1, e2, p, l, ws, i, rfl, W, ?_⟩
  dsimp only [gName]
  refine tail_split (pTx ws k i = tAtom ws i) (fun atom => ?_) (fun ea => ?_)
  · cases k with
    | zero =>
      have at_ := atom rfl
      refine ⟨_, rfl, _, _, rfl, rfl, _, rfl, ite2 (fun c => absurd (of_decide_eq_true c) (by omega)) (fun _ => iteF ?_)⟩
      exact ⟨_, rfl, _, _, rfl, rfl, _, rfl, ite2 (fun c => absurd (of_decide_eq_true c) (by omega)) (fun _ => iteF at_)⟩
    | succ j =>
      have hsp' := hsp j rfl
      have ed : (8 - ((j + 1 : Nat) : Int) + 1) = 8 - (j : Int) := by omega
      have dlt : decide ((8 - ((j + 1 : Nat) : Int)) < 8) = true := decide_eq_true (by omega)
      refine ⟨_, rfl, _, _, rfl, rfl, _, rfl, ite2 (fun _ => ?_) (fun c => absurd dlt c)⟩
      refine ⟨_, rfl, _, _, rfl, .inr (T.q_OPERATORS H), rfl, flat_strs _, _, rfl, ?_⟩
      rw [if_neg Bool.false_ne_true, inV_strs]
      refine ite2 (fun c1 => ?_) (fun c1 => ?_)
      · have c1' : wd ws i ∈ ops := of_decide_eq_true c1
        simp only [pTx, if_pos c1'] at hh
        have hi : i < ws.length := W.lt_of fun z => by rw [z] at c1'; exact absurd c1' (by decide +kernel)
        obtain ⟨dx2, fs2, e3, e4⟩ := W.nomt (m := "take")
        refine ⟨_, rfl, p, dx2, fs2, rfl, e3, e4, p, l, ws, i, rfl, W, hi, fun H1 b1 W1 => ?_⟩
        refine ⟨_, rfl, _, rfl, _, rfl, _, rfl, _, _, rfl, rfl, ?_⟩
        refine hsp' _ _ _ _ ⟨p, l, m, tb, ws, i + 1, congrArg (fun z : Int => [V.ref p, V.ref m, V.ref tb, V.int z]) ed, W1, mean_later W b1 M, W.sqT b1 ht, ?_⟩
        cases x1 : pTx ws j (i + 1) with
        | error y =>
          rw [x1] at hh
          exact Ref.later hh b1
        | ok r1 =>
          obtain ⟨a, j1⟩ := r1
          rw [x1] at hh
          dsimp only at hh
          intro v1 H2 b2 W2 d1
          refine ⟨_, rfl, _, rfl, _, rfl, _, rfl, _, rfl, _, rfl, _, _, rfl, rfl, ?_⟩
          have b12 := b1.trans b2
          refine hsp' _ _ _ _ ⟨p, l, m, tb, ws, j1, congrArg (fun z : Int => [V.ref p, V.ref m, V.ref tb, V.int z]) ed, W2, mean_later W b12 M, W.sqT b12 ht, ?_⟩
          cases x2 : pTx ws j j1 with
          | error y =>
            rw [x2] at hh
            exact Ref.later hh b12
          | ok r2 =>
            obtain ⟨b, j2⟩ := r2
            rw [x2] at hh
            dsimp only at hh
            intro v2 H3 b3 W3 d2
            refine ⟨by show 3 ≤ sizeLine; decide, fun q hq => ?_⟩
            refine hh _ _ ((b12.trans b3).trans (But.same (Gm.same_new hq _))) (W3.same (Gm.same_new hq _)) ?_
            unfold TX.d
            exact dp_tup hq (.cons (.str _) (.cons (dp_tups (W2.tups b3) _ _ (TX.nol _) d1) (.cons d2 .nil)))
      have c1' : ¬ wd ws i ∈ ops := of_decide_eq_false (Bool.eq_false_iff.mpr c1)
      refine ⟨_, rfl, _, _, rfl, rfl, _, rfl, ite2 (fun _ => ?_) (fun c => absurd dlt c)⟩
      refine ⟨_, rfl, _, _, rfl, .inr (T.q_LOOKS H), rfl, flat_strs _, _, rfl, ?_⟩
      rw [if_neg Bool.false_ne_true, inV_strs]
      have fin := atom (by simp only [pTx, if_neg c1'])
      refine ite2 (fun c2 => ?_) (fun c2 => iteF fin)
      refine ⟨_, rfl, _, .inr (.inl ⟨_, ht, rfl⟩), ?_⟩
      exact iteF fin
  · rw [ea] at hh
    refine ⟨_, rfl, _, rfl, wd_len W, fun H1 m1 => ⟨_, rfl, ?_⟩⟩
    have W1 := W.same m1
    unfold tAtom at hh
    refine ite2 (fun c => ?_) (fun c => ?_)
    · rw [if_pos c] at hh
      obtain ⟨dx2, fs2, e3, e4⟩ := W1.nomt (m := "number")
      refine ⟨_, rfl, p, dx2, fs2, rfl, e3, e4, p, l, ws, i, 0, 65535, rfl, W1, ?_⟩
      have cn : (isNum (wd ws i) && decide ((0 : Int) ≤ (numW (wd ws i) : Nat) ∧ ((numW (wd ws i) : Nat) : Int) ≤ 65535)) = true := by
        have := isNum_le c
        rw [c, decide_eq_true ⟨by omega, by omega⟩]
        rfl
      unfold Tk1
      rw [if_pos cn]
      intro H2 b2 W2
      refine ⟨by show 2 ≤ sizeLine; decide, fun q hq => ?_⟩
      refine hh _ _ (((But.same m1).trans b2).trans (But.same (Gm.same_new hq _))) (W2.same (Gm.same_new hq _)) ?_
      unfold TX.d
      exact dp_tup hq (.cons (.str _) (.cons (.int _) .nil))
    · rw [if_neg c] at hh
      obtain ⟨dx2, fs2, e3, e4⟩ := W1.nomt (m := "one_of")
      have M1 := mean_later W (But.same m1) M
      refine ⟨_, rfl, _, rfl, p, dx2, fs2, rfl, e3, e4, _, rfl, p, l, ws, i, _, _, rfl, W1, mean_amg M1, knw_ne, ?_⟩
      unfold Tk1
      by_cases h1 : wd ws i ∈ knw
      · rw [if_pos h1] at hh
        rw [decide_eq_true h1, if_pos rfl]
        intro H2 b2 W2
        obtain ⟨kvs, ek, f⟩ := mean_later W1 b2 M1
        obtain ⟨v, ev, dv⟩ := (f _).1 h1
        exact ⟨m, v, rfl, .inl ⟨kvs, .inr _, .inl ek, rfl, ev.symm⟩, hh _ _ ((But.same m1).trans b2) W2 dv⟩
      · rw [if_neg h1] at hh
        rw [decide_eq_false h1, if_neg Bool.false_ne_true]
        exact Ref.later hh (But.same m1)
theorem ok_tx (hP : PrF P file) (T : Txt K mg file) : ∀ k : Nat, FnOk P w K mg base (L2.CX P w) (k + 6) T.a_read_expression T.fd_read_expression ["words", "meanings", "tables", "depth"] (spTx T.C_Words T.C_BadText K k)
  | 0 => ok_tx_step hP T 0 (fun _ _ _ _ => False) ⟨fun _ _ _ _ h => h.elim, fun _ _ _ _ _ _ _ _ _ _ _ _ _ h => h.elim⟩ (fun j h => absurd h (by omega))
  | k + 1 => ok_tx_step hP T (k + 1) _ (ok_tx hP T k) (fun j h vs H Q E q => by
      obtain rfl : k = j := by omega
      exact q)
end
end Toy
set_option Elab.async false
set_option linter.all false
set_option maxRecDepth 100000
set_option maxHeartbeats 2000000
/-! Tactics as data that is compared. -/
namespace Pz
open PySem L2 Gm
mutual
def pln : PyData → Bool
  | .int _ => true
  | .str _ => true
  | .list xs => plnAll xs
  | .tuple xs => plnAll xs
  | _ => false
def plnAll : List PyData → Bool
  | [] => true
  | x :: xs => pln x && plnAll xs
end
mutual
theorem eqv_eq : ∀ d e : PyData, pln d = true → pln e = true → PyData.eqv d e = true → d = e
  | .int i, e, _, he, h => by
    cases e with
    | int j => simp [PyData.eqv] at h; rw [h]
    | str _ => simp [PyData.eqv] at h
    | list _ => simp [PyData.eqv] at h
    | tuple _ => simp [PyData.eqv] at h
    | _ => cases he
  | .str i, e, _, he, h => by
    cases e with
    | str j => simp [PyData.eqv] at h; rw [h]
    | int _ => simp [PyData.eqv] at h
    | list _ => simp [PyData.eqv] at h
    | tuple _ => simp [PyData.eqv] at h
    | _ => cases he
  | .list xs, e, hd, he, h => by
    cases e with
    | list ys => exact congrArg PyData.list (eqv_eqs xs ys hd he (by simpa [PyData.eqv] using h))
    | int _ => simp [PyData.eqv] at h
    | str _ => simp [PyData.eqv] at h
    | tuple _ => simp [PyData.eqv] at h
    | _ => cases he
  | .tuple xs, e, hd, he, h => by
    cases e with
    | tuple ys => exact congrArg PyData.tuple (eqv_eqs xs ys hd he (by simpa [PyData.eqv] using h))
    | int _ => simp [PyData.eqv] at h
    | str _ => simp [PyData.eqv] at h
    | list _ => simp [PyData.eqv] at h
    | _ => cases he
  | .none, _, hd, _, _ => by cases hd
  | .bool _, _, hd, _, _ => by cases hd
  | .dict _, _, hd, _, _ => by cases hd
theorem eqv_eqs : ∀ ds es : List PyData, plnAll ds = true → plnAll es = true → PyData.eqvAll ds es = true → ds = es
  | [], [], _, _, _ => rfl
  | [], _ :: _, _, _, h => by simp [PyData.eqvAll] at h
  | _ :: _, [], _, _, h => by simp [PyData.eqvAll] at h
  | d :: ds, e :: es, hd, he, h => by
    simp only [PyData.eqvAll, Bool.and_eq_true] at h
    have hd' : (pln d && plnAll ds) = true := hd
    have he' : (pln e && plnAll es) = true := he
    rw [Bool.and_eq_true] at hd' he'
    rw [eqv_eq d e hd'.1 he'.1 h.1, eqv_eqs ds es hd'.2 he'.2 h.2]
end
mutual
theorem eqv_rfl : ∀ d : PyData, pln d = true → PyData.eqv d d = true
  | .int i, _ => by simp [PyData.eqv]
  | .str i, _ => by simp [PyData.eqv]
  | .list xs, h => by simp only [PyData.eqv]; exact eqv_rfls xs h
  | .tuple xs, h => by simp only [PyData.eqv]; exact eqv_rfls xs h
  | .none, h => by cases h
  | .bool _, h => by cases h
  | .dict _, h => by cases h
theorem eqv_rfls : ∀ ds : List PyData, plnAll ds = true → PyData.eqvAll ds ds = true
  | [], _ => rfl
  | d :: ds, h => by
    have h' : (pln d && plnAll ds) = true := h
    rw [Bool.and_eq_true] at h'
    simp only [PyData.eqvAll, Bool.and_eq_true]
    exact ⟨eqv_rfl d h'.1, eqv_rfls ds h'.2⟩
end
theorem TX.pln : ∀ e : TX, pln e.d = true
  | .num _ => rfl
  | .key _ => rfl
  | .op o a b => by
    show (Pz.pln (.str o) && (Pz.pln a.d && (Pz.pln b.d && true))) = true
    rw [TX.pln a, TX.pln b]; rfl
theorem Ru.pln (r : Ru) : pln r.d = true := by
  have hd : Pz.pln r.deed = true := by
    unfold Ru.deed
    cases r.a with
    | none =>
      show (true && (Pz.pln r.e.d && true)) = true
      rw [TX.pln]; rfl
    | some p =>
      show (true && (true && (Pz.pln r.e.d && true))) = true
      rw [TX.pln]; rfl
  show (Pz.pln r.t.d && (Pz.pln r.deed && (Pz.pln r.k.d && true))) = true
  rw [TX.pln, hd, TX.pln]; rfl
theorem pln_rs : ∀ rs : List Ru, plnAll (rs.map Ru.d) = true
  | [] => rfl
  | r :: rs => by
    show (Pz.pln r.d && plnAll (rs.map Ru.d)) = true
    rw [Ru.pln, pln_rs rs]; rfl
theorem TX.inj : ∀ a b : TX, a.d = b.d → a = b
  | .num n, .num m, h => by unfold TX.d at h; injection h with h; injection h with _ h; injection h with h _; injection h with h; rw [h]
  | .num n, .key m, h => by unfold TX.d at h; injection h with h; injection h with _ h; cases h
  | .num n, .op o c d, h => by unfold TX.d at h; injection h with h; injection h with _ h; injection h with _ h; cases h
  | .key n, .num m, h => by unfold TX.d at h; injection h with h; injection h with _ h; cases h
  | .key n, .key m, h => by unfold TX.d at h; injection h with h; injection h with h _; injection h with h; rw [h]
  | .key n, .op o c d, h => by unfold TX.d at h; injection h with h; injection h with _ h; cases h
  | .op o a b, .num m, h => by unfold TX.d at h; injection h with h; injection h with _ h; injection h with _ h; cases h
  | .op o a b, .key m, h => by unfold TX.d at h; injection h with h; injection h with _ h; cases h
  | .op o a b, .op o' a' b', h => by
    unfold TX.d at h
    injection h with h
    injection h with h1 h
    injection h with h2 h
    injection h with h3 _
    injection h1 with h1
    rw [h1, TX.inj a a' h2, TX.inj b b' h3]
theorem Ru.inj (r s : Ru) (h : r.d = s.d) : r = s := by
  obtain ⟨t, a, e, k⟩ := r
  obtain ⟨t', a', e', k'⟩ := s
  unfold Ru.d at h
  injection h with h
  injection h with h1 h
  injection h with h2 h
  injection h with h3 _
  have e1 := TX.inj _ _ h1
  have e3 := TX.inj _ _ h3
  dsimp only at e1 e3
  subst e1 e3
  unfold Ru.deed at h2
  cases a with
  | none =>
    cases a' with
    | none =>
      dsimp only at h2
      injection h2 with h2
      injection h2 with _ h2
      injection h2 with h2 _
      rw [TX.inj _ _ h2]
    | some p' =>
      dsimp only at h2
      injection h2 with h2
      injection h2 with _ h2
      injection h2 with _ h2
      cases h2
  | some p =>
    cases a' with
    | none =>
      dsimp only at h2
      injection h2 with h2
      injection h2 with _ h2
      injection h2 with _ h2
      cases h2
    | some p' =>
      dsimp only at h2
      injection h2 with h2
      injection h2 with _ h2
      injection h2 with hp h2
      injection h2 with h2 _
      injection hp with hp
      rw [TX.inj _ _ h2, hp]
theorem rs_inj : ∀ rs ss : List Ru, rs.map Ru.d = ss.map Ru.d → rs = ss
  | [], [], _ => rfl
  | [], _ :: _, h => by cases h
  | _ :: _, [], h => by cases h
  | r :: rs, s :: ss, h => by
    injection h with h1 h2
    rw [Ru.inj r s h1, rs_inj rs ss h2]
/-- how two tuples of rules compare -/
theorem rs_eqv (rs ss : List Ru) : PyData.eqv (.tuple (rs.map Ru.d)) (.tuple (ss.map Ru.d)) = true ↔ rs = ss := by
  refine ⟨fun h => ?_, fun h => ?_⟩
  · refine rs_inj _ _ (eqv_eqs _ _ (pln_rs _) (pln_rs _) ?_)
    simpa [PyData.eqv] using h
  · rw [h]
    exact eqv_rfl _ (pln_rs ss)
theorem rs_eqvL (rs ss : List Ru) : PyData.eqv (.list (rs.map Ru.d)) (.list (ss.map Ru.d)) = true ↔ rs = ss := by
  refine ⟨fun h => ?_, fun h => ?_⟩
  · refine rs_inj _ _ (eqv_eqs _ _ (pln_rs _) (pln_rs _) ?_)
    simpa [PyData.eqv] using h
  · rw [h]
    exact eqv_rfl _ (pln_rs ss)
/-! ### laid -/
theorem lay_name {p : Str} (h : isName p = true) : PyData.canLay0 (.str p) = true := by
  unfold isName at h
  rw [Bool.and_eq_true] at h
  have h2 := List.all_eq_true.mp h.2
  show (p.cps.all (· < 0x110000)) = true
  rw [← Array.all_toList, List.all_eq_true]
  intro c hc
  have h3 := h2 c hc
  refine decide_eq_true ?_
  rcases Bool.or_eq_true_iff.mp h3 with z | z
  · exact (by decide +kernel : ∀ c ∈ lets.cps.toList, c < 0x110000) c (of_decide_eq_true z)
  · exact (by decide +kernel : ∀ c ∈ digs.cps.toList, c < 0x110000) c (of_decide_eq_true z)
theorem lay_key : ∀ x ∈ knw, PyData.canLay0 (.str x) = true := by decide +kernel
theorem lay_op : ∀ x ∈ ops, PyData.canLay0 (.str x) = true := by decide +kernel
theorem lay_tx : ∀ {k : Nat} {e : TX}, tGood k e = true → PyData.canLay0 e.d = true ∧ PyData.depth e.d ≤ k
  | 0, _, h => by cases h
  | k + 1, .num n, _ => by
    refine ⟨?_, by simp [TX.d, PyData.depth, PyData.depthAll]⟩
    show (PyData.canLay0 (.str "number") && (true && true)) = true
    decide +kernel
  | k + 1, .key x, h => by
    refine ⟨?_, by simp [TX.d, PyData.depth, PyData.depthAll]⟩
    show (PyData.canLay0 (.str x) && true) = true
    rw [lay_key x (of_decide_eq_true h)]; rfl
  | k + 1, .op o a b, h => by
    unfold tGood at h
    rw [Bool.and_eq_true, Bool.and_eq_true] at h
    have ha := lay_tx h.1.2
    have hb := lay_tx h.2
    refine ⟨?_, ?_⟩
    · show (PyData.canLay0 (.str o) && (PyData.canLay0 a.d && (PyData.canLay0 b.d && true))) = true
      rw [lay_op o (of_decide_eq_true h.1.1), ha.1, hb.1]; rfl
    · simp only [TX.d, PyData.depth, PyData.depthAll]
      omega
theorem lay_ru {k : Nat} {r : Ru} (h : RuOk k r) : PyData.canLay0 r.d = true ∧ PyData.depth r.d ≤ k + 2 := by
  have ht := lay_tx h.t
  have he := lay_tx h.e
  have hk := lay_tx h.k
  have hd : PyData.canLay0 r.deed = true ∧ PyData.depth r.deed ≤ k + 1 := by
    unfold Ru.deed
    cases e : r.a with
    | none =>
      refine ⟨?_, ?_⟩
      · show (PyData.canLay0 (.str "say") && (PyData.canLay0 r.e.d && true)) = true
        rw [he.1, show PyData.canLay0 (.str "say") = true from by decide +kernel]; rfl
      · simp only [PyData.depth, PyData.depthAll]
        omega
    | some p =>
      refine ⟨?_, ?_⟩
      · show (PyData.canLay0 (.str "ask") && (PyData.canLay0 (.str p) && (PyData.canLay0 r.e.d && true))) = true
        rw [he.1, lay_name (h.a p e), show PyData.canLay0 (.str "ask") = true from by decide +kernel]; rfl
      · simp only [PyData.depth, PyData.depthAll]
        omega
  refine ⟨?_, ?_⟩
  · show (PyData.canLay0 r.t.d && (PyData.canLay0 r.deed && (PyData.canLay0 r.k.d && true))) = true
    rw [ht.1, hd.1, hk.1]; rfl
  · simp only [Ru.d, PyData.depth, PyData.depthAll]
    omega
theorem lay_rs {k : Nat} : ∀ {rs : List Ru}, (∀ r ∈ rs, RuOk k r) → PyData.canLayAll0 (rs.map Ru.d) = true ∧ PyData.depthAll (rs.map Ru.d) ≤ k + 2
  | [], _ => ⟨rfl, by simp [PyData.depthAll]⟩
  | r :: rs, h => by
    have a := lay_ru (h r (List.mem_cons_self ..))
    have b := lay_rs fun x hx => h x (List.mem_cons_of_mem _ hx)
    refine ⟨?_, ?_⟩
    · show (PyData.canLay0 r.d && PyData.canLayAll0 (rs.map Ru.d)) = true
      rw [a.1, b.1]; rfl
    · show max (PyData.depth r.d) (PyData.depthAll (rs.map Ru.d)) ≤ k + 2
      omega
theorem shaped_rs {k : Nat} {rs : List Ru} (hk : k ≤ 50) (h : ∀ r ∈ rs, RuOk k r) : SeqAt.shaped (.tuple (rs.map Ru.d)) = true ∧ SeqAt.shaped (.list (rs.map Ru.d)) = true := by
  have a := lay_rs h
  constructor
  · show (PyData.canLayAll0 (rs.map Ru.d) && decide (PyData.depthAll (rs.map Ru.d) + 1 ≤ 64)) = true
    rw [a.1, decide_eq_true (by omega)]
    rfl
  · show (PyData.canLayAll0 (rs.map Ru.d) && decide (PyData.depthAll (rs.map Ru.d) + 1 ≤ 64)) = true
    rw [a.1, decide_eq_true (by omega)]
    rfl
theorem RuOk.mono {k j : Nat} {r : Ru} (h : RuOk k r) (l : k ≤ j) : RuOk j r := ⟨tGood_le h.t l, tGood_le h.e l, tGood_le h.k l, h.a⟩
end Pz
set_option Elab.async false
set_option linter.all false
set_option maxRecDepth 100000
set_option maxHeartbeats 4000000
namespace Toy
open PySem L2 Mine NdefX Gm Pz
def KInv (K : PySem.W.Frag) (H : Hp) (kvs : List (Key × V)) (A : List Str) : Prop := ∀ x : Str, (x ∈ A → ∃ v, valV kvs (.inr x) = some v ∧ Dp K H v (TX.key x).d) ∧ (x ∉ A → valV kvs (.inr x) = none)
theorem KInv.add {K : PySem.W.Frag} {H : Hp} {kvs : List (Key × V)} {A : List Str} {y : Str} {v : V} (m : KInv K H kvs A) (d : Dp K H v (TX.key y).d) : KInv K H (putK kvs (.inr y) v) (A ++ [y]) := fun x => by
  have e : valV (putK kvs (.inr y) v) (.inr x) = if (Sum.inr x : Key) = .inr y then some v else valV kvs (.inr x) := valV_put kvs (.inr y) (.inr x) v
  rw [e]
  refine ⟨fun h => ?_, fun h => ?_⟩
  · by_cases c : x = y
    · rw [if_pos (by rw [c])]
      exact ⟨v, rfl, by rw [c]; exact d⟩
    · rw [if_neg (fun z => c (Sum.inr.inj z))]
      rcases List.mem_append.mp h with h | h
      · exact (m x).1 h
      · exact absurd (List.mem_singleton.mp h) c
  · have h1 : x ∉ A := fun z => h (List.mem_append_left _ z)
    have h2 : x ≠ y := fun z => h (List.mem_append_right _ (List.mem_singleton.mpr z))
    rw [if_neg (fun z => h2 (Sum.inr.inj z))]
    exact (m x).2 h1
theorem KInv.tups {K : PySem.W.Frag} {H H' : Hp} {kvs : List (Key × V)} {A : List Str} (t : Tups H H') (m : KInv K H kvs A) : KInv K H' kvs A := fun x => ⟨fun h => by
    obtain ⟨v, e, d⟩ := (m x).1 h
    exact ⟨v, e, dp_tups t _ _ (TX.nol _) d⟩, (m x).2⟩
theorem Tups.dK {H : Hp} {l : Addr} {xs : List (Key × V)} {o : HO} (h : H l = some (.dK xs)) : Tups H (upd H l o) := fun b u e k => by
  rw [upd_ne]
  · exact e
  · intro z
    subst z
    rw [h] at e
    cases e
    rcases k with ⟨_, z⟩ | ⟨_, _, z⟩ <;> cases z
def spPart (C B : Addr) (K : PySem.W.Frag) : Sp := fun vs H Q E => ∃ (p l : Addr) (ws : List Str) (i : Nat), vs = [.ref p] ∧ WAt C H p l ws i ∧ TxEnd C B K p l ws H Q E (pTx ws 7 i)
def RuEnd (C B : Addr) (K : PySem.W.Frag) (p l : Addr) (ws : List Str) (H : Hp) (Q : VK) (E : XK) : Except Nat (Ru × Nat) → Prop
  | .ok (r, j) => ∀ v H', But p H H' → WAt C H' p l ws j → Dp K H' v r.d → Q v H'
  | .error j => Ref p B H j E
def spRule (C B : Addr) (K : PySem.W.Frag) : Sp := fun vs H Q E => ∃ (p l : Addr) (ws : List Str) (i : Nat), vs = [.ref p] ∧ WAt C H p l ws i ∧ RuEnd C B K p l ws H Q E (pRule ws i)
def TacAt (C : Addr) (K : PySem.W.Frag) (H : Hp) (r : Addr) (rs : List Ru) : Prop := ∃ dx t, H r = some (.ins C dx [("rules", .ref t)]) ∧ Dp K H (.ref t) (.tuple (rs.map Ru.d))
theorem TacAt.same {C : Addr} {K : PySem.W.Frag} {H H' : Hp} {r : Addr} {rs : List Ru} (h : TacAt C K H r rs) (s : Same H H') : TacAt C K H' r rs :=
  let ⟨dx, t, e, d⟩ := h
  ⟨dx, t, s _ _ e, dp_mono s _ _ d⟩
def spTInit (C : Addr) (K : PySem.W.Frag) : Sp := fun vs H Q _ => ∃ (r dx t : Addr) (ys : List V), vs = [.ref r, .ref t] ∧ H r = some (.ins C dx []) ∧ SqT K H t ys ∧ Q .non (upd H r (.ins C dx [("rules", .ref t)]))
def spTEq (C : Addr) (K : PySem.W.Frag) : Sp := fun vs H Q _ => ∃ (a b : Addr) (rs ss : List Ru), vs = [.ref a, .ref b] ∧ TacAt C K H a rs ∧ TacAt C K H b ss ∧ (∀ r ∈ rs, RuOk 20 r) ∧ (∀ r ∈ ss, RuOk 20 r) ∧ ∀ z : Bool, (z = true ↔ rs = ss) → Q (.bl z) H
def spTac (C B : Addr) (K : PySem.W.Frag) : Sp := fun vs H Q E => ∃ x : Str, vs = [.str x] ∧ x.length ≤ 900000 ∧ (toWords x).length < 1000000 ∧ (∀ w ∈ toWords x, w.length ≤ 1000000) ∧
  match pTac (toWords x) with
  | .ok rs => ∀ r H', Same H H' → TacAt C K H' r rs → Q (.ref r) H'
  | .error j => ∀ d H', Same H H' → H' d = some (.xd [("at", .int j)]) → E (.ref B) (some d) H'
section
variable {P : Program} {w : World} {K : PySem.W.Frag} {mg : Str → Option Value} {base : Heap} {file : Str}
theorem ok_part (hP : PrF P file) (T : Txt K mg file) : FnOk P w K mg base (L2.CX P w) 14 T.a_read_part T.fd_read_part ["words"] (spPart T.C_Words T.C_BadText K) := by
  have G_read_expression : FnOk P w K mg base (L2.CX P w) 13 T.a_read_expression T.fd_read_expression ["words", "meanings", "tables", "depth"] (spTx T.C_Words T.C_BadText K 7) := ok_tx hP T 7
  refine T.F_read_part.okX sc_read_part (fun vs H Q E h => ?_) (fun cdv A outer s H vs Q E hr h => ?_)
  · obtain ⟨p, l, ws, i, rfl, _⟩ := h
    rfl
  obtain ⟨p, l, ws, i, rfl, W, q⟩ := h
  refine ⟨_, (pss_one (ps_ret (pe_call G_read_expression (hr.mono (by decide)) rfl T.g_read_expression T.k_read_expression T.db0_read_expression T.dv0_read_expression (passes_call (takes_of rfl rfl rfl rfl) (fun _ _ _ _ z => z)) (pa_cons (pv 0) (pa_cons (pe_dc (own := [("word", 1)]) (g := gName 1) (tt := tYes) rfl sc_read_part.nd (pi_tup (pe_glob (v := .ref T.a_KNOWN) rfl T.g_KNOWN rfl)) (blkOk_by (own := [("word", 1)]) (N := ["words", "word"]) (sc := defScope s_read_part) (by decide +kernel)) (fun _ _ _ _ _ => pg_name (i := 1) sc_read_part.nd rfl (Or.inl rfl)) (fun _ _ _ _ _ => pts_nil) (fun _ _ _ _ _ => (pv 1)) (fun _ _ _ _ _ => (pe_tup (pa_cons (pv 1) pa_nil)))) (pa_cons (pe_tup pa_nil) pa_nil)))))), ?_⟩
  refine ⟨_, rfl, _, rfl, ⟨_, T.q_KNOWN _⟩, fun D hD => ?_⟩
  refine dc_tup (K := K) (a := T.a_KNOWN) (xs := knw.map V.str) (fun i H' => Same H H' ∧ ∃ kvs, H' D = some (.dK kvs) ∧ kvs.length ≤ i ∧ KInv K H' kvs (knw.take i)) ⟨Gm.same_new hD _, [], upd_same, Nat.le_refl _, fun x => ⟨fun h => (by cases h), fun _ => rfl⟩⟩ (fun _ _ _ _ => T.q_KNOWN _) ?_ ?_
  · rintro i y H1 ey ⟨m1, kvs, e1, hl, inv⟩
    rw [List.getElem?_map] at ey
    obtain ⟨n, en, rfl⟩ := Option.map_eq_some_iff.mp ey
    refine ⟨rfl, ?_⟩
    refine ⟨_, rfl, _, rfl, by show 1 ≤ sizeLine; decide, fun t ht => ?_⟩
    have hi : i < 3 := Nat.lt_of_not_le fun z => by rw [List.getElem?_eq_none z] at en; cases en
    have m2 := Gm.same_new ht (.tup [V.str n])
    have e2 := m2 _ _ e1
    refine ⟨kvs, .inr n, rfl, e2, Nat.lt_of_le_of_lt hl (Nat.lt_of_lt_of_le hi (by decide)), ?_, _, upd_same, ?_, ?_⟩
    · intro b o e
      rw [upd_ne (ne_of_none e hD)]
      exact m2 _ _ (m1 _ _ e)
    · have := length_putK kvs (.inr n) (.ref t)
      omega
    · rw [take_more en]
      have tp := Tups.dK e2 (o := .dK (putK kvs (.inr n) (.ref t)))
      refine KInv.tups tp (KInv.add (KInv.tups (Tups.of m2) inv) ?_)
      exact dp_tup ht (.cons (.str _) .nil)
  · rintro H1 ⟨m1, kvs, e1, hl, inv⟩
    refine ⟨by show 0 ≤ sizeLine; decide, fun t ht => ?_⟩
    have m2 := Gm.same_new ht (.tup [])
    have m := m1.trans m2
    refine ⟨p, l, D, t, ws, i, rfl, W.same m, ⟨kvs, m2 _ _ e1, KInv.tups (Tups.of m2) inv⟩, SqT.of upd_same, ?_⟩
    cases x : pTx ws 7 i with
    | error j =>
      rw [x] at q
      exact Ref.later q (But.same m)
    | ok r =>
      obtain ⟨e, j⟩ := r
      rw [x] at q
      exact fun v H' b W' d => q v H' ((But.same m).trans b) W' d
theorem ok_rule (hP : PrF P file) (T : Txt K mg file) : FnOk P w K mg base (L2.CX P w) 15 T.a_read_rule T.fd_read_rule ["words"] (spRule T.C_Words T.C_BadText K) := by
  have G_read_part : FnOk P w K mg base (L2.CX P w) 14 T.a_read_part T.fd_read_part ["words"] (spPart T.C_Words T.C_BadText K) := ok_part hP T
  have G_Words_one_of : FnOk P w K mg base (L2.CX P w) 5 T.a_Words_one_of T.fd_Words_one_of ["self", "choices"] (spOneOf T.C_Words T.C_BadText K) := ok_one_of hP T
  have G_Words_name : FnOk P w K mg base (L2.CX P w) 5 T.a_Words_name T.fd_Words_name ["self", "taken"] (spName T.C_Words T.C_BadText K) := ok_name hP T
  refine T.F_read_rule.okX sc_read_rule (fun vs H Q E h => ?_) (fun cdv A outer s H vs Q E hr h => ?_)
  · obtain ⟨p, l, ws, i, rfl, _⟩ := h
    rfl
  obtain ⟨p, l, ws, i, rfl, W, q⟩ := h
  refine ⟨_, (pss_cons (ps_set (i := 1) sc_read_rule.nd rfl (Or.inl rfl) (pe_call G_read_part (hr.mono (by decide)) rfl T.g_read_part T.k_read_part T.b_read_part .nil (passes_call (takes_of rfl rfl rfl rfl) (fun _ _ _ _ z => z)) (pa_cons (pv 0) pa_nil)))
    (pss_cons (ps_set (i := 2) sc_read_rule.nd rfl (Or.inl rfl) (pe_meth (pv 0) T.cl_Words T.m_Words_one_of G_Words_one_of (hr.mono (by decide)) T.b_Words_one_of .nil (passes_call (takes_of rfl rfl rfl rfl) (fun _ _ _ _ z => z)) (pa_cons (pe_tup (pa_cons pe_str (pa_cons pe_str pa_nil))) pa_nil)))
    (pss_cons (ps_set (i := 3) sc_read_rule.nd rfl (Or.inl rfl) (pe_ifExp (pt_cmpR op_eq (pv 2) pe_str (nomark _)) (pe_lst (pa_cons (pe_meth0 (pv 0) T.cl_Words T.m_Words_name G_Words_name (hr.mono (by decide)) T.db0_Words_name T.dv0_Words_name (passes_call (takes_of rfl rfl rfl rfl) (fun _ _ _ _ z => z))) pa_nil)) (pe_lst pa_nil)))
    (pss_cons (ps_set (i := 4) sc_read_rule.nd rfl (Or.inl rfl) (pe_tup (pa_cons (pv 2) (StX.pa_star (pv 3) (pa_cons (pe_call G_read_part (hr.mono (by decide)) rfl T.g_read_part T.k_read_part T.b_read_part .nil (passes_call (takes_of rfl rfl rfl rfl) (fun _ _ _ _ z => z)) (pa_cons (pv 0) pa_nil)) pa_nil)))))
    (pss_one (ps_ret (pe_tup (pa_cons (pv 1) (pa_cons (pv 4) (pa_cons (pe_call G_read_part (hr.mono (by decide)) rfl T.g_read_part T.k_read_part T.b_read_part .nil (passes_call (takes_of rfl rfl rfl rfl) (fun _ _ _ _ z => z)) (pa_cons (pv 0) pa_nil)) pa_nil)))))))))), ?_⟩
  unfold pRule at q
  refine ⟨_, rfl, p, l, ws, i, rfl, W, ?_⟩
  cases x1 : pTx ws 7 i with
  | error j =>
    rw [x1] at q
    exact q
  | ok y =>
  obtain ⟨tt, j1⟩ := y
  rw [x1] at q
  dsimp only at q
  intro v1 H1 b1 W1 d1
  obtain ⟨dx, fs, e1, e2⟩ := W1.nomt (m := "one_of")
  refine ⟨_, rfl, p, dx, fs, rfl, e1, e2, by show 2 ≤ sizeLine; decide, fun t ht => ?_⟩
  have m2 := Gm.same_new ht (.tup [V.str "ask", V.str "say"])
  have W2 := W1.same m2
  have b2 : But p H _ := b1.trans (But.same m2)
  have d2 := dp_mono m2 _ _ d1
  have hT2 : SqT K (upd H1 t (.tup [V.str "ask", V.str "say"])) t ((["ask", "say"] : List Str).map V.str) := SqT.of upd_same
  revert W2 b2 d2 hT2
  clear m2
  generalize upd H1 t (.tup [V.str "ask", V.str "say"]) = H2
  intro W2 b2 d2 hT2
  unfold pDeed at q
  refine ⟨p, l, ws, j1, .ref t, ["ask", "say"], rfl, W2, ⟨t, rfl, .inr (.inl hT2)⟩, by decide +kernel, ?_⟩
  unfold Tk1
  by_cases ca : wd ws j1 = "ask"
  · rw [if_pos ca] at q
    rw [if_pos (decide_eq_true (show wd ws j1 ∈ (["ask", "say"] : List Str) by rw [ca]; exact List.mem_cons_self ..)), ca]
    intro H3 b23 W3
    obtain ⟨dx3, fs3, f1, f2⟩ := W3.nomt (m := "name")
    refine ⟨_, rfl, rfl, _, rfl, iteT ?_⟩
    have b3 := b2.trans b23
    have d3 := dp_tups (W2.tups b23) _ _ (TX.nol _) d2
    refine ⟨_, rfl, p, dx3, fs3, rfl, f1, f2, p, l, ws, j1 + 1, T.te0_Words_name, [], rfl, W3, .inr (T.qe0_Words_name _), ?_⟩
    unfold Tk1
    rw [show decide (wd ws (j1 + 1) ∈ ([] : List Str)) = false from rfl, Bool.not_false, Bool.and_true]
    by_cases cn : isName (wd ws (j1 + 1)) = true
    rotate_left
    · rw [if_neg cn] at q
      rw [if_neg cn]
      exact Ref.later q b3
    rw [if_pos cn] at q
    rw [if_pos cn]
    dsimp only at q
    intro H3' b33 W3'
    have b3' := b3.trans b33
    have d3' := dp_tups (W3.tups b33) _ _ (TX.nol _) d3
    refine ⟨by show 1 ≤ sizeLine; decide, fun L hL => ?_⟩

    -- the rest, from the list [V.str (wd ws (j1 + 1))] of what is named
    have hi3 : ∀ {b : Addr} {o : HO}, H3' b = some o → b ≠ L := fun e => ne_of_none e hL
    have m4 := Gm.same_new hL (.lst ([V.str (wd ws (j1 + 1))]))
    have W4 := W3'.same m4
    have b4 := b3'.trans (But.same m4)
    have d4 := dp_mono m4 _ _ d3'
    have hL4 : (upd H3' L (.lst ([V.str (wd ws (j1 + 1))]))) L = some (.lst ([V.str (wd ws (j1 + 1))])) := upd_same
    revert W4 b4 d4 hL4
    clear m4 hi3
    generalize upd H3' L (.lst ([V.str (wd ws (j1 + 1))])) = H4
    intro W4 b4 d4 hL4
    refine ⟨_, rfl, _, rfl, L, _, rfl, .inr (SqL.of hL4), _, rfl, p, l, ws, j1 + 1 + 1, rfl, W4, ?_⟩
    cases x3 : pTx ws 7 (j1 + 1 + 1) with
    | error j =>
      rw [x3] at q
      exact Ref.later q b4
    | ok y =>
    obtain ⟨ee, j3⟩ := y
    rw [x3] at q
    dsimp only at q
    intro v2 H5 b5 W5 d5
    have d45 := dp_tups (W4.tups b5) _ _ (TX.nol _) d4
    refine ⟨by show 3 ≤ sizeLine; decide, fun t2 ht2 => ?_⟩
    have m6 := Gm.same_new ht2 (.tup (V.str "ask" :: ([V.str (wd ws (j1 + 1))] ++ [v2])))
    have dd : Dp K (upd H5 t2 (.tup (V.str "ask" :: ([V.str (wd ws (j1 + 1))] ++ [v2])))) (.ref t2) (.tuple [.str "ask", .str (wd ws (j1 + 1)), ee.d]) := dp_tup ht2 (.cons (.str _) (.cons (.str _) (.cons d5 .nil)))
    have W6 := W5.same m6
    have b6 := (b4.trans b5).trans (But.same m6)
    have d6 := dp_mono m6 _ _ d45
    revert W6 b6 d6 dd
    clear m6
    generalize upd H5 t2 (.tup (V.str "ask" :: ([V.str (wd ws (j1 + 1))] ++ [v2]))) = H6
    intro dd W6 b6 d6
    refine ⟨_, rfl, _, rfl, _, rfl, p, l, ws, j3, rfl, W6, ?_⟩
    cases x4 : pTx ws 7 j3 with
    | error j =>
      rw [x4] at q
      exact Ref.later q b6
    | ok y =>
    obtain ⟨kk, j4⟩ := y
    rw [x4] at q
    dsimp only at q
    intro v3 H7 b7 W7 d7
    have t67 := W6.tups b7
    refine ⟨by show 3 ≤ sizeLine; decide, fun t3 ht3 => ?_⟩
    refine q _ _ ((b6.trans b7).trans (But.same (Gm.same_new ht3 _))) (W7.same (Gm.same_new ht3 _)) ?_
    exact dp_tup ht3 (.cons (dp_tups t67 _ _ (TX.nol _) d6) (.cons (dp_tups t67 _ _ (Ru.nol_deed ⟨tt, some (wd ws (j1 + 1)), ee, kk⟩) dd) (.cons d7 .nil)))

  · rw [if_neg ca] at q
    by_cases cs : wd ws j1 = "say"
    rotate_left
    · rw [if_neg cs] at q
      rw [if_neg (by
        intro z
        have := of_decide_eq_true z
        simp only [List.mem_cons, List.not_mem_nil, or_false] at this
        exact this.elim ca cs)]
      exact Ref.later q b2
    rw [if_pos cs] at q
    dsimp only at q
    rw [if_pos (decide_eq_true (show wd ws j1 ∈ (["ask", "say"] : List Str) by rw [cs]; exact List.mem_cons_of_mem _ (List.mem_cons_self ..))), cs]
    intro H3 b23 W3
    refine ⟨_, rfl, rfl, _, rfl, iteF ?_⟩
    have b3 := b2.trans b23
    have d3 := dp_tups (W2.tups b23) _ _ (TX.nol _) d2
    refine ⟨by show 0 ≤ sizeLine; decide, fun L hL => ?_⟩

    -- the rest, from the list ([] : List V) of what is named
    have hi3 : ∀ {b : Addr} {o : HO}, H3 b = some o → b ≠ L := fun e => ne_of_none e hL
    have m4 := Gm.same_new hL (.lst (([] : List V)))
    have W4 := W3.same m4
    have b4 := b3.trans (But.same m4)
    have d4 := dp_mono m4 _ _ d3
    have hL4 : (upd H3 L (.lst (([] : List V)))) L = some (.lst (([] : List V))) := upd_same
    revert W4 b4 d4 hL4
    clear m4 hi3
    generalize upd H3 L (.lst (([] : List V))) = H4
    intro W4 b4 d4 hL4
    refine ⟨_, rfl, _, rfl, L, _, rfl, .inr (SqL.of hL4), _, rfl, p, l, ws, j1 + 1, rfl, W4, ?_⟩
    cases x3 : pTx ws 7 (j1 + 1) with
    | error j =>
      rw [x3] at q
      exact Ref.later q b4
    | ok y =>
    obtain ⟨ee, j3⟩ := y
    rw [x3] at q
    dsimp only at q
    intro v2 H5 b5 W5 d5
    have d45 := dp_tups (W4.tups b5) _ _ (TX.nol _) d4
    refine ⟨by show 2 ≤ sizeLine; decide, fun t2 ht2 => ?_⟩
    have m6 := Gm.same_new ht2 (.tup (V.str "say" :: ([] ++ [v2])))
    have dd : Dp K (upd H5 t2 (.tup (V.str "say" :: ([] ++ [v2])))) (.ref t2) (.tuple [.str "say", ee.d]) := dp_tup ht2 (.cons (.str _) (.cons d5 .nil))
    have W6 := W5.same m6
    have b6 := (b4.trans b5).trans (But.same m6)
    have d6 := dp_mono m6 _ _ d45
    revert W6 b6 d6 dd
    clear m6
    generalize upd H5 t2 (.tup (V.str "say" :: ([] ++ [v2]))) = H6
    intro dd W6 b6 d6
    refine ⟨_, rfl, _, rfl, _, rfl, p, l, ws, j3, rfl, W6, ?_⟩
    cases x4 : pTx ws 7 j3 with
    | error j =>
      rw [x4] at q
      exact Ref.later q b6
    | ok y =>
    obtain ⟨kk, j4⟩ := y
    rw [x4] at q
    dsimp only at q
    intro v3 H7 b7 W7 d7
    have t67 := W6.tups b7
    refine ⟨by show 3 ≤ sizeLine; decide, fun t3 ht3 => ?_⟩
    refine q _ _ ((b6.trans b7).trans (But.same (Gm.same_new ht3 _))) (W7.same (Gm.same_new ht3 _)) ?_
    exact dp_tup ht3 (.cons (dp_tups t67 _ _ (TX.nol _) d6) (.cons (dp_tups t67 _ _ (Ru.nol_deed ⟨tt, none, ee, kk⟩) dd) (.cons d7 .nil)))
end
end Toy
set_option Elab.async false
set_option linter.all false
set_option maxRecDepth 100000
set_option maxHeartbeats 4000000
namespace Toy
open PySem L2 Mine NdefX Gm Pz
section
variable {P : Program} {w : World} {K : PySem.W.Frag} {mg : Str → Option Value} {base : Heap} {file : Str}
theorem ok_tinit (T : Txt K mg file) : FnOk P w K mg base CX0 1 T.a_Tactic_init T.fd_Tactic_init ["self", "rules"] (spTInit T.C_Tactic K) := by
  refine T.F_Tactic_init.ok sc_Tactic_init (fun vs H Q E h => ?_) (fun cdv A outer s H vs Q E hr h => ?_)
  · obtain ⟨r, dx, t, ys, rfl, _⟩ := h
    rfl
  obtain ⟨r, dx, t, ys, rfl, hr', ht, q⟩ := h
  refine ⟨_, (pss_one (ps_fld (pv 0) (pe_callTy call_tupleT (by rfl) T.z_tuple (by decide +kernel) (pa_cons (pv 1) pa_nil)) rfl)), ?_⟩
  exact ⟨_, rfl, t, ys, rfl, ht, _, rfl, r, _, dx, _, rfl, hr', T.cl_Tactic, T.na_Tactic_rules, (by show 0 < 1000; decide), q⟩
theorem ok_teq (T : Txt K mg file) : FnOk P w K mg base CX0 1 T.a_Tactic_eq T.fd_Tactic_eq ["self", "other"] (spTEq T.C_Tactic K) := by
  refine T.F_Tactic_eq.ok sc_Tactic_eq (fun vs H Q E h => ?_) (fun cdv A outer s H vs Q E hr h => ?_)
  · obtain ⟨a, b, rs, ss, rfl, _⟩ := h
    rfl
  obtain ⟨a, b, rs, ss, rfl, ⟨da, ta, ha, ea⟩, ⟨db, tb, hb, eb⟩, ga, gb, q⟩ := h
  refine ⟨_, (pss_one (ps_ret (pe_and (pe_callB call_isi (by rfl) T.z_isinstance (by decide +kernel) (pa_cons (pv 1) (pa_cons (pe_glob (v := .ref T.C_Tactic) rfl T.g_Tactic rfl) pa_nil))) (pe_one (pe_cmpR (op_eqD hr.units) (pe_fld (pv 0) rfl) (pe_fld (pv 1) rfl) (nomark _)))))), ?_⟩
  refine ⟨_, rfl, _, _, _, _, true, rfl, .own _, .base (.ins hb T.cl_Tactic T.ia_Tactic T.o_n T.o_t T.im_Tactic), T.ik_Tactic, true, rfl, iteT ?_⟩
  refine ⟨_, rfl, a, _, da, _, _, rfl, ha, T.cl_Tactic, T.na_Tactic_rules, rfl, _, rfl, b, _, db, _, _, rfl, hb, T.cl_Tactic, T.na_Tactic_rules, rfl, ?_⟩
  exact ⟨_, _, ea, eb, (shaped_rs (by decide) ga).1, (shaped_rs (by decide) gb).1, q _ (rs_eqv rs ss)⟩
theorem tac_read (hP : PrF P file) (T : Txt K mg file) : FnOk P w K mg base (L2.CX P w) 16 T.a_read_tactic T.fd_read_tactic ["text"] (spTac T.C_Tactic T.C_BadText K) := by
  have G_Words_init : FnOk P w K mg base CX0 2 T.a_Words_init T.fd_Words_init ["self", "text"] (spWords T.C_Words) := ok_Words T
  have G_Words_ahead : FnOk P w K mg base CX0 2 T.a_Words_ahead T.fd_Words_ahead ["self"] (spAhead T.C_Words) := ok_ahead T
  have G_Words_take : FnOk P w K mg base CX0 3 T.a_Words_take T.fd_Words_take ["self"] (spTake T.C_Words) := ok_take T
  have G_read_rule : FnOk P w K mg base (L2.CX P w) 15 T.a_read_rule T.fd_read_rule ["words"] (spRule T.C_Words T.C_BadText K) := ok_rule hP T
  have G_Words_finish : FnOk P w K mg base (L2.CX P w) 5 T.a_Words_finish T.fd_Words_finish ["self"] (spFinish T.C_Words T.C_BadText) := ok_finish hP T
  have G_Tactic_init : FnOk P w K mg base CX0 1 T.a_Tactic_init T.fd_Tactic_init ["self", "rules"] (spTInit T.C_Tactic K) := ok_tinit T
  refine T.F_read_tactic.okX sc_read_tactic (fun vs H Q E h => ?_) (fun cdv A outer s H vs Q E hr h => ?_)
  · obtain ⟨x, rfl, _⟩ := h
    rfl
  obtain ⟨x, rfl, hx, hs, hw, q⟩ := h
  refine ⟨_, (pss_cons (ps_set (i := 1) sc_read_tactic.nd rfl (Or.inl rfl) (pe_make T.mk_Words G_Words_init (hr.mono (by decide)) rfl T.g_Words T.b_Words_init .nil pass0 (pa_cons (pv 0) pa_nil)))
    (pss_cons (ps_set (i := 2) sc_read_tactic.nd rfl (Or.inl rfl) (pe_lst pa_nil))
    (pss_cons (ps_while (passes_of rfl) (PW.pt (pw_and (pt_cmpR op_eq (pe_meth0 (pv 1) T.cl_Words T.m_Words_ahead G_Words_ahead (hr.mono (by decide)) T.b_Words_ahead .nil pass0) pe_str (nomark _)) (pw_and1 (pt_cmpR op_lt (pe_callB call_len_seq (by rfl) T.z_len (by decide +kernel) (pa_cons (pv 2) pa_nil)) (pe_glob (v := .int 20) rfl T.g_MOST_RULES.choose_spec ⟨_, rfl⟩) (nomark _)))))
      (pss_cons (ps_expr (pe_meth0 (pv 1) T.cl_Words T.m_Words_take G_Words_take (hr.mono (by decide)) T.b_Words_take .nil pass0))
    (pss_one (ps_expr (pe_bm PySem.F.plainAttrs_list PySem.F.slot_list_append PySem.F.type_list_append mt_append (pv 2) (pa_cons (pe_call G_read_rule (hr.mono (by decide)) rfl T.g_read_rule T.k_read_rule T.b_read_rule .nil (passes_call (takes_of rfl rfl rfl rfl) (fun _ _ _ _ z => z)) (pa_cons (pv 1) pa_nil)) pa_nil))))))
    (pss_cons (ps_expr (pe_meth0 (pv 1) T.cl_Words T.m_Words_finish G_Words_finish (hr.mono (by decide)) T.b_Words_finish .nil (passes_call (takes_of rfl rfl rfl rfl) (fun _ _ _ _ z => z))))
    (pss_one (ps_ret (pe_make T.mk_Tactic G_Tactic_init (hr.mono (by decide)) rfl T.g_Tactic T.b_Tactic_init .nil pass0 (pa_cons (pe_callTy call_tuple_of (by rfl) T.z_tuple (by decide +kernel) (pa_cons (pv 2) pa_nil)) pa_nil)))))))), ?_⟩
  refine ⟨_, rfl, fun p dx hp hdx ne => ⟨p, dx, x, rfl, upd_same, hx, hs, hw, fun l H1 b1 W1 => ⟨rfl, ?_⟩⟩⟩
  generalize toWords x = ws at q W1
  have S1 : Same H H1 := fun b o e => b1 _ _ (by rw [upd_ne (ne_of_none e hp), upd_ne (ne_of_none e hdx)]; exact e) (ne_of_none e hp)
  have S : ∀ {H' : Hp}, But p H1 H' → Same H H' := fun {H'} bb => But.all hp S1 bb
  refine ⟨by show 0 ≤ sizeLine; decide, fun L hL => ?_⟩
  have neL : p ≠ L := fun z => by
    obtain ⟨_, _, e, _⟩ := W1.ob
    rw [z, hL] at e
    cases e
  have neLl : l ≠ L := fun z => by
    have h1 := W1.li
    rw [z, hL] at h1
    cases h1
  have m0 := Gm.same_new hL (.lst [])
  unfold pTac at q
  generalize hR : pRules ws 20 [] 0 = R at q
  have ref : ∀ {H' : Hp} {j : Nat}, But p H1 H' → R = .error j → Ref p T.C_BadText H' j E := fun {H' j} bb e d H2 b2 hd => by
    rw [e] at q
    exact q d H2 (S (bb.trans b2)) hd
  refine ⟨fun m σ H' => ∃ (vs : List V) (rs : List Ru) (j : Nat), σ = [some (.str x), some (.ref p), some (.ref L)] ∧ But p H1 H' ∧ WAt T.C_Words H' p l ws j ∧ H' L = some (.lst vs) ∧ DpAll K H' vs (rs.map Ru.d) ∧ rs.length + m = 20 ∧
      pRules ws m rs j = R, ⟨20, [], [], 0, rfl, But.same m0, W1.same m0, upd_same, .nil, rfl, hR⟩, ?_⟩
  rintro m σ H2 ⟨vs, rs, j, rfl, b2, W2, hL2, dd, hm, eq⟩
  have lv : vs.length = rs.length := (DpAll.len dd).trans (List.length_map _)
  obtain ⟨dx2, fs2, e1, e2⟩ := W2.nomt (m := "ahead")
  refine ⟨_, rfl, p, dx2, fs2, rfl, e1, e2, p, l, ws, j, rfl, W2, rfl, _, rfl, ?_⟩
  refine (fun (k : ¬ (wd ws j = "when" ∧ vs.length < 20) → _) => ite2 (fun c1 => ?_) (fun c1 => iteF (k fun z => c1 (decide_eq_true (congrArg V.str z.1))))) ?_
  · have c1' : wd ws j = "when" := V.str.inj (of_decide_eq_true c1)
    refine ⟨_, rfl, L, vs, rfl, .inl (SqL.of hL2), _, _, rfl, rfl, _, rfl, ?_⟩
    refine ite2 (fun c2 => ?_) (fun c2 => ?_)
    rotate_left
    · exact k fun z => c2 (decide_eq_true (by have := z.2; omega))
    have c2' : vs.length < 20 := by have := of_decide_eq_true c2; omega
    obtain ⟨n, rfl⟩ : ∃ n, m = n + 1 := ⟨m - 1, by omega⟩
    unfold pRules at eq
    rw [if_pos c1'] at eq
    refine ⟨fun σ H' => ∃ (vs : List V) (rs : List Ru) (j : Nat), σ = [some (.str x), some (.ref p), some (.ref L)] ∧ But p H1 H' ∧ WAt T.C_Words H' p l ws j ∧ H' L = some (.lst vs) ∧ DpAll K H' vs (rs.map Ru.d) ∧ rs.length + n = 20 ∧
      pRules ws n rs j = R, fun σ' H' h => ⟨n, Nat.lt_succ_self n, h⟩, ?_⟩
    obtain ⟨dx3, fs3, f1, f2⟩ := W2.nomt (m := "take")
    refine ⟨_, rfl, p, dx3, fs3, rfl, f1, f2, p, l, ws, j, rfl, W2, W2.lt_of (by rw [c1']; decide +kernel), fun H3 b3 W3 => ?_⟩
    have hL3 := b3 _ _ hL2 (Ne.symm neL)
    have dd3 := dp_tupsAll (W2.tups b3) _ _ (nolAll_rs rs) dd
    refine ⟨_, rfl, .inl ⟨rfl, _, SqL.of hL3⟩, _, rfl, p, l, ws, j + 1, rfl, W3, ?_⟩
    cases x1 : pRule ws (j + 1) with
    | error y =>
      rw [x1] at eq
      exact ref (b2.trans b3) eq.symm
    | ok y =>
    obtain ⟨r, j2⟩ := y
    rw [x1] at eq
    dsimp only at eq
    intro v H4 b4 W4 d4
    have hL4 := b4 _ _ hL3 (Ne.symm neL)
    have dd4 := dp_tupsAll (W3.tups b4) _ _ (nolAll_rs rs) dd3
    have tp := Tups.lst hL4 (o := .lst (vs ++ [v]))
    refine ⟨L, vs, v, rfl, rfl, hL4, Nat.lt_of_lt_of_le c2' (by decide), vs ++ [v], rs ++ [r], j2, rfl, fun b o e nb => ?_, ?_, upd_same, ?_, ?_, eq⟩
    · by_cases hb : b = L
      · rw [hb, hL] at e
        cases e
      · rw [upd_ne hb]
        exact ((b2.trans b3).trans b4) b o e nb
    · obtain ⟨dx9, fs9, e9, rest⟩ := W4.ob
      exact ⟨⟨dx9, fs9, by rw [upd_ne neL]; exact e9, rest⟩, by rw [upd_ne neLl]; exact W4.li, W4.le, W4.sz, W4.wl⟩
    · rw [List.map_append]
      exact DpAll.app (dp_tupsAll tp _ _ (nolAll_rs rs) dd4) (.cons (dp_tups tp _ _ (Ru.nol r) d4) .nil)
    · rw [List.length_append]
      show rs.length + 1 + n = 20
      omega
  · intro nk
    have hb : pRules ws m rs j = .ok (rs, j) := by
      cases m with
      | zero => unfold pRules; rfl
      | succ n =>
        unfold pRules
        rw [if_neg (fun z => nk ⟨z, by omega⟩)]
    rw [← eq, hb] at q
    dsimp only at q
    obtain ⟨dx3, fs3, f1, f2⟩ := W2.nomt (m := "finish")
    refine ⟨_, rfl, p, dx3, fs3, rfl, f1, f2, p, l, ws, j, rfl, W2, ?_⟩
    by_cases c : j = ws.length
    rotate_left
    · rw [if_neg c] at q
      rw [if_neg c]
      exact fun d H3 b3 hd => q d H3 (S (b2.trans b3)) hd
    rw [if_pos c] at q
    rw [if_pos c]
    refine ⟨_, rfl, L, vs, rfl, .inl ⟨SqL.of hL2, fun t ht => ?_⟩⟩
    have m3 := Gm.same_new ht (.tup vs)
    have dt : Dp K (upd H2 t (.tup vs)) (.ref t) (.tuple (rs.map Ru.d)) := dp_tup ht dd
    have St : Same H (upd H2 t (.tup vs)) := (S b2).trans m3
    have ht' : SqT K (upd H2 t (.tup vs)) t vs := SqT.of upd_same
    revert St dt ht'
    generalize upd H2 t (.tup vs) = H3
    intro dt St ht'
    refine fun r dr hr' hdr nr => ⟨r, dr, t, vs, rfl, upd_same, sqT_mono (same_make hr' hdr) ht', ⟨rfl, ?_⟩⟩
    refine q r _ (St.trans fun b o e => ?_) ⟨dr, t, upd_same, ?_⟩
    · rw [upd_ne (ne_of_none e hr')]
      exact same_make hr' hdr b o e
    · refine dp_mono (fun b o e => ?_) _ _ dt
      rw [upd_ne (ne_of_none e hr')]
      exact same_make hr' hdr b o e
end
end Toy
set_option Elab.async false
set_option linter.all false
set_option maxRecDepth 100000
set_option maxHeartbeats 4000000
namespace Toy
open PySem L2 Mine NdefX Gm Pz
theorem ds_str (x y : Str) : decide (V.str x = V.str y) = decide (x = y) := decide_eq_decide.mpr ⟨V.str.inj, congrArg V.str⟩
theorem none_of_same {H H' : Hp} {p : Addr} (m : Same H H') (h : H' p = none) : H p = none := by
  cases x : H p with
  | none => rfl
  | some o => rw [m _ _ x] at h; cases h
def spTW (K : PySem.W.Frag) (k : Nat) : Sp := fun vs H Q _ => ∃ (v : V) (e : TX), vs = [v] ∧ Dp K H v e.d ∧ tGood k e = true ∧ (tWords e).length ≤ 1000000 ∧ NewL H Q (tWords e)
def rsText (rs : List Ru) : Str := Txt.join " " (rsWords rs)
def spTText (C : Addr) (K : PySem.W.Frag) : Sp := fun vs H Q _ => ∃ (r : Addr) (rs : List Ru), vs = [.ref r] ∧ TacAt C K H r rs ∧ (∀ x ∈ rs, RuOk 8 x) ∧ (rsWords rs).length ≤ 1000000 ∧ ((rsWords rs).map (·.length)).sum ≤ 10000000 ∧ ∀ H', Same H H' → Q (.str (rsText rs)) H'
theorem flatMap_take {α β : Type} {f : α → List β} {xs : List α} {i : Nat} {x : α} (h : xs[i]? = some x) : (xs.take (i + 1)).flatMap f = (xs.take i).flatMap f ++ f x := by
  rw [take_more h, List.flatMap_append]
  simp
theorem flatMap_len {α β : Type} {f : α → List β} : ∀ {xs : List α} {i : Nat}, ((xs.take i).flatMap f).length ≤ (xs.flatMap f).length
  | [], _ => by simp
  | x :: xs, 0 => by simp
  | x :: xs, i + 1 => by
    have := flatMap_len (f := f) (xs := xs) (i := i)
    simp only [List.take_succ_cons, List.flatMap_cons, List.length_append]
    omega
theorem flatMap_one {α β : Type} {f : α → List β} {xs : List α} {i : Nat} {x : α} (h : xs[i]? = some x) : ((xs.take i).flatMap f).length + (f x).length ≤ (xs.flatMap f).length := by
  rw [← List.length_append, ← flatMap_take h]
  exact flatMap_len
theorem cut_mid (x y : V) (xs : List V) : cutV (x :: xs ++ [y]) (some 1) (some (-1)) = xs := by
  have e1 : HT.sIx (x :: xs ++ [y]).length 0 (some 1) = 1 := by
    have : ¬ ((1 : Int) < 0) := by decide
    simp [HT.sIx]
  have e2 : HT.sIx (x :: xs ++ [y]).length (x :: xs ++ [y]).length (some (-1)) = xs.length + 1 := by
    have : ((-1 : Int) < 0) := by decide
    simp [HT.sIx]
    omega
  unfold cutV
  rw [e1, e2]
  simp
theorem atI_last (xs : List V) (v : V) : atI (xs ++ [v]) (-1) = some v := by
  have e : ixN (xs ++ [v]).length (-1) = some xs.length := by
    unfold ixN
    rw [if_neg (by decide), List.length_append]
    simp
    omega
  unfold atI
  rw [e]
  simp
section
variable {P : Program} {w : World} {K : PySem.W.Frag} {mg : Str → Option Value} {base : Heap} {file : Str}
theorem ok_tw_step (T : Txt K mg file) (k : Nat) (sp0 : Sp) (G_expression_words : FnOk P w K mg base CX0 (k + 1) T.a_expression_words T.fd_expression_words ["expression"] sp0) (hsp : ∀ j, k = j + 1 → ∀ vs H Q E, spTW K j vs H Q E → sp0 vs H Q E) :
    FnOk P w K mg base CX0 (k + 2) T.a_expression_words T.fd_expression_words ["expression"] (spTW K k) := by
  refine T.F_expression_words.ok sc_expression_words (fun vs H Q E h => ?_) (fun cdv A outer s H vs Q E hr h => ?_)
  · obtain ⟨v, e, rfl, _⟩ := h
    rfl
  obtain ⟨v, e, rfl, d, g, hl, q⟩ := h
  refine ⟨_, (pss_cons (ps_set (i := 1) sc_expression_words.nd rfl (Or.inl rfl) (pe_ix ix_tup (pv 0) pe_int (fun _ _ => rfl)))
    (pss_cons (ps_if (pt_cmpR op_eq (pe_callB call_len_seq (by rfl) T.z_len (by decide +kernel) (pa_cons (pv 0) pa_nil)) pe_int (nomark _))
      (pss_one (ps_ret (pe_lst (pa_cons (pv 1) pa_nil))))
      pss_nil)
    (pss_cons (ps_if (pt_cmpR op_eq (pv 1) pe_str (nomark _))
      (pss_one (ps_ret (pe_lst (pa_cons (pe_callTy call_str_int (by rfl) T.z_str (by decide +kernel) (pa_cons (pe_ix ix_tup (pv 0) pe_int (fun _ _ => rfl)) pa_nil)) pa_nil))))
      pss_nil)
    (pss_cons (ps_if (pt_cmpR op_in_seq (pv 1) (pe_tup (pa_cons pe_str (pa_cons pe_str pa_nil))) rfl)
      (pss_one (ps_ret (pe_lst (pa_cons (pe_ix ix_tup (pv 0) pe_int (fun _ _ => rfl)) pa_nil))))
      pss_nil)
    (pss_cons (ps_if (pt_cmpR op_in_seq (pv 1) (pe_glob (v := .ref T.a_LOOKS) rfl T.g_LOOKS rfl) rfl)
      (pss_one (ps_ret (pe_lst (pa_cons (pv 1) (pa_cons (pe_ix ix_tup (pv 0) pe_int (fun _ _ => rfl)) (StX.pa_star (pe_call G_expression_words (hr.mono (by omega)) rfl T.g_expression_words T.k_expression_words T.b_expression_words .nil pass0 (pa_cons (pe_ix ix_tup (pv 0) pe_int (fun _ _ => rfl)) pa_nil)) pa_nil))))))
      pss_nil)
    (pss_one (ps_ret (pe_lst (pa_cons (pv 1) (StX.pa_star (pe_call G_expression_words (hr.mono (by omega)) rfl T.g_expression_words T.k_expression_words T.b_expression_words .nil pass0 (pa_cons (pe_ix ix_tup (pv 0) pe_int (fun _ _ => rfl)) pa_nil)) (StX.pa_star (pe_call G_expression_words (hr.mono (by omega)) rfl T.g_expression_words T.k_expression_words T.b_expression_words .nil pass0 (pa_cons (pe_ix ix_tup (pv 0) pe_int (fun _ _ => rfl)) pa_nil)) pa_nil))))))))))), ?_⟩
  have one : ∀ (x : Str) (H1 : Hp), Same H H1 → tWords e = [x] → ∀ p, H1 p = none → Q (.ref p) (upd H1 p (.lst [V.str x])) := fun x H1 m ee p hp => by
    rw [ee] at q
    exact (q.same m) p _ (Gm.same_new hp _) hp upd_same
  cases k with
  | zero => cases e <;> (unfold tGood at g; cases g)
  | succ j =>
  have hsp' := hsp j rfl
  cases e with
  | num n =>
    unfold TX.d at d
    cases d with
    | @tup a xs ds hs ha =>
    cases ha with
    | cons h1 h2 =>
    cases h1
    cases h2 with
    | cons h3 h4 =>
    cases h3
    cases h4
    have g' : 0 ≤ n ∧ n ≤ 65535 := by unfold tGood at g; exact of_decide_eq_true g
    refine ⟨_, rfl, a, _, 0, _, rfl, rfl, hs, atI_nat (j := 0) rfl, ?_⟩
    refine ⟨_, rfl, a, _, rfl, .inr hs, rfl, _, rfl, ?_⟩
    refine ite2 (fun z => absurd z (by simp)) (fun _ => ?_)
    refine ⟨_, rfl, rfl, _, rfl, ?_⟩
    refine ite2 (fun _ => ?_) (fun z => absurd (by rw [ds_str]; exact decide_eq_true rfl) z)
    refine ⟨_, rfl, a, _, 1, _, rfl, rfl, hs, atI_nat (j := 1) rfl, n, rfl, small_log g'.1 (by omega), by show 1 ≤ sizeLine; decide, fun p hp => ?_⟩
    exact one _ H (Same.refl _) rfl p hp
  | key x =>
    unfold TX.d at d
    cases d with
    | @tup a xs ds hs ha =>
    cases ha with
    | cons h1 h2 =>
    cases h1
    cases h2
    refine ⟨_, rfl, a, _, 0, _, rfl, rfl, hs, atI_nat (j := 0) rfl, ?_⟩
    refine ⟨_, rfl, a, _, rfl, .inr hs, rfl, _, rfl, ?_⟩
    refine ite2 (fun _ => ?_) (fun z => absurd (by simp) z)
    exact ⟨_, rfl, by show 1 ≤ sizeLine; decide, fun p hp => one _ _ (Same.refl _) rfl p hp⟩
  | op o x y =>
    unfold TX.d at d
    cases d with
    | @tup a xs ds hs ha =>
    cases ha with
    | cons h1 h2 =>
    cases h1
    cases h2 with
    | cons h3 h4 =>
    cases h4 with
    | cons h5 h6 =>
    cases h6
    have g' : o ∈ ops ∧ tGood j x = true ∧ tGood j y = true := by
      unfold tGood at g
      rw [Bool.and_eq_true, Bool.and_eq_true] at g
      exact ⟨of_decide_eq_true g.1.1, g.1.2, g.2⟩
    have n1 : o ≠ "number" := fun z => by rw [z] at g'; exact absurd g'.1 (by decide)
    have n2 : o ∉ ([("local" : Str), "variable"] : List Str) := fun z => (by decide : ∀ o ∈ ops, o ∉ ([("local" : Str), "variable"] : List Str)) o g'.1 z
    have n3 : o ∉ looks := fun z => (by decide : ∀ o ∈ ops, o ∉ looks) o g'.1 z
    refine ⟨_, rfl, a, _, 0, _, rfl, rfl, hs, atI_nat (j := 0) rfl, ?_⟩
    refine ⟨_, rfl, a, _, rfl, .inr hs, rfl, _, rfl, ?_⟩
    refine ite2 (fun z => absurd z (by simp)) (fun _ => ?_)
    refine ⟨_, rfl, rfl, _, rfl, ?_⟩
    refine ite2 (fun z => absurd z (by rw [ds_str]; rw [decide_eq_false n1]; decide)) (fun _ => ?_)
    refine ⟨_, rfl, by show 2 ≤ sizeLine; decide, fun t ht => ?_⟩
    have m1 := Gm.same_new ht (.tup [V.str "local", V.str "variable"])
    have hs1 := sqT_mono m1 hs
    refine ⟨t, _, rfl, .inr (SqT.of upd_same), rfl, rfl, _, rfl, ?_⟩
    have hi : ∀ w : Str, inV (.str w) [V.str "local", V.str "variable"] = decide (w ∈ ([("local" : Str), "variable"] : List Str)) := fun w => inV_strs w [("local" : Str), "variable"]
    rw [if_neg Bool.false_ne_true, hi]
    refine ite2 (fun z => absurd (of_decide_eq_true z) n2) (fun _ => ?_)
    refine ⟨_, rfl, _, _, rfl, .inr (T.q_LOOKS _), rfl, flat_strs _, _, rfl, ?_⟩
    rw [if_neg Bool.false_ne_true, inV_strs]
    refine ite2 (fun z => absurd (of_decide_eq_true z) n3) (fun _ => ?_)
    have el : tWords (.op o x y) = o :: (tWords x ++ tWords y) := rfl
    rw [el] at hl q
    have hx : (tWords x).length ≤ 1000000 := by simp only [List.length_cons, List.length_append] at hl; omega
    have hy : (tWords y).length ≤ 1000000 := by simp only [List.length_cons, List.length_append] at hl; omega
    refine ⟨_, rfl, _, rfl, a, _, 1, _, rfl, rfl, hs1, atI_nat (j := 1) rfl, ?_⟩
    refine hsp' _ _ _ _ ⟨_, x, rfl, dp_mono m1 _ _ h3, g'.2.1, hx, fun L H2 m2 hL e2 => ?_⟩
    refine ⟨L, _, rfl, .inr (SqL.of e2), _, rfl, a, _, 2, _, rfl, rfl, sqT_mono m2 hs1, atI_nat (j := 2) rfl, ?_⟩
    refine hsp' _ _ _ _ ⟨_, y, rfl, dp_mono (m1.trans m2) _ _ h5, g'.2.2, hy, fun L2 H3 m3 hL2 e3 => ?_⟩
    refine ⟨L2, _, rfl, .inr (SqL.of e3), ?_, fun p hp => ?_⟩
    · simp only [List.length_cons, List.length_append, List.length_map, List.length_nil]
      exact Nat.le_trans (show (tWords x).length + ((tWords y).length + 0) + 1 ≤ 2000001 by omega) (by decide)
    · have mm := (m1.trans m2).trans m3
      refine q p _ (mm.trans (Gm.same_new hp _)) (none_of_same mm hp) ?_
      rw [upd_same, List.append_nil, List.map_cons, List.map_append]
theorem ok_tw (T : Txt K mg file) : ∀ k : Nat, FnOk P w K mg base CX0 (k + 2) T.a_expression_words T.fd_expression_words ["expression"] (spTW K k)
  | 0 => ok_tw_step T 0 (fun _ _ _ _ => False) ⟨fun _ _ _ _ h => h.elim, fun _ _ _ _ _ _ _ _ _ _ _ _ _ h => h.elim⟩ (fun j h => absurd h (by omega))
  | k + 1 => ok_tw_step T (k + 1) _ (ok_tw T k) (fun j h vs H Q E q => by
      obtain rfl : k = j := by omega
      exact q)
theorem ok_text (T : Txt K mg file) : FnOk P w K mg base CX0 11 T.a_tactic_text T.fd_tactic_text ["tactic"] (spTText T.C_Tactic K) := by
  have G_expression_words : FnOk P w K mg base CX0 10 T.a_expression_words T.fd_expression_words ["expression"] (spTW K 8) := ok_tw T 8
  refine T.F_tactic_text.ok sc_tactic_text (fun vs H Q E h => ?_) (fun cdv A outer s H vs Q E hr h => ?_)
  · obtain ⟨r, rs, rfl, _⟩ := h
    rfl
  obtain ⟨r, rs, rfl, ⟨dx, tr, hr', dr⟩, g, hl, hsum, q⟩ := h
  refine ⟨_, (pss_cons (ps_set (i := 1) sc_tactic_text.nd rfl (Or.inl rfl) (pe_lst pa_nil))
    (pss_cons (ps_for PassesOwn.never rfl (pi_tup (pe_fld (pv 0) rfl)) (pg_tup rfl (pgs_cons (pg_name (i := 2) sc_tactic_text.nd rfl (Or.inl rfl)) (pgs_cons (pg_name (i := 3) sc_tactic_text.nd rfl (Or.inl rfl)) (pgs_cons (pg_name (i := 4) sc_tactic_text.nd rfl (Or.inl rfl)) pgs_nil))))
      (pss_cons (ps_expr (pe_bm PySem.F.plainAttrs_list PySem.F.slot_list_extend PySem.F.type_list_extend mt_extend (pv 1) (pa_cons (pe_lst (pa_cons pe_str (StX.pa_star (pe_call G_expression_words (hr.mono (by decide)) rfl T.g_expression_words T.k_expression_words T.b_expression_words .nil pass0 (pa_cons (pv 2) pa_nil)) (pa_cons (pe_ix ix_tup (pv 3) pe_int (fun _ _ => rfl)) (StX.pa_star (pe_slice (slTB K rfl) (pv 3) (po_some pe_int) (po_some (pe_un un_neg pe_int))) pa_nil))))) pa_nil)))
    (pss_one (ps_expr (pe_bm PySem.F.plainAttrs_list PySem.F.slot_list_extend PySem.F.type_list_extend mt_extend (pv 1) (pa_cons (pe_lst (StX.pa_star (pe_call G_expression_words (hr.mono (by decide)) rfl T.g_expression_words T.k_expression_words T.b_expression_words .nil pass0 (pa_cons (pe_ix ix_tup (pv 3) (pe_un un_neg pe_int) (fun _ _ => rfl)) pa_nil)) (StX.pa_star (pe_call G_expression_words (hr.mono (by decide)) rfl T.g_expression_words T.k_expression_words T.b_expression_words .nil pass0 (pa_cons (pv 4) pa_nil)) pa_nil))) pa_nil))))))
    (pss_one (ps_ret (pe_join pe_str (pv 1)))))), ?_⟩
  refine ⟨by show 0 ≤ sizeLine; decide, fun L hL => ?_⟩
  have m0 := Gm.same_new hL (.lst [])
  cases dr with
  | @tup a vs ds hs ha =>
  have lv : vs.length = rs.length := (DpAll.len ha).trans (List.length_map _)
  refine ⟨_, rfl, r, _, dx, _, _, rfl, m0 _ _ hr', T.cl_Tactic, T.na_Tactic_rules, rfl, tr, rfl, ⟨_, sqT_mono m0 hs⟩, ?_⟩
  refine for_it walk_tup (fun t σ H' => (∃ y2 y3 y4, σ = [some (.ref r), some (.ref L), y2, y3, y4]) ∧ Same H H' ∧ H' L = some (.lst ((rsWords (rs.take t)).map V.str))) ⟨⟨none, none, none, rfl⟩, m0, upd_same⟩ (fun t σ H' _ h => sqT_mono h.2.1 hs) ?_ ?_
  · rintro t y σ H1 H2 ht ⟨⟨y2, y3, y4, rfl⟩, m1, e1⟩ ⟨rfl, ey⟩
    obtain ⟨x, er⟩ : ∃ x, rs[t]? = some x := ⟨rs[t]'(by rw [← lv]; exact ht), List.getElem?_eq_getElem _⟩
    obtain ⟨y', ey', dy⟩ := DpAll.get ha (i := t) (d := Ru.d x) (by rw [List.getElem?_map, er]; rfl)
    rw [ey] at ey'
    cases ey'
    have gx := g x (List.mem_of_getElem? er)
    have hone : (rsWords (rs.take t)).length + (ruWords x).length ≤ (rsWords rs).length := flatMap_one er
    have hw : (ruWords x).length = 1 + ((tWords x.t).length + ((dWords x).length + ((tWords x.e).length + (tWords x.k).length))) := by
      unfold ruWords
      simp only [List.length_cons, List.length_append]
      omega
    unfold Ru.d at dy
    cases dy with
    | @tup b ws ds2 hs2 ha2 =>
    cases ha2 with
    | cons h1 h2 =>
    cases h2 with
    | @cons yd _ _ _ h3 h4 =>
    cases h4 with
    | cons h5 h6 =>
    cases h6
    refine ⟨b, _, rfl, sqT_mono m1 hs2, rfl, _, _, rfl, _, _, rfl, _, _, rfl, rfl, ?_⟩
    -- the deed
    obtain ⟨d0, dq, ve, ad, e0, ed, hs3, he⟩ : ∃ (d0 : Str) (dq : List Str) (ve : V) (ad : Addr), yd = .ref ad ∧ dWords x = d0 :: dq ∧ SqT K H ad (V.str d0 :: dq.map V.str ++ [ve]) ∧ Dp K H ve x.e.d := by
      unfold Ru.deed at h3
      unfold dWords
      cases e : x.a with
      | none =>
        rw [e] at h3
        cases h3 with
        | @tup c xs3 ds3 hs3 ha3 =>
        cases ha3 with
        | cons k1 k2 =>
        cases k1
        cases k2 with
        | cons k3 k4 =>
        cases k4
        exact ⟨"say", [], _, c, rfl, rfl, hs3, k3⟩
      | some p =>
        rw [e] at h3
        cases h3 with
        | @tup c xs3 ds3 hs3 ha3 =>
        cases ha3 with
        | cons k1 k2 =>
        cases k1
        cases k2 with
        | cons k3 k4 =>
        cases k3
        cases k4 with
        | cons k5 k6 =>
        cases k6
        exact ⟨"ask", [p], _, c, rfl, rfl, hs3, k5⟩
    subst e0
    rw [ed] at hw
    simp only [List.length_cons] at hw
    refine ⟨_, rfl, .inl ⟨rfl, _, SqL.of e1⟩, _, rfl, _, x.t, rfl, dp_mono m1 _ _ h1, gx.t, by omega, fun L2 H3 m3 hL2 e3 => ?_⟩
    have m13 := m1.trans m3
    refine ⟨L2, _, rfl, .inr (SqL.of e3), _, rfl, ad, _, 0, _, rfl, rfl, sqT_mono m13 hs3, atI_nat (j := 0) rfl, ?_⟩
    refine ⟨_, rfl, _, rfl, _, rfl, _, rfl, ad, _, rfl, sqT_mono m13 hs3, fun tq H4 m4 hq => ?_⟩
    rw [cut_mid] at hq
    have m14 := m13.trans m4
    refine ⟨tq, _, rfl, .inl hq, ?_, fun L5 hL5 => ?_⟩
    · simp only [List.length_map, List.length_append, List.length_cons, List.length_nil]
      exact Nat.le_trans (show (tWords x.t).length + (dq.length + 0 + 1) + 1 ≤ 2000000 by omega) (by decide)
    have m5 := Gm.same_new hL5 (.lst (V.str "when" :: ((tWords x.t).map V.str ++ V.str d0 :: (dq.map V.str ++ []))))
    have e5 : (upd H4 L5 (.lst (V.str "when" :: ((tWords x.t).map V.str ++ V.str d0 :: (dq.map V.str ++ []))))) L5 = some (.lst (V.str "when" :: ((tWords x.t).map V.str ++ V.str d0 :: (dq.map V.str ++ [])))) := upd_same
    refine ⟨L, L5, _, _, rfl, rfl, m5 _ _ (m4 _ _ (m3 _ _ e1)), e5, ?_, ?_⟩
    · simp only [List.length_map, List.length_append, List.length_cons, List.length_nil]
      exact Nat.le_trans (show (rsWords (rs.take t)).length + ((tWords x.t).length + (dq.length + 0 + 1) + 1) ≤ 2000000 by omega) (by decide)
    have S6 : Same H (upd (upd H4 L5 (.lst (V.str "when" :: ((tWords x.t).map V.str ++ V.str d0 :: (dq.map V.str ++ []))))) L (.lst ((rsWords (rs.take t)).map V.str ++ (V.str "when" :: ((tWords x.t).map V.str ++ V.str d0 :: (dq.map V.str ++ [])))))) := fun c o eb => by
      rw [upd_ne (ne_of_none eb hL)]
      exact m5 _ _ (m14 _ _ eb)
    have e6 : (upd (upd H4 L5 (.lst (V.str "when" :: ((tWords x.t).map V.str ++ V.str d0 :: (dq.map V.str ++ []))))) L (.lst ((rsWords (rs.take t)).map V.str ++ (V.str "when" :: ((tWords x.t).map V.str ++ V.str d0 :: (dq.map V.str ++ [])))))) L = some (.lst ((rsWords (rs.take t)).map V.str ++ (V.str "when" :: ((tWords x.t).map V.str ++ V.str d0 :: (dq.map V.str ++ []))))) := upd_same
    revert S6 e6
    generalize upd (upd H4 L5 (.lst (V.str "when" :: ((tWords x.t).map V.str ++ V.str d0 :: (dq.map V.str ++ []))))) L (.lst ((rsWords (rs.take t)).map V.str ++ (V.str "when" :: ((tWords x.t).map V.str ++ V.str d0 :: (dq.map V.str ++ []))))) = H6
    intro S6 e6
    refine ⟨_, rfl, .inl ⟨rfl, _, SqL.of e6⟩, _, rfl, _, rfl, ad, _, -1, _, rfl, rfl, sqT_mono S6 hs3, atI_last _ _, ?_⟩
    refine ⟨_, x.e, rfl, dp_mono S6 _ _ he, gx.e, by omega, fun L7 H7 m7 hL7 e7 => ?_⟩
    refine ⟨L7, _, rfl, .inr (SqL.of e7), _, rfl, _, x.k, rfl, dp_mono (S6.trans m7) _ _ h5, gx.k, by omega, fun L8 H8 m8 hL8 e8 => ?_⟩
    refine ⟨L8, _, rfl, .inr (SqL.of e8), ?_, fun L9 hL9 => ?_⟩
    · simp only [List.length_map, List.length_append, List.length_cons, List.length_nil]
      exact Nat.le_trans (show (tWords x.e).length + ((tWords x.k).length + 0) ≤ 2000000 by omega) (by decide)
    have m9 := Gm.same_new hL9 (.lst ((tWords x.e).map V.str ++ ((tWords x.k).map V.str ++ [])))
    refine ⟨L, L9, _, _, rfl, rfl, m9 _ _ (m8 _ _ (m7 _ _ e6)), upd_same, ?_, ⟨_, _, _, rfl⟩, fun c o eb => ?_, ?_⟩
    · simp only [List.length_map, List.length_append, List.length_cons, List.length_nil]
      exact Nat.le_trans (show (rsWords (rs.take t)).length + ((tWords x.t).length + (dq.length + 0 + 1) + 1) + ((tWords x.e).length + ((tWords x.k).length + 0)) ≤ 4000000 by omega) (by decide)
    · rw [upd_ne (ne_of_none eb hL)]
      exact m9 _ _ (m8 _ _ (m7 _ _ (S6 _ _ eb)))
    · have : rsWords (rs.take (t + 1)) = rsWords (rs.take t) ++ ruWords x := flatMap_take er
      rw [upd_same, this, List.map_append]
      unfold ruWords
      rw [ed]
      simp
  · rintro σ H1 ⟨⟨y2, y3, y4, rfl⟩, m1, e1⟩
    rw [lv, List.take_length] at e1
    refine ⟨⟨_, rfl⟩, _, rfl, _, L, rsWords rs, rfl, rfl, .inl (SqL.of e1), ?_, q H1 m1⟩
    have : (rsWords rs).length * (" " : Str).length = (rsWords rs).length := by
      rw [show (" " : Str).length = 1 from by decide +kernel, Nat.mul_one]
    rw [this]
    omega
end
end Toy
set_option Elab.async false
set_option linter.all false
set_option maxRecDepth 100000
set_option maxHeartbeats 4000000
namespace Toy
open PySem L2 Mine NdefX Gm Pz
theorem keyed {kvs : List (Key × V)} {parts : List (Int × Pl)} (h : kvs.map (·.1) = parts.map fun q => (Sum.inr (numS q.1) : Key)) (x : Str) : (kvs.any fun kv => decide (kv.1 = (Sum.inr x : Key))) = decide (x ∈ parts.map fun q => numS q.1) := by
  refine Bool.eq_iff_iff.mpr ?_
  rw [List.any_eq_true, decide_eq_true_iff]
  have e : ((Sum.inr x : Key) ∈ kvs.map (·.1)) ↔ x ∈ parts.map fun q => numS q.1 := by
    rw [h]
    constructor
    · intro z
      obtain ⟨q, hq, e⟩ := List.mem_map.mp z
      exact List.mem_map.mpr ⟨q, hq, Sum.inr.inj e⟩
    · intro z
      obtain ⟨q, hq, e⟩ := List.mem_map.mp z
      exact List.mem_map.mpr ⟨q, hq, congrArg Sum.inr e⟩
  rw [← e]
  constructor
  · rintro ⟨kv, hk, d⟩
    exact List.mem_map.mpr ⟨kv, hk, of_decide_eq_true d⟩
  · intro z
    obtain ⟨kv, hk, d⟩ := List.mem_map.mp z
    exact ⟨kv, hk, decide_eq_true d⟩
theorem parts_nol : ∀ ps : List (Int × Pl), nolAll (ps.map partD) = true
  | [] => rfl
  | q :: r => by
    show (Gm.nol (partD q) && nolAll (r.map partD)) = true
    rw [partD_nol, parts_nol r]; rfl
theorem pls_nol : ∀ ps : List Pl, nolAll (ps.map Pl.d) = true
  | [] => rfl
  | q :: r => by
    show (Gm.nol q.d && nolAll (r.map Pl.d)) = true
    rw [Pl.nol, pls_nol r]; rfl
def PlEnd (C B : Addr) (K : PySem.W.Frag) (p l : Addr) (ws : List Str) (H : Hp) (Q : VK) (E : XK) : Except Nat (Pl × Nat) → Prop
  | .ok (r, j) => ∀ v H', But p H H' → WAt C H' p l ws j → Dp K H' v r.d → Q v H'
  | .error j => Ref p B H j E
def spBelow (C B : Addr) (K : PySem.W.Frag) (k : Nat) : Sp := fun vs H Q E => ∃ (p l : Addr) (ws : List Str) (i : Nat), vs = [.ref p, .int (k : Nat)] ∧ WAt C H p l ws i ∧ PlEnd C B K p l ws H Q E (pPl ws k i)
noncomputable def pPartsN (f : Nat → Except Nat (Pl × Nat)) (ws : List Str) (i : Nat) : Except Nat (List (Int × Pl) × Nat) :=
  if numB ws 0 64 i = true then pPartsP f ws (numW (wd ws i)) [] (i + 1) else .error i
def PsEnd (C B : Addr) (K : PySem.W.Frag) (p l : Addr) (ws : List Str) (H : Hp) (Q : VK) (E : XK) : Except Nat (List (Int × Pl) × Nat) → Prop
  | .ok (r, j) => ∀ v H', But p H H' → WAt C H' p l ws j → Dp K H' v (.tuple (r.map partD)) → Q v H'
  | .error j => Ref p B H j E
def spParts (C B : Addr) (K : PySem.W.Frag) (k : Nat) : Sp := fun vs H Q E => ∃ (p l : Addr) (ws : List Str) (i : Nat), vs = [.ref p, .int (k : Nat)] ∧ WAt C H p l ws i ∧ PsEnd C B K p l ws H Q E (pPartsN (pPl ws k) ws i)
section
variable {P : Program} {w : World} {K : PySem.W.Frag} {mg : Str → Option Value} {base : Heap} {file : Str}
theorem ok_parts (hP : PrF P file) (T : Txt K mg file) (k lv : Nat) (hlv : 5 ≤ lv) (G_read_below : FnOk P w K mg base (L2.CX P w) lv T.a_read_below T.fd_read_below ["words", "left"] (spBelow T.C_Words T.C_BadText K k)) :
    FnOk P w K mg base (L2.CX P w) (lv + 1) T.a_read_parts T.fd_read_parts ["words", "left"] (spParts T.C_Words T.C_BadText K k) := by
  have G_Words_number : FnOk P w K mg base (L2.CX P w) 5 T.a_Words_number T.fd_Words_number ["self", "least", "greatest"] (spNumber T.C_Words T.C_BadText) := ok_number hP T
  have G_Words_ahead : FnOk P w K mg base CX0 2 T.a_Words_ahead T.fd_Words_ahead ["self"] (spAhead T.C_Words) := ok_ahead T
  have G_Words_refuse : FnOk P w K mg base (L2.CX P w) 4 T.a_Words_refuse T.fd_Words_refuse ["self"] (spRefuse T.C_Words T.C_BadText) := ok_refuse hP T
  refine T.F_read_parts.okX sc_read_parts (fun vs H Q E h => ?_) (fun cdv A outer s H vs Q E hr h => ?_)
  · obtain ⟨p, l, ws, i, rfl, _⟩ := h
    rfl
  obtain ⟨p, l, ws, i, rfl, W, q⟩ := h
  refine ⟨_, (pss_cons (ps_set (i := 2) sc_read_parts.nd rfl (Or.inl rfl) (pe_meth (pv 0) T.cl_Words T.m_Words_number G_Words_number (hr.mono (by omega)) T.b_Words_number .nil (passes_call (takes_of rfl rfl rfl rfl) (fun _ _ _ _ z => z)) (pa_cons pe_int (pa_cons (pe_glob (v := .int 64) rfl T.g_MOST_PARTS.choose_spec ⟨_, rfl⟩) pa_nil))))
    (pss_cons (ps_set (i := 3) sc_read_parts.nd rfl (Or.inl rfl) pe_dnewK)
    (pss_cons (ps_for (passes_of rfl) rfl (pi_range1 (by rfl) T.z_range (pa_cons (pv 2) pa_nil)) (pg_name (i := 4) sc_read_parts.nd rfl (Or.inl rfl))
      (pss_cons (ps_set (i := 5) sc_read_parts.nd rfl (Or.inl rfl) (pe_meth0 (pv 0) T.cl_Words T.m_Words_ahead G_Words_ahead (hr.mono (by omega)) T.b_Words_ahead .nil pass0))
    (pss_cons (ps_if (pt_cmp (pc_din (hu_of hr) (pv 5) (pv 3)))
      (pss_one (ps_expr (pe_meth0 (pv 0) T.cl_Words T.m_Words_refuse G_Words_refuse (hr.mono (by omega)) T.b_Words_refuse .nil (passes_call (takes_of rfl rfl rfl rfl) (fun _ _ _ _ z => z)))))
      pss_nil)
    (pss_cons (ps_set (i := 6) sc_read_parts.nd rfl (Or.inl rfl) (pe_meth (pv 0) T.cl_Words T.m_Words_number G_Words_number (hr.mono (by omega)) T.b_Words_number .nil (passes_call (takes_of rfl rfl rfl rfl) (fun _ _ _ _ z => z)) (pa_cons pe_int (pa_cons (pe_op op_sub (pe_glob (v := .int 64) rfl T.g_MOST_PARTS.choose_spec ⟨_, rfl⟩) pe_int) pa_nil))))
    (pss_one (ps_dput (hu_of hr) (pv 3) (pv 5) (pe_tup (pa_cons (pv 6) (pa_cons (pe_call G_read_below (hr.mono (by omega)) rfl T.g_read_below T.k_read_below T.b_read_below .nil (passes_call (takes_of rfl rfl rfl rfl) (fun _ _ _ _ z => z)) (pa_cons (pv 0) (pa_cons (pv 1) pa_nil))) pa_nil))) rfl))))))
    (pss_one (ps_ret (TupV.pe_tupVals rfl (by rfl) T.z_tuple (pv 3))))))), ?_⟩
  unfold pPartsN at q
  obtain ⟨dx, fs, e1, e2⟩ := W.nomt (m := "number")
  refine ⟨_, rfl, p, dx, fs, rfl, e1, e2, p, l, ws, i, _, _, rfl, W, ?_⟩
  show Tk1 _ _ p l ws i H _ E (numB ws 0 64 i) _
  unfold Tk1
  by_cases c : numB ws 0 64 i = true
  rotate_left
  · rw [if_neg c] at q
    rw [if_neg c]
    exact q
  rw [if_pos c] at q
  rw [if_pos c]
  intro H1 b1 W1
  obtain ⟨n, en⟩ : ∃ n, n = numW (wd ws i) := ⟨_, rfl⟩
  have hn : n ≤ 64 := by
    unfold numB at c
    rw [Bool.and_eq_true, decide_eq_true_iff] at c
    omega
  rw [← en] at q ⊢
  refine fun D hD => ?_
  have neD : p ≠ D := fun z => by
    obtain ⟨_, _, e, _⟩ := W1.ob
    rw [z, hD] at e
    cases e
  have neDl : l ≠ D := fun z => by
    have h1 := W1.li
    rw [z, hD] at h1
    cases h1
  have m0 := Gm.same_new hD (.dK [])
  generalize hR : pPartsP (pPl ws k) ws n [] (i + 1) = R at q
  have ref : ∀ {H' : Hp} {j : Nat}, But p H1 H' → R = .error j → Ref p T.C_BadText H' j E := fun {H' j} bb e => by
    rw [e] at q
    exact Ref.later q (b1.trans bb)
  refine ⟨_, rfl, _, rfl, by omega, by omega, for_range (lo := 0) (n := n) (fun t σ H' => ∃ (parts : List (Int × Pl)) (kvs : List (Key × V)) (j : Nat) (y4 y5 y6 : Option V), σ = [some (.ref p), some (.int (k : Nat)), some (.int (n : Nat)), some (.ref D), y4, y5, y6] ∧
    But p H1 H' ∧ WAt T.C_Words H' p l ws j ∧ H' D = some (.dK kvs) ∧ (kvs.map (·.1) = parts.map fun q => (Sum.inr (numS q.1) : Key)) ∧ DpAll K H' (kvs.map (·.2)) (parts.map partD) ∧ parts.length = t ∧ pPartsP (pPl ws k) ws (n - t) parts j = R) ⟨[], [], i + 1, none, none, none, rfl, But.same m0, W1.same m0, upd_same, rfl, .nil, rfl, hR⟩ ?_ ?_⟩
  · rintro t σ H2 ht ⟨parts, kvs, j, y4, y5, y6, rfl, b2, W2, hD2, hk, dd, hl, eq⟩
    have lk : kvs.length = parts.length := by have := congrArg List.length hk; rw [List.length_map, List.length_map] at this; exact this
    obtain ⟨m, em⟩ : ∃ m, n - t = m + 1 := ⟨n - t - 1, by omega⟩
    have em' : n - (t + 1) = m := by omega
    rw [em'] 
    rw [em] at eq
    unfold pPartsP at eq
    obtain ⟨dx2, fs2, f1, f2⟩ := W2.nomt (m := "ahead")
    refine ⟨_, rfl, p, dx2, fs2, rfl, f1, f2, p, l, ws, j, rfl, W2, ?_⟩
    refine ⟨_, rfl, _, rfl, D, valV kvs (.inr (wd ws j)), rfl, .inl ⟨kvs, .inr (wd ws j), .inl hD2, rfl, rfl⟩, _, rfl, ?_⟩
    rw [← valV_any, keyed hk]
    refine ite2 (fun c1 => ?_) (fun c1 => ?_)
    · obtain ⟨dx3, fs3, g1, g2⟩ := W2.nomt (m := "refuse")
      rw [if_pos (of_decide_eq_true c1)] at eq
      exact ⟨_, rfl, p, dx3, fs3, rfl, g1, g2, p, l, ws, j, rfl, W2, ref b2 eq.symm⟩
    have c1' : ¬ wd ws j ∈ parts.map fun q => numS q.1 := fun z => c1 (decide_eq_true z)
    rw [if_neg c1'] at eq
    obtain ⟨dx3, fs3, g1, g2⟩ := W2.nomt (m := "number")
    refine ⟨_, rfl, p, dx3, fs3, rfl, g1, g2, _, _, rfl, rfl, p, l, ws, j, _, _, rfl, W2, ?_⟩
    show Tk1 _ _ p l ws j H2 _ E (numB ws 0 63 j) _
    unfold Tk1
    by_cases c2 : numB ws 0 63 j = true
    rotate_left
    · rw [if_neg c2] at eq
      rw [if_neg c2]
      exact ref b2 eq.symm
    rw [if_pos c2] at eq
    rw [if_pos c2]
    intro H3 b3 W3
    have ew : numS ((numW (wd ws j) : Nat) : Int) = wd ws j := by
      unfold numB at c2
      rw [Bool.and_eq_true] at c2
      exact num_back' c2.1
    refine ⟨_, rfl, _, rfl, _, rfl, p, l, ws, j + 1, rfl, W3, ?_⟩
    cases x1 : pPl ws k (j + 1) with
    | error z =>
      rw [x1] at eq
      exact ref (b2.trans b3) eq.symm
    | ok z =>
    obtain ⟨r, j2⟩ := z
    rw [x1] at eq
    dsimp only at eq
    intro v H4 b4 W4 d4
    refine ⟨(by show 2 ≤ sizeLine; decide), fun a ha => ?_⟩
    have hD4 : H4 D = some (.dK kvs) := b4 _ _ (b3 _ _ hD2 (Ne.symm neD)) (Ne.symm neD)
    have m5 := Gm.same_new ha (.tup [V.int (numW (wd ws j) : Nat), v])
    have dp5 : Dp K (upd H4 a (.tup [V.int (numW (wd ws j) : Nat), v])) (.ref a) (partD (((numW (wd ws j) : Nat) : Int), r)) := dp_tup ha (.cons (.int _) (.cons d4 .nil))
    have dd5 := dp_tupsAll ((W2.tups (b3.trans b4)).trans (Tups.of m5)) _ _ (parts_nol parts) dd
    have W5 := W4.same m5
    have b5 : But p H1 _ := ((b2.trans b3).trans b4).trans (But.same m5)
    have hD5 := m5 _ _ hD4
    revert dp5 dd5 W5 b5 hD5
    generalize upd H4 a (.tup [V.int (numW (wd ws j) : Nat), v]) = H5
    intro dp5 dd5 W5 b5 hD5
    refine ⟨_, rfl, _, rfl, D, _, rfl, .inl ⟨kvs, .inr (wd ws j), hD5, rfl, Nat.lt_of_le_of_lt (show kvs.length ≤ 64 by omega) (by decide), rfl⟩, ?_⟩
    have ep : putK kvs (.inr (wd ws j)) (V.ref a) = kvs ++ [(.inr (wd ws j), V.ref a)] := by
      unfold putK
      rw [keyed hk, if_neg (fun z => c1' (of_decide_eq_true z))]
    rw [ep]
    have tp := Tups.dK hD5 (o := .dK (kvs ++ [(.inr (wd ws j), V.ref a)]))
    refine ⟨parts ++ [(((numW (wd ws j) : Nat) : Int), r)], _, j2, _, _, _, rfl, fun b o e nb => ?_, ?_, upd_same, ?_, ?_, ?_, eq⟩
    · by_cases hb : b = D
      · rw [hb, hD] at e
        cases e
      · rw [upd_ne hb]
        exact b5 b o e nb
    · obtain ⟨dx9, fs9, e9, rest⟩ := W5.ob
      exact ⟨⟨dx9, fs9, by rw [upd_ne neD]; exact e9, rest⟩, by rw [upd_ne neDl]; exact W5.li, W5.le, W5.sz, W5.wl⟩
    · rw [List.map_append, List.map_append, hk]
      show _ ++ [(Sum.inr (wd ws j) : Key)] = _ ++ [(Sum.inr (numS ((numW (wd ws j) : Nat) : Int)) : Key)]
      rw [ew]
    · rw [List.map_append, List.map_append]
      exact DpAll.app (dp_tupsAll tp _ _ (parts_nol parts) dd5) (.cons (dp_tups tp _ _ (partD_nol _) dp5) .nil)
    · rw [List.length_append]
      show parts.length + 1 = t + 1
      omega
  · rintro σ H2 ⟨parts, kvs, j, y4, y5, y6, rfl, b2, W2, hD2, hk, dd, hl, eq⟩
    rw [Nat.sub_self] at eq
    unfold pPartsP at eq
    rw [← eq] at q
    refine ⟨_, rfl, D, kvs, rfl, hD2, fun a H3 m3 ha ea => ?_⟩
    have b3 : But p H1 H3 := b2.trans (But.same m3)
    refine q (.ref a) H3 (b1.trans b3) (W2.same m3) ?_
    exact .tup (SqT.of ea) (dp_monoAll m3 _ _ dd)
theorem ok_below_step (hP : PrF P file) (T : Txt K mg file) (k lv lv1 : Nat) (hlv : 5 ≤ lv) (hlv1 : lv1 ≤ lv) (sp1 sp2 : Sp)
    (G_read_below : FnOk P w K mg base (L2.CX P w) lv1 T.a_read_below T.fd_read_below ["words", "left"] sp1) (G_read_parts : FnOk P w K mg base (L2.CX P w) lv T.a_read_parts T.fd_read_parts ["words", "left"] sp2)
    (h1 : ∀ j, k = j + 1 → ∀ vs H Q E, spBelow T.C_Words T.C_BadText K j vs H Q E → sp1 vs H Q E) (h2 : ∀ j, k = j + 1 → ∀ vs H Q E, spParts T.C_Words T.C_BadText K j vs H Q E → sp2 vs H Q E) :
    FnOk P w K mg base (L2.CX P w) (lv + 1) T.a_read_below T.fd_read_below ["words", "left"] (spBelow T.C_Words T.C_BadText K k) := by
  have G_Words_number : FnOk P w K mg base (L2.CX P w) 5 T.a_Words_number T.fd_Words_number ["self", "least", "greatest"] (spNumber T.C_Words T.C_BadText) := ok_number hP T
  have G_Words_one_of : FnOk P w K mg base (L2.CX P w) 5 T.a_Words_one_of T.fd_Words_one_of ["self", "choices"] (spOneOf T.C_Words T.C_BadText K) := ok_one_of hP T
  have G_Words_name : FnOk P w K mg base (L2.CX P w) 5 T.a_Words_name T.fd_Words_name ["self", "taken"] (spName T.C_Words T.C_BadText K) := ok_name hP T
  refine T.F_read_below.okX sc_read_below (fun vs H Q E h => ?_) (fun cdv A outer s H vs Q E hr h => ?_)
  · obtain ⟨p, l, ws, i, rfl, _⟩ := h
    rfl
  obtain ⟨p, l, ws, i, rfl, W, q⟩ := h
  refine ⟨_, (pss_cons (ps_set (i := 2) sc_read_below.nd rfl (Or.inl rfl) (pe_meth (pv 0) T.cl_Words T.m_Words_one_of G_Words_one_of (hr.mono (by omega)) T.b_Words_one_of .nil (passes_call (takes_of rfl rfl rfl rfl) (fun _ _ _ _ z => z)) (pa_cons (pe_ifExp (pt_cmpR op_gt (pv 1) pe_int (nomark _)) (pe_tup (pa_cons pe_str (pa_cons pe_str (pa_cons pe_str pa_nil)))) (pe_tup (pa_cons pe_str pa_nil))) pa_nil)))
    (pss_cons (ps_if (pt_cmpR op_eq (pv 2) pe_str (nomark _))
      (pss_one (ps_ret (pe_tup (pa_cons pe_str (pa_cons (pe_cmpR op_eq (pe_meth (pv 0) T.cl_Words T.m_Words_one_of G_Words_one_of (hr.mono (by omega)) T.b_Words_one_of .nil (passes_call (takes_of rfl rfl rfl rfl) (fun _ _ _ _ z => z)) (pa_cons (pe_tup (pa_cons pe_str (pa_cons pe_str pa_nil))) pa_nil)) pe_str (nomark _)) pa_nil)))))
      pss_nil)
    (pss_cons (ps_if (pt_cmpR op_eq (pv 2) pe_str (nomark _))
      (pss_cons (ps_set (i := 3) sc_read_below.nd rfl (Or.inl rfl) (pe_meth (pv 0) T.cl_Words T.m_Words_number G_Words_number (hr.mono (by omega)) T.b_Words_number .nil (passes_call (takes_of rfl rfl rfl rfl) (fun _ _ _ _ z => z)) (pa_cons pe_int (pa_cons (pe_glob (v := .int 16) rfl T.g_MOST_TOSSED.choose_spec ⟨_, rfl⟩) pa_nil))))
    (pss_one (ps_ret (pe_tup (pa_cons pe_str (pa_cons (pe_callTy call_tuple_of (by rfl) T.z_tuple (by decide +kernel) (pa_cons (pe_lcX (E := E) (own := [("_", 4)]) (g := gName 4) (tt := tYes) (takes_of rfl rfl rfl rfl) (fun _ _ _ _ z => z) rfl rfl rfl sc_read_below.nd (pi_range1 (by rfl) T.z_range (pa_cons (pv 3) pa_nil)) (blkOk_by (own := [("_", 4)]) (N := ["words", "left", "word", "many", "_", "procedure", "number"]) (sc := defScope s_read_below) (by decide +kernel)) (fun _ _ _ _ _ => pg_name (i := 4) sc_read_below.nd rfl (Or.inl rfl)) (fun _ _ _ _ _ => pts_nil) (fun _ _ _ _ _ => (pe_call G_read_below (hr.mono (by omega)) rfl T.g_read_below T.k_read_below T.b_read_below .nil passC (pa_cons (pv 0) (pa_cons (pe_op op_sub (pv 1) pe_int) pa_nil))))) pa_nil)) pa_nil))))))
      pss_nil)
    (pss_cons (ps_set (i := 5) sc_read_below.nd rfl (Or.inl rfl) (pe_meth0 (pv 0) T.cl_Words T.m_Words_name G_Words_name (hr.mono (by omega)) T.db0_Words_name T.dv0_Words_name (passes_call (takes_of rfl rfl rfl rfl) (fun _ _ _ _ z => z))))
    (pss_cons (ps_set (i := 6) sc_read_below.nd rfl (Or.inl rfl) (pe_meth (pv 0) T.cl_Words T.m_Words_number G_Words_number (hr.mono (by omega)) T.b_Words_number .nil (passes_call (takes_of rfl rfl rfl rfl) (fun _ _ _ _ z => z)) (pa_cons pe_int (pa_cons (pe_glob (v := .int 65535) rfl T.g_GREATEST_NUMBER.choose_spec ⟨_, rfl⟩) pa_nil))))
    (pss_one (ps_ret (pe_tup (pa_cons pe_str (pa_cons (pv 5) (pa_cons (pv 6) (pa_cons (pe_call G_read_parts (hr.mono (by omega)) rfl T.g_read_parts T.k_read_parts T.b_read_parts .nil (passes_call (takes_of rfl rfl rfl rfl) (fun _ _ _ _ z => z)) (pa_cons (pv 0) (pa_cons (pe_op op_sub (pv 1) pe_int) pa_nil))) pa_nil)))))))))))), ?_⟩
  obtain ⟨dx, fs, e1, e2⟩ := W.nomt (m := "one_of")
  cases k with
  | zero =>
    refine ⟨_, rfl, p, dx, fs, rfl, e1, e2, _, rfl, _, _, rfl, rfl, _, rfl, ite2 (fun z => absurd (of_decide_eq_true z) (by decide)) (fun _ => ?_)⟩
    refine ⟨by show 1 ≤ sizeLine; decide, fun t ht => ?_⟩
    have m2 := Gm.same_new ht (.tup [V.str "say"])
    have W2 := W.same m2
    have b2 : But p H _ := But.same m2
    have hT2 : SqT K (upd H t (.tup [V.str "say"])) t ((["say"] : List Str).map V.str) := SqT.of upd_same
    revert W2 b2 hT2
    generalize upd H t (.tup [V.str "say"]) = H2
    intro W2 b2 hT2
    refine ⟨p, l, ws, i, .ref t, ["say"], rfl, W2, ⟨t, rfl, .inr (.inl hT2)⟩, by decide +kernel, ?_⟩
    unfold pPl at q
    unfold Tk1
    by_cases CW : wd ws i = "say"
    rotate_left
    · rw [if_neg CW] at q
      rw [if_neg (fun z => CW (List.mem_singleton.mp (of_decide_eq_true z)))]
      exact Ref.later q b2
    rw [if_pos CW] at q
    rw [if_pos (decide_eq_true (show wd ws i ∈ (["say"] : List Str) by rw [CW]; exact List.mem_cons_self ..))]
    intro H3 b3 W3
    rw [CW]
    refine ⟨_, rfl, rfl, _, rfl, iteT ?_⟩
    obtain ⟨dx3, fs3, f1, f2⟩ := W3.nomt (m := "one_of")
    refine ⟨_, rfl, p, dx3, fs3, rfl, f1, f2, by show 2 ≤ sizeLine; decide, fun t2 ht2 => ?_⟩
    have m4 := Gm.same_new ht2 (.tup [V.str "yes", V.str "no"])
    have W4 := W3.same m4
    have b4 : But p H _ := (b2.trans b3).trans (But.same m4)
    have hT4 : SqT K (upd H3 t2 (.tup [V.str "yes", V.str "no"])) t2 ((["yes", "no"] : List Str).map V.str) := SqT.of upd_same
    revert W4 b4 hT4
    generalize upd H3 t2 (.tup [V.str "yes", V.str "no"]) = H4
    intro W4 b4 hT4
    refine ⟨p, l, ws, i + 1, .ref t2, ["yes", "no"], rfl, W4, ⟨t2, rfl, .inr (.inl hT4)⟩, by decide +kernel, ?_⟩
    unfold pSay at q
    unfold Tk1
    by_cases cy : wd ws (i + 1) = "yes"
    · rw [if_pos cy] at q
      rw [if_pos (decide_eq_true (show wd ws (i + 1) ∈ (["yes", "no"] : List Str) by rw [cy]; exact List.mem_cons_self ..)), cy]
      intro H5 b5 W5
      refine ⟨rfl, by show 2 ≤ sizeLine; decide, fun a ha => ?_⟩
      have m6 := Gm.same_new ha (.tup [V.str "say", V.bl true])
      refine q (.ref a) _ ((b4.trans b5).trans (But.same m6)) (W5.same m6) ?_
      rw [Pl.d_say]
      exact dp_tup ha (.cons (.str _) (.cons (.bl _) .nil))
    rw [if_neg cy] at q
    by_cases cn : wd ws (i + 1) = "no"
    · rw [if_pos cn] at q
      rw [if_pos (decide_eq_true (show wd ws (i + 1) ∈ (["yes", "no"] : List Str) by rw [cn]; exact List.mem_cons_of_mem _ (List.mem_cons_self ..))), cn]
      intro H5 b5 W5
      refine ⟨rfl, by show 2 ≤ sizeLine; decide, fun a ha => ?_⟩
      have m6 := Gm.same_new ha (.tup [V.str "say", V.bl false])
      refine q (.ref a) _ ((b4.trans b5).trans (But.same m6)) (W5.same m6) ?_
      rw [Pl.d_say]
      exact dp_tup ha (.cons (.str _) (.cons (.bl _) .nil))
    rw [if_neg cn] at q
    rw [if_neg (fun z => by
      have h3 : wd ws (i + 1) ∈ (["yes", "no"] : List Str) := of_decide_eq_true z
      rcases List.mem_cons.mp h3 with h3 | h3
      · exact cy h3
      · exact cn (List.mem_singleton.mp h3))]
    exact Ref.later q b4
  | succ k =>
    have g1 := h1 k rfl
    have g2 := h2 k rfl
    have ek : V.int (((k + 1 : Nat) : Int) - 1) = V.int (k : Nat) := by congr 1; omega
    refine ⟨_, rfl, p, dx, fs, rfl, e1, e2, _, rfl, _, _, rfl, rfl, _, rfl, ite2 (fun _ => ?_) (fun z => absurd (decide_eq_true (show (0 : Int) < ((k + 1 : Nat) : Int) by omega)) z)⟩
    refine ⟨by show 3 ≤ sizeLine; decide, fun t ht => ?_⟩
    have m2 := Gm.same_new ht (.tup [V.str "say", V.str "toss", V.str "ask"])
    have W2 := W.same m2
    have b2 : But p H _ := But.same m2
    have hT2 : SqT K (upd H t (.tup [V.str "say", V.str "toss", V.str "ask"])) t ((["say", "toss", "ask"] : List Str).map V.str) := SqT.of upd_same
    revert W2 b2 hT2
    generalize upd H t (.tup [V.str "say", V.str "toss", V.str "ask"]) = H2
    intro W2 b2 hT2
    refine ⟨p, l, ws, i, .ref t, ["say", "toss", "ask"], rfl, W2, ⟨t, rfl, .inr (.inl hT2)⟩, by decide +kernel, ?_⟩
    unfold pPl at q
    unfold Tk1
    by_cases CW : wd ws i = "say"
    · rw [if_pos CW] at q
      rw [if_pos (decide_eq_true (show wd ws i ∈ (["say", "toss", "ask"] : List Str) by rw [CW]; exact List.mem_cons_self ..))]
      intro H3 b3 W3
      rw [CW]
      refine ⟨_, rfl, rfl, _, rfl, iteT ?_⟩
      obtain ⟨dx3, fs3, f1, f2⟩ := W3.nomt (m := "one_of")
      refine ⟨_, rfl, p, dx3, fs3, rfl, f1, f2, by show 2 ≤ sizeLine; decide, fun t2 ht2 => ?_⟩
      have m4 := Gm.same_new ht2 (.tup [V.str "yes", V.str "no"])
      have W4 := W3.same m4
      have b4 : But p H _ := (b2.trans b3).trans (But.same m4)
      have hT4 : SqT K (upd H3 t2 (.tup [V.str "yes", V.str "no"])) t2 ((["yes", "no"] : List Str).map V.str) := SqT.of upd_same
      revert W4 b4 hT4
      generalize upd H3 t2 (.tup [V.str "yes", V.str "no"]) = H4
      intro W4 b4 hT4
      refine ⟨p, l, ws, i + 1, .ref t2, ["yes", "no"], rfl, W4, ⟨t2, rfl, .inr (.inl hT4)⟩, by decide +kernel, ?_⟩
      unfold pSay at q
      unfold Tk1
      by_cases cy : wd ws (i + 1) = "yes"
      · rw [if_pos cy] at q
        rw [if_pos (decide_eq_true (show wd ws (i + 1) ∈ (["yes", "no"] : List Str) by rw [cy]; exact List.mem_cons_self ..)), cy]
        intro H5 b5 W5
        refine ⟨rfl, by show 2 ≤ sizeLine; decide, fun a ha => ?_⟩
        have m6 := Gm.same_new ha (.tup [V.str "say", V.bl true])
        refine q (.ref a) _ ((b4.trans b5).trans (But.same m6)) (W5.same m6) ?_
        rw [Pl.d_say]
        exact dp_tup ha (.cons (.str _) (.cons (.bl _) .nil))
      rw [if_neg cy] at q
      by_cases cn : wd ws (i + 1) = "no"
      · rw [if_pos cn] at q
        rw [if_pos (decide_eq_true (show wd ws (i + 1) ∈ (["yes", "no"] : List Str) by rw [cn]; exact List.mem_cons_of_mem _ (List.mem_cons_self ..))), cn]
        intro H5 b5 W5
        refine ⟨rfl, by show 2 ≤ sizeLine; decide, fun a ha => ?_⟩
        have m6 := Gm.same_new ha (.tup [V.str "say", V.bl false])
        refine q (.ref a) _ ((b4.trans b5).trans (But.same m6)) (W5.same m6) ?_
        rw [Pl.d_say]
        exact dp_tup ha (.cons (.str _) (.cons (.bl _) .nil))
      rw [if_neg cn] at q
      rw [if_neg (fun z => by
        have h3 : wd ws (i + 1) ∈ (["yes", "no"] : List Str) := of_decide_eq_true z
        rcases List.mem_cons.mp h3 with h3 | h3
        · exact cy h3
        · exact cn (List.mem_singleton.mp h3))]
      exact Ref.later q b4
    rw [if_neg CW] at q
    by_cases CT : wd ws i = "toss"
    · rw [if_pos CT] at q
      rw [if_pos (decide_eq_true (show wd ws i ∈ (["say", "toss", "ask"] : List Str) by rw [CT]; exact List.mem_cons_of_mem _ (List.mem_cons_self ..)))]
      intro H3 b23 W3
      rw [CT]
      refine ⟨_, rfl, rfl, _, rfl, iteF ?_⟩
      refine ⟨_, rfl, rfl, _, rfl, iteT ?_⟩
      obtain ⟨dx3, fs3, f1, f2⟩ := W3.nomt (m := "number")
      refine ⟨_, rfl, p, dx3, fs3, rfl, f1, f2, p, l, ws, i + 1, _, _, rfl, W3, ?_⟩
      show Tk1 _ _ p l ws (i + 1) H3 _ E (numB ws 1 16 (i + 1)) _
      have b3 := b2.trans b23
      unfold pTossP at q
      unfold Tk1
      by_cases c3 : numB ws 1 16 (i + 1) = true
      rotate_left
      · rw [if_neg c3] at q
        rw [if_neg c3]
        exact Ref.later q b3
      rw [if_pos c3] at q
      rw [if_pos c3]
      intro H4 b34 W4
      have b4 := b3.trans b34
      obtain ⟨n, en⟩ : ∃ n, n = numW (wd ws (i + 1)) := ⟨_, rfl⟩
      have hn : n ≤ 16 := by
        unfold numB at c3
        rw [Bool.and_eq_true, decide_eq_true_iff] at c3
        omega
      rw [← en] at q ⊢
      generalize hR : pToss (pPl ws k) n [] (i + 1 + 1) = R at q
      have ref : ∀ {H' : Hp} {j : Nat}, But p H4 H' → R = .error j → Ref p T.C_BadText H' j E := fun {H' j} bb e => by
        rw [e] at q
        exact Ref.later q (b4.trans bb)
      refine ⟨_, rfl, _, rfl, by omega, by omega, fun D hD => ?_⟩
      have neD : p ≠ D := fun z => by
        obtain ⟨_, _, e, _⟩ := W4.ob
        rw [z, hD] at e
        cases e
      have neDl : l ≠ D := fun z => by
        have h1 := W4.li
        rw [z, hD] at h1
        cases h1
      have m0 := Gm.same_new hD (.lst [])
      refine lc_range (lo := 0) (n := n) (fun t H' => ∃ (us : List V) (ps : List Pl) (j : Nat), But p H4 H' ∧ WAt T.C_Words H' p l ws j ∧ H' D = some (.lst us) ∧ DpAll K H' us (ps.map Pl.d) ∧ ps.length = t ∧ pToss (pPl ws k) (n - t) ps j = R) ⟨[], [], i + 1 + 1, But.same m0, W4.same m0, upd_same, .nil, rfl, hR⟩ ?_ ?_
      · rintro t H5 ht ⟨us, ps, j, b5, W5, hD5, dd, hl, eq⟩
        obtain ⟨m, em⟩ : ∃ m, n - t = m + 1 := ⟨n - t - 1, by omega⟩
        have em' : n - (t + 1) = m := by omega
        rw [em'] 
        rw [em] at eq
        unfold pToss at eq
        refine ⟨rfl, ?_⟩
        refine ⟨_, rfl, _, rfl, _, _, rfl, rfl, g1 _ _ _ _ ⟨p, l, ws, j, by show [V.ref p, V.int (((k + 1 : Nat) : Int) - 1)] ++ [] = _; rw [ek]; rfl, W5, ?_⟩⟩
        cases x1 : pPl ws k j with
        | error z =>
          rw [x1] at eq
          exact ref b5 eq.symm
        | ok z =>
        obtain ⟨r, j2⟩ := z
        rw [x1] at eq
        dsimp only at eq
        intro v H6 b6 W6 d6
        have hD6 : H6 D = some (.lst us) := b6 _ _ hD5 (Ne.symm neD)
        have lu : us.length = ps.length := (DpAll.len dd).trans (List.length_map _)
        have dd6 := dp_tupsAll (W5.tups b6) _ _ (pls_nol ps) dd
        have tp := Tups.lst hD6 (o := .lst (us ++ [v]))
        refine ⟨us, hD6, Nat.lt_of_le_of_lt (show us.length ≤ 64 by omega) (by decide), us ++ [v], ps ++ [r], j2, fun b o e nb => ?_, ?_, upd_same, ?_, ?_, eq⟩
        · by_cases hb : b = D
          · rw [hb, hD] at e
            cases e
          · rw [upd_ne hb]
            exact (b5.trans b6) b o e nb
        · obtain ⟨dx9, fs9, e9, rest⟩ := W6.ob
          exact ⟨⟨dx9, fs9, by rw [upd_ne neD]; exact e9, rest⟩, by rw [upd_ne neDl]; exact W6.li, W6.le, W6.sz, W6.wl⟩
        · rw [List.map_append]
          exact DpAll.app (dp_tupsAll tp _ _ (pls_nol ps) dd6) (.cons (dp_tups tp _ _ (Pl.nol r) d6) .nil)
        · rw [List.length_append]
          show ps.length + 1 = t + 1
          omega
      · rintro H5 ⟨us, ps, j, b5, W5, hD5, dd, hl, eq⟩
        rw [Nat.sub_self] at eq
        unfold pToss at eq
        rw [← eq] at q
        refine ⟨D, us, rfl, .inl ⟨SqL.of hD5, fun tp htp => ?_⟩⟩
        have dt := dp_tup (K := K) htp dd
        have n1 := Gm.same_new htp (.tup us)
        refine ⟨by show 2 ≤ sizeLine; decide, fun a ha => ?_⟩
        have n2 := Gm.same_new ha (.tup [V.str "toss", V.ref tp])
        have n12 := n1.trans n2
        refine q (.ref a) _ ((b4.trans b5).trans (But.same n12)) (W5.same n12) ?_
        rw [Pl.d_toss]
        exact dp_tup ha (.cons (.str _) (.cons dt .nil))
    rw [if_neg CT] at q
    by_cases CA : wd ws i = "ask"
    rotate_left
    · rw [if_neg CA] at q
      rw [if_neg (fun z => by
        have h3 : wd ws i ∈ (["say", "toss", "ask"] : List Str) := of_decide_eq_true z
        rcases List.mem_cons.mp h3 with h3 | h3
        · exact CW h3
        rcases List.mem_cons.mp h3 with h3 | h3
        · exact CT h3
        · exact CA (List.mem_singleton.mp h3))]
      exact Ref.later q b2
    rw [if_pos CA] at q
    rw [if_pos (decide_eq_true (show wd ws i ∈ (["say", "toss", "ask"] : List Str) by rw [CA]; exact List.mem_cons_of_mem _ (List.mem_cons_of_mem _ (List.mem_cons_self ..))))]
    intro H3 b23 W3
    rw [CA]
    refine ⟨_, rfl, rfl, _, rfl, iteF ?_⟩
    refine ⟨_, rfl, rfl, _, rfl, iteF ?_⟩
    have b3 := b2.trans b23
    unfold pAskP at q
    obtain ⟨dx3, fs3, f1, f2⟩ := W3.nomt (m := "name")
    refine ⟨_, rfl, p, dx3, fs3, rfl, f1, f2, p, l, ws, i + 1, T.te0_Words_name, [], rfl, W3, .inr (T.qe0_Words_name _), ?_⟩
    unfold Tk1
    rw [show decide (wd ws (i + 1) ∈ ([] : List Str)) = false from rfl, Bool.not_false, Bool.and_true]
    by_cases cn : isName (wd ws (i + 1)) = true
    rotate_left
    · rw [if_neg cn] at q
      rw [if_neg cn]
      exact Ref.later q b3
    rw [if_pos cn] at q
    rw [if_pos cn]
    intro H4 b34 W4
    have b4 := b3.trans b34
    obtain ⟨dx4, fs4, g3, g4⟩ := W4.nomt (m := "number")
    refine ⟨_, rfl, p, dx4, fs4, rfl, g3, g4, p, l, ws, i + 1 + 1, _, _, rfl, W4, ?_⟩
    show Tk1 _ _ p l ws (i + 1 + 1) H4 _ E (numB ws 0 65535 (i + 1 + 1)) _
    unfold Tk1
    by_cases c3 : numB ws 0 65535 (i + 1 + 1) = true
    rotate_left
    · rw [if_neg c3] at q
      rw [if_neg c3]
      exact Ref.later q b4
    rw [if_pos c3] at q
    rw [if_pos c3]
    intro H5 b45 W5
    have b5 := b4.trans b45
    refine ⟨_, rfl, _, rfl, _, rfl, _, rfl, _, _, rfl, rfl, g2 _ _ _ _ ⟨p, l, ws, i + 1 + 1 + 1, by show [V.ref p, V.int (((k + 1 : Nat) : Int) - 1)] ++ [] = _; rw [ek]; rfl, W5, ?_⟩⟩
    unfold pPartsN
    by_cases c4 : numB ws 0 64 (i + 1 + 1 + 1) = true
    rotate_left
    · rw [if_neg (show ¬ numB ws 0 64 (i + 1 + 2) = true from c4)] at q
      rw [if_neg c4]
      exact Ref.later q b5
    rw [if_pos (show numB ws 0 64 (i + 1 + 2) = true from c4)] at q
    rw [if_pos c4]
    change PlEnd _ _ _ _ _ _ _ _ _ (match pPartsP (pPl ws k) ws (numW (wd ws (i + 1 + 1 + 1))) [] (i + 1 + 1 + 1 + 1) with | .error j => .error j | .ok (parts, j) => .ok (.ask (wd ws (i + 1)) ((numW (wd ws (i + 1 + 1)) : Nat) : Int) parts, j)) at q
    cases x1 : pPartsP (pPl ws k) ws (numW (wd ws (i + 1 + 1 + 1))) [] (i + 1 + 1 + 1 + 1) with
    | error z =>
      rw [x1] at q
      exact Ref.later q b5
    | ok z =>
    obtain ⟨parts, j⟩ := z
    rw [x1] at q
    dsimp only at q
    intro v H6 b6 W6 d6
    refine ⟨by show 4 ≤ sizeLine; decide, fun a ha => ?_⟩
    have n2 := Gm.same_new ha (.tup [V.str "ask", V.str (wd ws (i + 1)), V.int (numW (wd ws (i + 1 + 1)) : Nat), v])
    refine q (.ref a) _ ((b5.trans b6).trans (But.same n2)) (W6.same n2) ?_
    rw [Pl.d_ask]
    exact dp_tup ha (.cons (.str _) (.cons (.str _) (.cons (.int _) (.cons d6 .nil))))
theorem ok_below (hP : PrF P file) (T : Txt K mg file) : ∀ k : Nat, FnOk P w K mg base (L2.CX P w) (2 * k + 6) T.a_read_below T.fd_read_below ["words", "left"] (spBelow T.C_Words T.C_BadText K k)
  | 0 => ok_below_step hP T 0 5 5 (Nat.le_refl _) (Nat.le_refl _) (fun _ _ _ _ => False) (fun _ _ _ _ => False) ⟨fun _ _ _ _ h => h.elim, fun _ _ _ _ _ _ _ _ _ _ _ _ _ h => h.elim⟩ ⟨fun _ _ _ _ h => h.elim, fun _ _ _ _ _ _ _ _ _ _ _ _ _ h => h.elim⟩ (fun j h => absurd h (by omega)) (fun j h => absurd h (by omega))
  | k + 1 => by
    have g1 := ok_below hP T k
    have g2 := ok_parts hP T k (2 * k + 6) (by omega) g1
    refine ok_below_step hP T (k + 1) (2 * k + 7) (2 * k + 6) (by omega) (by omega) _ _ g1 g2 (fun j h vs H Q E q => ?_) (fun j h vs H Q E q => ?_)
    · obtain rfl : k = j := by omega
      exact q
    · obtain rfl : k = j := by omega
      exact q
end
end Toy
set_option Elab.async false
set_option linter.all false
set_option maxRecDepth 100000
set_option maxHeartbeats 4000000
namespace Toy
open PySem L2 Mine NdefX Gm Pz
def spRead (B : Addr) (K : PySem.W.Frag) : Sp := fun vs H Q E => ∃ x : Str, vs = [.str x] ∧ x.length ≤ 900000 ∧ (toWords x).length < 1000000 ∧ (∀ w ∈ toWords x, w.length ≤ 1000000) ∧
  match pPlayer (toWords x) with
  | .ok p => ∀ v H', Same H H' → Dp K H' v p.d → Q v H'
  | .error j => ∀ d H', Same H H' → H' d = some (.xd [("at", .int j)]) → E (.ref B) (some d) H'
def spPW (K : PySem.W.Frag) (k : Nat) : Sp := fun vs H Q _ => ∃ (v : V) (p : Pl), vs = [v] ∧ Dp K H v p.d ∧ plFit k p = true ∧ (plWords p).length ≤ 1000000 ∧ NewL H Q (plWords p)
noncomputable def plText (p : Pl) : Str := Txt.join " " (plWords p)
def spPText (K : PySem.W.Frag) (k : Nat) : Sp := fun vs H Q _ => ∃ (v : V) (p : Pl), vs = [v] ∧ Dp K H v p.d ∧ plFit k p = true ∧ (plWords p).length ≤ 1000000 ∧ ((plWords p).map (·.length)).sum ≤ 10000000 ∧ ∀ H', Same H H' → Q (.str (plText p)) H'
section
variable {P : Program} {w : World} {K : PySem.W.Frag} {mg : Str → Option Value} {base : Heap} {file : Str}
theorem ok_read (hP : PrF P file) (T : Txt K mg file) : FnOk P w K mg base (L2.CX P w) 30 T.a_read_player T.fd_read_player ["text"] (spRead T.C_BadText K) := by
  have G_Words_init : FnOk P w K mg base CX0 2 T.a_Words_init T.fd_Words_init ["self", "text"] (spWords T.C_Words) := ok_Words T
  have G_read_below : FnOk P w K mg base (L2.CX P w) 22 T.a_read_below T.fd_read_below ["words", "left"] (spBelow T.C_Words T.C_BadText K 8) := ok_below hP T 8
  have G_Words_finish : FnOk P w K mg base (L2.CX P w) 5 T.a_Words_finish T.fd_Words_finish ["self"] (spFinish T.C_Words T.C_BadText) := ok_finish hP T
  refine T.F_read_player.okX sc_read_player (fun vs H Q E h => ?_) (fun cdv A outer s H vs Q E hr h => ?_)
  · obtain ⟨x, rfl, _⟩ := h
    rfl
  obtain ⟨x, rfl, hx, hs, hw, q⟩ := h
  refine ⟨_, (pss_cons (ps_set (i := 1) sc_read_player.nd rfl (Or.inl rfl) (pe_make T.mk_Words G_Words_init (hr.mono (by decide)) rfl T.g_Words T.b_Words_init .nil pass0 (pa_cons (pv 0) pa_nil)))
    (pss_cons (ps_set (i := 2) sc_read_player.nd rfl (Or.inl rfl) (pe_call G_read_below (hr.mono (by decide)) rfl T.g_read_below T.k_read_below T.b_read_below .nil (passes_call (takes_of rfl rfl rfl rfl) (fun _ _ _ _ z => z)) (pa_cons (pv 1) (pa_cons (pe_glob (v := .int 8) rfl T.g_DEEPEST_PLAYER.choose_spec ⟨_, rfl⟩) pa_nil))))
    (pss_cons (ps_expr (pe_meth0 (pv 1) T.cl_Words T.m_Words_finish G_Words_finish (hr.mono (by decide)) T.b_Words_finish .nil (passes_call (takes_of rfl rfl rfl rfl) (fun _ _ _ _ z => z))))
    (pss_one (ps_ret (pv 2)))))), ?_⟩
  refine ⟨_, rfl, fun p dx hp hdx ne => ⟨p, dx, x, rfl, upd_same, hx, hs, hw, fun l H1 b1 W1 => ⟨rfl, ?_⟩⟩⟩
  generalize toWords x = ws at q W1
  have S1 : Same H H1 := fun b o e => b1 _ _ (by rw [upd_ne (ne_of_none e hp), upd_ne (ne_of_none e hdx)]; exact e) (ne_of_none e hp)
  have S : ∀ {H' : Hp}, But p H1 H' → Same H H' := fun {H'} bb => But.all hp S1 bb
  unfold pPlayer at q
  refine ⟨_, rfl, p, l, ws, 0, rfl, W1, ?_⟩
  cases x1 : pPl ws 8 0 with
  | error j =>
    rw [x1] at q
    exact fun d H2 b2 hd => q d H2 (S b2) hd
  | ok z =>
  obtain ⟨r, j⟩ := z
  rw [x1] at q
  dsimp only at q
  intro v H2 b2 W2 d2
  obtain ⟨dx3, fs3, f1, f2⟩ := W2.nomt (m := "finish")
  refine ⟨_, rfl, p, dx3, fs3, rfl, f1, f2, p, l, ws, j, rfl, W2, ?_⟩
  by_cases c : j = ws.length
  rotate_left
  · rw [if_neg c] at q
    rw [if_neg c]
    exact fun d H3 b3 hd => q d H3 (S (b2.trans b3)) hd
  rw [if_pos c] at q
  rw [if_pos c]
  exact ⟨_, rfl, q v H2 (S b2) d2⟩
theorem ok_pw_step (T : Txt K mg file) (k : Nat) (sp0 : Sp) (G_player_words : FnOk P w K mg base CX0 (k + 1) T.a_player_words T.fd_player_words ["player"] sp0) (hsp : ∀ j, k = j + 1 → ∀ vs H Q E, spPW K j vs H Q E → sp0 vs H Q E) :
    FnOk P w K mg base CX0 (k + 2) T.a_player_words T.fd_player_words ["player"] (spPW K k) := by
  refine T.F_player_words.ok sc_player_words (fun vs H Q E h => ?_) (fun cdv A outer s H vs Q E hr h => ?_)
  · obtain ⟨v, e, rfl, _⟩ := h
    rfl
  obtain ⟨v, e, rfl, d, g, hl, q⟩ := h
  refine ⟨_, (pss_cons (ps_if (pt_cmpR op_eq (pe_ix ix_tup (pv 0) pe_int (fun _ _ => rfl)) pe_str (nomark _))
      (pss_one (ps_ret (pe_lst (pa_cons pe_str (pa_cons (pe_ifExp (pt_truth (pe_ix ix_tup (pv 0) pe_int (fun _ _ => rfl)) (by intro _; rfl)) pe_str pe_str) pa_nil)))))
      pss_nil)
    (pss_cons (ps_if (pt_cmpR op_eq (pe_ix ix_tup (pv 0) pe_int (fun _ _ => rfl)) pe_str (nomark _))
      (pss_cons (ps_set (i := 1) sc_player_words.nd rfl (Or.inl rfl) (pe_lst (pa_cons pe_str (pa_cons (pe_callTy call_str_int (by rfl) T.z_str (by decide +kernel) (pa_cons (pe_callB call_len_seq (by rfl) T.z_len (by decide +kernel) (pa_cons (pe_ix ix_tup (pv 0) pe_int (fun _ _ => rfl)) pa_nil)) pa_nil)) pa_nil))))
    (pss_cons (ps_for PassesOwn.never rfl (pi_tup (pe_ix ix_tup (pv 0) pe_int (fun _ _ => rfl))) (pg_name (i := 2) sc_player_words.nd rfl (Or.inl rfl))
      (pss_one (ps_expr (pe_bm PySem.F.plainAttrs_list PySem.F.slot_list_extend PySem.F.type_list_extend mt_extend (pv 1) (pa_cons (pe_call G_player_words (hr.mono (by omega)) rfl T.g_player_words T.k_player_words T.b_player_words .nil pass0 (pa_cons (pv 2) pa_nil)) pa_nil)))))
    (pss_one (ps_ret (pv 1)))))
      pss_nil)
    (pss_cons (ps_asg (pv 0) (pg_tup rfl (pgs_cons (pg_name (i := 3) sc_player_words.nd rfl (Or.inl rfl)) (pgs_cons (pg_name (i := 4) sc_player_words.nd rfl (Or.inl rfl)) (pgs_cons (pg_name (i := 5) sc_player_words.nd rfl (Or.inl rfl)) (pgs_cons (pg_name (i := 6) sc_player_words.nd rfl (Or.inl rfl)) pgs_nil))))))
    (pss_cons (ps_set (i := 1) sc_player_words.nd rfl (Or.inl rfl) (pe_lst (pa_cons pe_str (pa_cons (pv 4) (pa_cons (pe_callTy call_str_int (by rfl) T.z_str (by decide +kernel) (pa_cons (pv 5) pa_nil)) (pa_cons (pe_callTy call_str_int (by rfl) T.z_str (by decide +kernel) (pa_cons (pe_callB call_len_seq (by rfl) T.z_len (by decide +kernel) (pa_cons (pv 6) pa_nil)) pa_nil)) pa_nil))))))
    (pss_cons (ps_for PassesOwn.never rfl (pi_tup (pv 6)) (pg_tup rfl (pgs_cons (pg_name (i := 7) sc_player_words.nd rfl (Or.inl rfl)) (pgs_cons (pg_name (i := 2) sc_player_words.nd rfl (Or.inl rfl)) pgs_nil)))
      (pss_one (ps_expr (pe_bm PySem.F.plainAttrs_list PySem.F.slot_list_extend PySem.F.type_list_extend mt_extend (pv 1) (pa_cons (pe_lst (pa_cons (pe_callTy call_str_int (by rfl) T.z_str (by decide +kernel) (pa_cons (pv 7) pa_nil)) (StX.pa_star (pe_call G_player_words (hr.mono (by omega)) rfl T.g_player_words T.k_player_words T.b_player_words .nil pass0 (pa_cons (pv 2) pa_nil)) pa_nil))) pa_nil)))))
    (pss_one (ps_ret (pv 1)))))))), ?_⟩
  cases e with
  | say b =>
    rw [Pl.d_say] at d
    rw [plWords_say] at q
    cases d with
    | @tup a xs ds hs ha =>
    cases ha with
    | cons h1 h2 =>
    cases h1
    cases h2 with
    | cons h3 h4 =>
    cases h3
    cases h4
    refine ⟨_, rfl, a, _, 0, _, rfl, rfl, hs, atI_nat (j := 0) rfl, ?_⟩
    refine ⟨rfl, _, rfl, iteT ?_⟩
    refine ⟨_, rfl, a, _, 1, _, rfl, rfl, hs, atI_nat (j := 1) rfl, ?_⟩
    cases b
    · refine ⟨false, rfl, iteF ⟨by show 2 ≤ sizeLine; decide, fun L hL => ?_⟩⟩
      exact q L _ (Gm.same_new hL _) hL upd_same
    · refine ⟨true, rfl, iteT ⟨by show 2 ≤ sizeLine; decide, fun L hL => ?_⟩⟩
      exact q L _ (Gm.same_new hL _) hL upd_same
  | toss ps =>
    cases k with
    | zero => cases g
    | succ k =>
    have hsp' := hsp k rfl
    rw [plFit_toss] at g
    rw [Pl.d_toss] at d
    rw [plWords_toss] at q hl
    simp only [List.length_cons] at hl
    cases d with
    | @tup a xs ds hs ha =>
    cases ha with
    | cons h1 h2 =>
    cases h1
    cases h2 with
    | cons h3 h4 =>
    cases h4
    cases h3 with
    | @tup tp vs ds2 hs2 ha2 =>
    have lv : vs.length = ps.length := (DpAll.len ha2).trans (List.length_map _)
    refine ⟨_, rfl, a, _, 0, _, rfl, rfl, hs, atI_nat (j := 0) rfl, ?_⟩
    refine ⟨rfl, _, rfl, iteF ?_⟩
    refine ⟨_, rfl, a, _, 0, _, rfl, rfl, hs, atI_nat (j := 0) rfl, ?_⟩
    refine ⟨rfl, _, rfl, iteT ?_⟩
    refine ⟨_, rfl, a, _, 1, _, rfl, rfl, hs, atI_nat (j := 1) rfl, tp, _, rfl, .inr hs2, ((ps.length : Nat) : Int), by rw [lv], small_log (by omega) (by omega), by show 2 ≤ sizeLine; decide, fun L hL => ?_⟩
    have m0 := Gm.same_new hL (.lst [V.str "toss", V.str (numS ((ps.length : Nat) : Int))])
    have e0 : (upd H L (.lst [V.str "toss", V.str (numS ((ps.length : Nat) : Int))])) L = some (.lst [V.str "toss", V.str (numS ((ps.length : Nat) : Int))]) := upd_same
    refine ⟨_, rfl, a, _, 1, _, rfl, rfl, sqT_mono m0 hs, atI_nat (j := 1) rfl, tp, rfl, ⟨_, sqT_mono m0 hs2⟩, ?_⟩
    refine for_it walk_tup (fun t σ H' => (∃ y2 y3 y4 y5 y6 y7, σ = [some (.ref a), some (.ref L), y2, y3, y4, y5, y6, y7]) ∧ Same H H' ∧ H' L = some (.lst (V.str "toss" :: V.str (numS ((ps.length : Nat) : Int)) :: ((ps.take t).flatMap plWords).map V.str))) ⟨⟨none, none, none, none, none, none, rfl⟩, m0, e0⟩ (fun t σ H' _ h => sqT_mono h.2.1 hs2) ?_ ?_
    · rintro t y σ H1 H2 ht ⟨⟨y2, y3, y4, y5, y6, y7, rfl⟩, m1, e1⟩ ⟨rfl, ey⟩
      obtain ⟨x, er⟩ : ∃ x, ps[t]? = some x := ⟨ps[t]'(by rw [← lv]; exact ht), List.getElem?_eq_getElem _⟩
      obtain ⟨y', ey', dy⟩ := DpAll.get ha2 (i := t) (d := Pl.d x) (by rw [List.getElem?_map, er]; rfl)
      rw [ey] at ey'
      cases ey'
      have gx := g.2 x (List.mem_of_getElem? er)
      have hone : ((ps.take t).flatMap plWords).length + (plWords x).length ≤ (ps.flatMap plWords).length := flatMap_one er
      refine ⟨_, rfl, .inl ⟨rfl, _, SqL.of e1⟩, _, rfl, hsp' _ _ _ _ ⟨_, x, rfl, dp_mono m1 _ _ dy, gx, by omega, fun L2 H3 m3 hL2 e3 => ?_⟩⟩
      refine ⟨L, L2, _, _, rfl, rfl, m3 _ _ e1, e3, ?_, ⟨_, _, _, _, _, _, rfl⟩, fun c o eb => ?_, ?_⟩
      · simp only [List.length_map, List.length_cons]
        exact Nat.le_trans (show ((ps.take t).flatMap plWords).length + 1 + 1 + (plWords x).length ≤ 1000002 by omega) (by decide)
      · rw [upd_ne (ne_of_none eb hL)]
        exact m3 _ _ (m1 _ _ eb)
      · rw [upd_same, flatMap_take er, List.map_append]
        rfl
    · rintro σ H1 ⟨⟨y2, y3, y4, y5, y6, y7, rfl⟩, m1, e1⟩
      rw [lv, List.take_length] at e1
      exact ⟨_, rfl, q L _ m1 hL e1⟩
  | ask s n parts =>
    cases k with
    | zero => cases g
    | succ k =>
    have hsp' := hsp k rfl
    rw [plFit_ask] at g
    obtain ⟨g1, g2, g3, g4, g5⟩ := g
    rw [Pl.d_ask] at d
    rw [plWords_ask] at q hl
    simp only [List.length_cons] at hl
    cases d with
    | @tup a xs ds hs ha =>
    cases ha with
    | cons h1 h2 =>
    cases h1
    cases h2 with
    | cons h3 h4 =>
    cases h3
    cases h4 with
    | cons h5 h6 =>
    cases h5
    cases h6 with
    | cons h7 h8 =>
    cases h8
    cases h7 with
    | @tup tp vs ds2 hs2 ha2 =>
    have lv : vs.length = parts.length := (DpAll.len ha2).trans (List.length_map _)
    refine ⟨_, rfl, a, _, 0, _, rfl, rfl, hs, atI_nat (j := 0) rfl, ?_⟩
    refine ⟨rfl, _, rfl, iteF ?_⟩
    refine ⟨_, rfl, a, _, 0, _, rfl, rfl, hs, atI_nat (j := 0) rfl, ?_⟩
    refine ⟨rfl, _, rfl, iteF ?_⟩
    refine ⟨_, rfl, a, _, rfl, hs, rfl, _, _, rfl, _, _, rfl, _, _, rfl, _, _, rfl, rfl, ?_⟩
    refine ⟨_, rfl, _, rfl, n, rfl, small_log g2.1 (by omega), ?_⟩
    refine ⟨_, rfl, tp, _, rfl, .inr hs2, ((parts.length : Nat) : Int), by rw [lv], small_log (by omega) (by omega), by show 4 ≤ sizeLine; decide, fun L hL => ?_⟩
    have m0 := Gm.same_new hL (.lst [V.str "ask", V.str s, V.str (numS n), V.str (numS ((parts.length : Nat) : Int))])
    have e0 : (upd H L (.lst [V.str "ask", V.str s, V.str (numS n), V.str (numS ((parts.length : Nat) : Int))])) L = some (.lst [V.str "ask", V.str s, V.str (numS n), V.str (numS ((parts.length : Nat) : Int))]) := upd_same
    refine ⟨_, rfl, tp, rfl, ⟨_, sqT_mono m0 hs2⟩, ?_⟩
    refine for_it walk_tup (fun t σ H' => (∃ y0 y2 y3 y4 y5 y6 y7, σ = [y0, some (.ref L), y2, y3, y4, y5, y6, y7]) ∧ Same H H' ∧ H' L = some (.lst (V.str "ask" :: V.str s :: V.str (numS n) :: V.str (numS ((parts.length : Nat) : Int)) :: ((parts.take t).flatMap ptWordsP).map V.str))) ⟨⟨_, _, _, _, _, _, _, rfl⟩, m0, e0⟩ (fun t σ H' _ h => sqT_mono h.2.1 hs2) ?_ ?_
    · rintro t y σ H1 H2 ht ⟨⟨y0, y2, y3, y4, y5, y6, y7, rfl⟩, m1, e1⟩ ⟨rfl, ey⟩
      obtain ⟨x, er⟩ : ∃ x, parts[t]? = some x := ⟨parts[t]'(by rw [← lv]; exact ht), List.getElem?_eq_getElem _⟩
      obtain ⟨y', ey', dy⟩ := DpAll.get ha2 (i := t) (d := partD x) (by rw [List.getElem?_map, er]; rfl)
      rw [ey] at ey'
      cases ey'
      have gx := g5 x (List.mem_of_getElem? er)
      have hone : ((parts.take t).flatMap ptWordsP).length + (ptWordsP x).length ≤ (parts.flatMap ptWordsP).length := flatMap_one er
      have hpw : (ptWordsP x).length = (plWords x.2).length + 1 := by unfold ptWordsP; rw [List.length_cons]
      cases dy with
      | @tup b ws ds3 hs3 ha3 =>
      cases ha3 with
      | cons k1 k2 =>
      cases k1
      cases k2 with
      | cons k3 k4 =>
      cases k4
      refine ⟨b, _, rfl, sqT_mono m1 hs3, rfl, _, _, rfl, _, _, rfl, rfl, ?_⟩
      refine ⟨_, rfl, .inl ⟨rfl, _, SqL.of e1⟩, _, rfl, x.1, rfl, small_log gx.1.1 (by omega), _, rfl, hsp' _ _ _ _ ⟨_, x.2, rfl, dp_mono m1 _ _ k3, gx.2, by omega, fun L2 H3 m3 hL2 e3 => ?_⟩⟩
      refine ⟨L2, _, rfl, .inr (SqL.of e3), ?_, fun L9 hL9 => ?_⟩
      · simp only [List.length_map, List.length_cons, List.length_append, List.length_nil]
        exact Nat.le_trans (show (plWords x.2).length + 0 + 1 ≤ 1000001 by omega) (by decide)
      have m9 := Gm.same_new hL9 (.lst (V.str (numS x.1) :: ((plWords x.2).map V.str ++ [])))
      refine ⟨L, L9, _, _, rfl, rfl, m9 _ _ (m3 _ _ e1), upd_same, ?_, ⟨_, _, _, _, _, _, _, rfl⟩, fun c o eb => ?_, ?_⟩
      · simp only [List.length_map, List.length_cons, List.length_append, List.length_nil]
        exact Nat.le_trans (show ((parts.take t).flatMap ptWordsP).length + 1 + 1 + 1 + 1 + ((plWords x.2).length + 0 + 1) ≤ 1000010 by omega) (by decide)
      · rw [upd_ne (ne_of_none eb hL)]
        exact m9 _ _ (m3 _ _ (m1 _ _ eb))
      · rw [upd_same, flatMap_take er, List.map_append]
        have e9 : ptWordsP x = numS x.1 :: plWords x.2 := rfl
        rw [e9, List.append_nil]
        rfl
    · rintro σ H1 ⟨⟨y0, y2, y3, y4, y5, y6, y7, rfl⟩, m1, e1⟩
      rw [lv, List.take_length] at e1
      exact ⟨_, rfl, q L _ m1 hL e1⟩
theorem ok_pw (T : Txt K mg file) : ∀ k : Nat, FnOk P w K mg base CX0 (k + 2) T.a_player_words T.fd_player_words ["player"] (spPW K k)
  | 0 => ok_pw_step T 0 (fun _ _ _ _ => False) ⟨fun _ _ _ _ h => h.elim, fun _ _ _ _ _ _ _ _ _ _ _ _ _ h => h.elim⟩ (fun j h => absurd h (by omega))
  | k + 1 => ok_pw_step T (k + 1) _ (ok_pw T k) (fun j h vs H Q E q => by
      obtain rfl : k = j := by omega
      exact q)
theorem ok_ptext (T : Txt K mg file) : FnOk P w K mg base CX0 11 T.a_player_text T.fd_player_text ["player"] (spPText K 8) := by
  have G_player_words : FnOk P w K mg base CX0 10 T.a_player_words T.fd_player_words ["player"] (spPW K 8) := ok_pw T 8
  refine T.F_player_text.ok sc_player_text (fun vs H Q E h => ?_) (fun cdv A outer s H vs Q E hr h => ?_)
  · obtain ⟨r, rs, rfl, _⟩ := h
    rfl
  obtain ⟨v, p, rfl, d, g, hl, hsum, q⟩ := h
  refine ⟨_, (pss_one (ps_ret (pe_join pe_str (pe_call G_player_words (hr.mono (by decide)) rfl T.g_player_words T.k_player_words T.b_player_words .nil pass0 (pa_cons (pv 0) pa_nil))))), ?_⟩
  refine ⟨⟨_, rfl⟩, _, rfl, v, p, rfl, d, g, hl, fun L H1 m1 hL e1 => ?_⟩
  refine ⟨_, L, plWords p, rfl, rfl, .inl (SqL.of e1), ?_, q H1 m1⟩
  have : (plWords p).length * (" " : Str).length = (plWords p).length := by
    rw [show (" " : Str).length = 1 from by decide +kernel, Nat.mul_one]
  rw [this]
  omega
end
end Toy
set_option Elab.async false
set_option linter.all false
set_option maxRecDepth 100000
set_option maxHeartbeats 4000000
/-! A call of an expression whose value is one of several defs: (f, g)[i](x). -/
namespace CaF
open PySem PySem.Calls PySem.W L2 PyProof.Rows
/-- what is called promises sp -/
def tCallF (tf : TE) (S : Addr → Sp → Prop) (t : TA) : TE := fun σ H Q => tf σ H fun x H1 => ∃ f sp, x = .ref f ∧ S f sp ∧ t σ H1 fun vs H2 => sp vs H2 Q E0
theorem pe_callF {X : Cx} {k : Nat} {func e : Expr} {es : List Expr} {pos : Pos} {tf : TE} {t : TA} {S : Addr → Sp → Prop}
    (hS : ∀ f sp, S f sp → ∃ fd ps, FnOk X.prog X.w X.K X.mg X.base CX0 k f fd ps sp ∧ keepIn X.K (.ref f) = true ∧ L2.Binds X.K fd ps []) (hr : Room k X.A) (hf : PE X func tf) (ha : PA X (e :: es) t)
    (hc : eval (.Call func (e :: es) [] pos) X.env = (do
          let f ← eval func X.env
          callWith pos f [] (backTo pos (starEach (e :: es) X.env)) (backToKw pos (keywordEach [] X.env))) := by rfl)
    (hs : starEach (e :: es) X.env = (false, eval e X.env) :: starEach es X.env := by rfl) (hb : ((backTo pos (starEach es X.env)).any fun x => x.fst) = false := by rfl) : PE X (.Call func (e :: es) [] pos) (tCallF tf S t) := by
  refine ⟨fun pins s σ H Q I h => ?_⟩
  refine Call_ (thn (hf.run pins s σ H _ I h) fun u s1 ⟨x, H1, I1, r1, f, sp, ex, hSf, q⟩ => ?_) hc
  subst ex
  obtain rfl : u = Value.ref f := r1
  obtain ⟨fd, ps, F, hk, B⟩ := hS f sp hSf
  refine callWith_K (K := X.K) I1.mod.kin hk (thn (ha.run pos pins s1 σ H1 _ I1 q) fun us s2 ⟨vs, H2, I2, r2, q2⟩ => ⟨I2.mod.kin.keeps I2.bk, ?_⟩) hs hb
  exact run_fn (dvs := []) F hr B .nil pass0 I2 r2 (by rw [List.append_nil]; exact q2)
end CaF
set_option Elab.async false
set_option linter.all false
set_option maxRecDepth 100000
set_option maxHeartbeats 4000000
namespace Toy
open PySem L2 NdefX Gm Pz
open Mine hiding same_new
theorem seq_k {c : TT} {t u v : TS} {D : Ends} {σ : L2.St} {H : Hp} (I : L2.St → Hp → Prop) (rest : ∀ σ H, I σ H → v D σ H) (h : (∀ σ H, I σ H → v D σ H) → tSeq (tIfS c t u) v D σ H) : tSeq (tIfS c t u) v D σ H := h rest
/-- the numbers of a script, drawn one after the other -/
def PoolAt (H : Hp) (a l : Addr) (ns : List Int) : Prop := ∃ (p1 p2 p3 p4 p5 : Int), H a = some (.lst [.ref l, .int p1, .int p2, .int p3, .int p4, .int p5]) ∧ H l = some (.lst (ns.map V.int)) ∧ l ≠ a ∧ 0 ≤ p1
theorem PoolAt.same {H H' : Hp} {a l : Addr} {ns : List Int} (h : PoolAt H a l ns) (s : Same H H') : PoolAt H' a l ns :=
  let ⟨p1, p2, p3, p4, p5, e, el, n, z⟩ := h
  ⟨p1, p2, p3, p4, p5, s _ _ e, s _ _ el, n, z⟩
theorem PoolAt.ne {H : Hp} {a l b : Addr} {ns : List Int} (h : PoolAt H a l ns) (n : H b = none) : b ≠ a ∧ b ≠ l := by
  obtain ⟨_, _, _, _, _, e, el, _⟩ := h
  refine ⟨fun z => ?_, fun z => ?_⟩
  · rw [z, e] at n
    cases n
  · rw [z, el] at n
    cases n
theorem PoolAt.upd {H : Hp} {a l b : Addr} {ns : List Int} {o : HO} (h : PoolAt H a l ns) (n : b ≠ a ∧ b ≠ l) : PoolAt (upd H b o) a l ns :=
  let ⟨p1, p2, p3, p4, p5, e, el, n', z⟩ := h
  ⟨p1, p2, p3, p4, p5, by rw [upd_ne (Ne.symm n.1)]; exact e, by rw [upd_ne (Ne.symm n.2)]; exact el, n', z⟩
def spPool (K : PySem.W.Frag) : Sp := fun vs H Q _ => ∃ (s : Addr) (ns : List Int) (b : Int), vs = [.ref s, .int b] ∧ SqL K H s (ns.map V.int) ∧ ∀ a l H', Same H H' → H a = none → PoolAt H' a l ns → Q (.ref a) H'
def spDraw : Sp := fun vs H Q _ => ∃ (a l : Addr) (ns : List Int) (size : Int), vs = [.ref a, .int size] ∧ PoolAt H a l ns ∧ 0 < size ∧ size ≤ 10000000 ∧ ∀ (r : Int) (H' : Hp), 0 ≤ r → r < size → But a H H' → PoolAt H' a l ns → Q (.int r) H'
section
variable {P : Program} {w : World} {K : PySem.W.Frag} {mg : Str → Option Value} {base : Heap} {file : Str}
theorem ok_draw (T : Txt K mg file) : FnOk P w K mg base CX0 1 T.a_law_draw T.fd_law_draw ["pool", "size"] spDraw := by
  refine T.F_law_draw.ok sc_law_draw (fun vs H Q E h => ?_) (fun cdv A outer s H vs Q E hr h => ?_)
  · obtain ⟨a, l, ns, z, rfl, _⟩ := h
    rfl
  obtain ⟨a, l, ns, size, rfl, hp, s0, s1, q⟩ := h
  refine ⟨_, (pss_cons (ps_if (PW.pt (pw_and (pt_cmpR op_le (pe_ix ix_list (pv 0) pe_int (fun _ _ => rfl)) pe_int (nomark _)) (pw_and (pt_cmpR op_le (pe_ix ix_list (pv 0) pe_int (fun _ _ => rfl)) pe_int (nomark _)) (pw_and1 (pt_cmpR op_lt (pe_ix ix_list (pv 0) pe_int (fun _ _ => rfl)) (pe_callB call_len_seq (by rfl) T.z_len (by decide +kernel) (pa_cons (pe_ix ix_list (pv 0) pe_int (fun _ _ => rfl)) pa_nil)) (nomark _))))))
      (pss_cons (ps_set (i := 2) sc_law_draw.nd rfl (Or.inl rfl) (pe_ix ix_list (pe_ix ix_list (pv 0) pe_int (fun _ _ => rfl)) (pe_ix ix_list (pv 0) pe_int (fun _ _ => rfl)) (fun _ _ => rfl)))
    (pss_cons (ps_asg (pe_op op_add (pe_ix ix_list (pv 0) pe_int (fun _ _ => rfl)) pe_int) (pg_sub (pv 0) pe_int set_list))
    (pss_cons (ps_asg (pe_op op_mod (pe_callTy call_int1 (by rfl) T.z_int (by decide +kernel) (pa_cons (pe_op op_add (pe_op op_mul (pe_ix ix_list (pv 0) pe_int (fun _ _ => rfl)) pe_int) (pv 2)) pa_nil)) pe_int) (pg_sub (pv 0) pe_int set_list))
    (pss_cons (ps_asg pe_int (pg_sub (pv 0) pe_int set_list))
    (pss_one (ps_if (pt_cmpR op_ge (pv 2) (pe_op op_pow pe_int pe_int) (nomark _))
      (pss_one (ps_asg (pv 2) (pg_sub (pv 0) pe_int set_list)))
      pss_nil))))))
      pss_nil)
    (pss_cons (ps_if (pt_cmpR op_gt (pe_ix ix_list (pv 0) pe_int (fun _ _ => rfl)) pe_int (nomark _))
      (pss_cons (ps_set (i := 3) sc_law_draw.nd rfl (Or.inl rfl) (pe_op op_mod (pe_callTy call_int1 (by rfl) T.z_int (by decide +kernel) (pa_cons (pe_ix ix_list (pv 0) pe_int (fun _ _ => rfl)) pa_nil)) (pv 1)))
    (pss_cons (ps_asg (pe_op op_fdivW (pe_ix ix_list (pv 0) pe_int (fun _ _ => rfl)) (pv 1)) (pg_sub (pv 0) pe_int set_list))
    (pss_cons (ps_asg pe_int (pg_sub (pv 0) pe_int set_list))
    (pss_one (ps_ret (pv 3))))))
      pss_nil)
    (pss_cons (ps_asg (pe_op op_sub (pe_ix ix_list (pv 0) pe_int (fun _ _ => rfl)) pe_int) (pg_sub (pv 0) pe_int set_list))
    (pss_cons (ps_asg (pe_op op_mod (pe_callTy call_int1 (by rfl) T.z_int (by decide +kernel) (pa_cons (pe_op op_add (pe_op op_mul (pe_ix ix_list (pv 0) pe_int (fun _ _ => rfl)) pe_int) pe_int) pa_nil)) pe_int) (pg_sub (pv 0) pe_int set_list))
    (pss_one (ps_ret (pe_op op_mod (pe_op op_mod (pe_callTy call_int1 (by rfl) T.z_int (by decide +kernel) (pa_cons (pe_op op_add (pe_op op_mul (pe_ix ix_list (pv 0) pe_int (fun _ _ => rfl)) pe_int) pe_int) pa_nil)) pe_int) (pv 1)))))))), ?_⟩
  have up : ∀ {H0 H1 : Hp} {o : HO}, But a H0 H1 → But a H0 (upd H1 a o) := fun b x o e n => by
    rw [upd_ne n]
    exact b x o e n
  refine seq_k (fun σ H' => (∃ y2 y3, σ = [some (.ref a), some (.int size), y2, y3]) ∧ But a H H' ∧ PoolAt H' a l ns) ?_ (fun k => ?_)
  rotate_left
  · have done := k _ H ⟨⟨none, none, rfl⟩, But.same (Same.refl _), hp⟩
    obtain ⟨p1, p2, p3, p4, p5, e, el, nl, z1⟩ := hp
    refine ⟨_, rfl, a, _, 2, _, rfl, rfl, SqL.of e, atI_nat (j := 2) rfl, _, _, rfl, rfl, _, rfl, ite2 (fun _ => ?_) (fun _ => iteF done)⟩
    refine ⟨_, rfl, a, _, 4, _, rfl, rfl, SqL.of e, atI_nat (j := 4) rfl, _, _, rfl, rfl, _, rfl, ite2 (fun _ => ?_) (fun _ => iteF done)⟩
    refine ⟨_, rfl, a, _, 1, _, rfl, rfl, SqL.of e, atI_nat (j := 1) rfl, _, rfl, a, _, 0, _, rfl, rfl, SqL.of e, atI_nat (j := 0) rfl, l, _, rfl, .inl (SqL.of el), _, _, rfl, rfl, _, rfl, ite2 (fun z2 => ?_) (fun _ => done)⟩
    clear done
    have z2' : p1 < (ns.length : Int) := by have := of_decide_eq_true z2; rw [List.length_map] at this; exact this
    obtain ⟨cell, ec⟩ : ∃ cell, ns[p1.toNat]? = some cell := ⟨_, List.getElem?_eq_getElem (by omega)⟩
    refine ⟨_, rfl, a, _, 0, _, rfl, rfl, SqL.of e, atI_nat (j := 0) rfl, _, rfl, a, _, 1, _, rfl, rfl, SqL.of e, atI_nat (j := 1) rfl, l, _, p1, .int cell, rfl, rfl, SqL.of el, at_of (j := p1.toNat) (by omega) (by rw [List.getElem?_map, ec]; rfl), ?_⟩
    -- one more is read
    refine ⟨_, rfl, a, _, 1, _, rfl, rfl, SqL.of e, atI_nat (j := 1) rfl, _, _, rfl, rfl, _, rfl, a, _, 1, 1, rfl, rfl, e, rfl, ?_⟩
    have b1 := up (o := .lst [.ref l, .int (p1 + 1), .int p2, .int p3, .int p4, .int p5]) (But.same (p := a) (Same.refl H))
    have l1 := b1 _ _ el nl
    have e1 : (upd H a (.lst [.ref l, .int (p1 + 1), .int p2, .int p3, .int p4, .int p5])) a = _ := upd_same
    revert b1 l1 e1
    show _ → _ → _ → tSeq _ _ _ _ (upd H a (.lst [.ref l, .int (p1 + 1), .int p2, .int p3, .int p4, .int p5]))
    generalize upd H a (.lst [.ref l, .int (p1 + 1), .int p2, .int p3, .int p4, .int p5]) = H1
    intro b1 l1 e1
    refine ⟨_, rfl, a, _, 3, _, rfl, rfl, SqL.of e1, atI_nat (j := 3) rfl, _, _, rfl, rfl, .inr ⟨by decide, by decide⟩, _, rfl, _, _, rfl, rfl, .inl ⟨_, rfl, _, _, rfl, rfl, (by show (0 : Int) < 2147483647; decide), _, rfl, a, _, 3, 3, rfl, rfl, e1, rfl, ?_⟩⟩
    have b2 := up (o := .lst [.ref l, .int (p1 + 1), .int p2, .int ((p3 * 31 + cell) % 2147483647), .int p4, .int p5]) b1
    have l2 := (up (o := .lst [.ref l, .int (p1 + 1), .int p2, .int ((p3 * 31 + cell) % 2147483647), .int p4, .int p5]) (But.same (p := a) (Same.refl H1))) _ _ l1 nl
    have e2 : (upd H1 a (.lst [.ref l, .int (p1 + 1), .int p2, .int ((p3 * 31 + cell) % 2147483647), .int p4, .int p5])) a = _ := upd_same
    revert b2 l2 e2
    show _ → _ → _ → tSeq _ _ _ _ (upd H1 a (.lst [.ref l, .int (p1 + 1), .int p2, .int ((p3 * 31 + cell) % 2147483647), .int p4, .int p5]))
    generalize upd H1 a (.lst [.ref l, .int (p1 + 1), .int p2, .int ((p3 * 31 + cell) % 2147483647), .int p4, .int p5]) = H2
    generalize (p3 * 31 + cell) % 2147483647 = q3
    intro b2 l2 e2
    refine ⟨_, rfl, a, _, 4, 4, rfl, rfl, e2, rfl, ?_⟩
    have b3 := up (o := .lst [.ref l, .int (p1 + 1), .int p2, .int q3, .int 7, .int p5]) b2
    have l3 := (up (o := .lst [.ref l, .int (p1 + 1), .int p2, .int q3, .int 7, .int p5]) (But.same (p := a) (Same.refl H2))) _ _ l2 nl
    have e3 : (upd H2 a (.lst [.ref l, .int (p1 + 1), .int p2, .int q3, .int 7, .int p5])) a = _ := upd_same
    refine ⟨_, rfl, _, _, rfl, rfl, ⟨by decide, by decide, by decide⟩, _, _, rfl, rfl, _, rfl, ite2 (fun _ => ?_) (fun _ => ?_)⟩
    · refine ⟨_, rfl, _, rfl, a, _, 2, 2, rfl, rfl, e3, rfl, k _ _ ⟨⟨_, _, rfl⟩, up b3, p1 + 1, cell, q3, 7, p5, upd_same, ?_, nl, by omega⟩⟩
      rw [upd_ne nl]
      exact l3
    · exact k _ _ ⟨⟨_, _, rfl⟩, b3, p1 + 1, p2, q3, 7, p5, e3, l3, nl, by omega⟩
  rintro σ H1 ⟨⟨y2, y3, rfl⟩, b1, p1, p2, p3, p4, p5, e1, l1, nl, z1⟩
  refine seq_k (fun σ H' => (∃ y2 y3, σ = [some (.ref a), some (.int size), y2, y3]) ∧ H' = H1 ∧ p2 ≤ 0) ?_ (fun k => ?_)
  rotate_left
  · refine ⟨_, rfl, a, _, 2, _, rfl, rfl, SqL.of e1, atI_nat (j := 2) rfl, _, _, rfl, rfl, _, rfl, ite2 (fun z => ?_) (fun z => ?_)⟩
    rotate_left
    · exact k _ _ ⟨⟨_, _, rfl⟩, rfl, by
        have := of_decide_eq_false (Bool.eq_false_iff.mpr z)
        omega⟩
    have lg : size.natAbs < 2 ^ 100 := by omega
    refine ⟨_, rfl, a, _, 2, _, rfl, rfl, SqL.of e1, atI_nat (j := 2) rfl, .inl ⟨_, rfl, _, rfl, _, _, rfl, rfl, s0, ?_⟩⟩
    refine ⟨_, rfl, a, _, 2, _, rfl, rfl, SqL.of e1, atI_nat (j := 2) rfl, _, rfl, _, _, rfl, rfl, wide_div s0 lg (by decide) (by decide), _, rfl, a, _, 2, 2, rfl, rfl, e1, rfl, ?_⟩
    have b2 := up (o := .lst [.ref l, .int p1, .int (p2 / size), .int p3, .int p4, .int p5]) b1
    have l2 := (up (o := .lst [.ref l, .int p1, .int (p2 / size), .int p3, .int p4, .int p5]) (But.same (p := a) (Same.refl H1))) _ _ l1 nl
    have e2 : (upd H1 a (.lst [.ref l, .int p1, .int (p2 / size), .int p3, .int p4, .int p5])) a = _ := upd_same
    refine ⟨_, rfl, a, _, 4, 4, rfl, rfl, e2, rfl, ?_⟩
    refine ⟨_, rfl, q _ _ (Int.emod_nonneg _ (by omega)) (Int.emod_lt_of_pos _ s0) (up b2) ⟨p1, p2 / size, p3, 0, p5, upd_same, ?_, nl, z1⟩⟩
    rw [upd_ne nl]
    exact l2
  rintro σ H2 ⟨⟨y2, y3, rfl⟩, rfl, _⟩
  refine ⟨_, rfl, a, _, 4, _, rfl, rfl, SqL.of e1, atI_nat (j := 4) rfl, _, _, rfl, rfl, _, rfl, a, _, 4, 4, rfl, rfl, e1, rfl, ?_⟩
  have b2 := up (o := .lst [.ref l, .int p1, .int p2, .int p3, .int (p4 - 1), .int p5]) b1
  have l2 := (up (o := .lst [.ref l, .int p1, .int p2, .int p3, .int (p4 - 1), .int p5]) (But.same (p := a) (Same.refl H2))) _ _ l1 nl
  have e2 : (upd H2 a (.lst [.ref l, .int p1, .int p2, .int p3, .int (p4 - 1), .int p5])) a = _ := upd_same
  refine ⟨_, rfl, a, _, 3, _, rfl, rfl, SqL.of e2, atI_nat (j := 3) rfl, _, _, rfl, rfl, .inr ⟨by decide, by decide⟩, _, _, rfl, rfl, .inl ⟨_, rfl, _, _, rfl, rfl, (by show (0 : Int) < 2147483647; decide), _, rfl, a, _, 3, 3, rfl, rfl, e2, rfl, ?_⟩⟩
  have b3 := up (o := .lst [.ref l, .int p1, .int p2, .int ((p3 * 48271 + 12345) % 2147483647), .int (p4 - 1), .int p5]) b2
  have l3 := (up (o := .lst [.ref l, .int p1, .int p2, .int ((p3 * 48271 + 12345) % 2147483647), .int (p4 - 1), .int p5]) (But.same (p := a) (Same.refl _))) _ _ l2 nl
  have e3 : (upd (upd H2 a (.lst [.ref l, .int p1, .int p2, .int p3, .int (p4 - 1), .int p5])) a (.lst [.ref l, .int p1, .int p2, .int ((p3 * 48271 + 12345) % 2147483647), .int (p4 - 1), .int p5])) a = _ := upd_same
  refine ⟨_, rfl, a, _, 3, _, rfl, rfl, SqL.of e3, atI_nat (j := 3) rfl, _, _, rfl, rfl, .inr ⟨by decide, by decide⟩, _, _, rfl, rfl, .inl ⟨_, rfl, _, _, rfl, rfl, (by show (0 : Int) < 2147483647; decide), _, rfl, _, _, rfl, rfl, s0, ?_⟩⟩
  exact q _ _ (Int.emod_nonneg _ (by omega)) (Int.emod_lt_of_pos _ s0) b3 ⟨p1, p2, _, p4 - 1, p5, e3, l3, nl, z1⟩
theorem ok_pool (T : Txt K mg file) : FnOk P w K mg base CX0 1 T.a_law_pool T.fd_law_pool ["script", "budget"] (spPool K) := by
  refine T.F_law_pool.ok sc_law_pool (fun vs H Q E h => ?_) (fun cdv A outer s H vs Q E hr h => ?_)
  · obtain ⟨a, ns, b, rfl, _⟩ := h
    rfl
  obtain ⟨sa, ns, b, rfl, hs, q⟩ := h
  refine ⟨_, (pss_one (ps_ret (pe_lst (pa_cons (pe_callTy call_list_of (by rfl) T.z_list (by decide +kernel) (pa_cons (pv 0) pa_nil)) (pa_cons pe_int (pa_cons pe_int (pa_cons pe_int (pa_cons pe_int (pa_cons (pv 1) pa_nil))))))))), ?_⟩
  refine ⟨_, rfl, sa, _, rfl, .inl hs, fun l hl => ?_⟩
  have m1 := same_new hl (.lst (ns.map V.int))
  refine ⟨_, rfl, by show 6 ≤ sizeLine; decide, fun a ha => ?_⟩
  have m2 := same_new ha (.lst [.ref l, .int 0, .int 0, .int 1, .int 0, .int b])
  refine q a l _ (m1.trans m2) (none_of_same m1 ha) ⟨0, 0, 1, 0, b, upd_same, m2 _ _ upd_same, fun z => ?_, by omega⟩
  rw [← z, upd_same] at ha
  cases ha
end
end Toy
set_option Elab.async false
set_option linter.all false
set_option maxRecDepth 100000
set_option maxHeartbeats 4000000
namespace Toy
open PySem L2 NdefX Gm Pz
open Mine hiding same_new
def WdB (b : Nat) (w : Str) : Prop := w.length ≤ b ∧ 32 ∉ signs w
def wdB (b : Nat) (w : Str) : Bool := decide (w.length ≤ b) && !(signs w).any (fun c => decide (c = 32))
theorem wdB_ok {b : Nat} {w : Str} (h : wdB b w = true) : WdB b w := by
  unfold wdB at h
  rw [Bool.and_eq_true, Bool.not_eq_true'] at h
  refine ⟨of_decide_eq_true h.1, fun z => ?_⟩
  have := List.any_eq_false.mp h.2 32 z
  simp at this
theorem WdB.mono {b c : Nat} {w : Str} (h : WdB b w) (l : b ≤ c) : WdB c w := ⟨Nat.le_trans h.1 l, h.2⟩
theorem at_mem {xs : List Str} {r : Int} (h0 : 0 ≤ r) (h1 : r < (xs.length : Int)) : ∃ x ∈ xs, atI (xs.map V.str) r = some (.str x) := by
  have hk : r.toNat < xs.length := by omega
  exact ⟨xs[r.toNat], List.getElem_mem _, at_of (j := r.toNat) (by omega) (by rw [List.getElem?_map, List.getElem?_eq_getElem hk] <;> rfl)⟩
def spMenu : Sp := fun vs H Q _ => ∃ (a l : Addr) (ns : List Int), vs = [.ref a] ∧ PoolAt H a l ns ∧ ∀ x H', But a H H' → PoolAt H' a l ns → WdB 13 x → Q (.str x) H'
def menu1 : List Str := ["say", "yes", "no", "toss", "ask", "when", "p", "r", "last", "made", "kept", "0", "1", "2", "3", "5", "16", "17"]
def menu2 : List Str := ["63", "64", "65", "65535", "65536", "+", "-", "*", "/", "mod", "<", "=", "", "?", "01", "maybe", "foo"]
def menu3 : List Str := ["answer", "end", "let", "unless", "tell", "abcdefghijkl", "abcdefghijklm", "Say", "x1", "1x", "variable"]
theorem menu_ok : ∀ x ∈ menu1 ++ menu2 ++ menu3, wdB 13 x = true := by decide +kernel
section
variable {P : Program} {w : World} {K : PySem.W.Frag} {mg : Str → Option Value} {base : Heap} {file : Str}
theorem ok_menu (T : Txt K mg file) : FnOk P w K mg base CX0 2 T.a_law_menu T.fd_law_menu ["pool"] spMenu := by
  have G_law_draw : FnOk P w K mg base CX0 1 T.a_law_draw T.fd_law_draw ["pool", "size"] spDraw := ok_draw T
  refine T.F_law_menu.ok sc_law_menu (fun vs H Q E h => ?_) (fun cdv A outer s H vs Q E hr h => ?_)
  · obtain ⟨a, l, ns, rfl, _⟩ := h
    rfl
  obtain ⟨a, l, ns, rfl, hp, q⟩ := h
  refine ⟨_, (pss_cons (ps_set (i := 1) sc_law_menu.nd rfl (Or.inl rfl) (pe_lst (pa_cons pe_str (pa_cons pe_str (pa_cons pe_str (pa_cons pe_str (pa_cons pe_str (pa_cons pe_str (pa_cons pe_str (pa_cons pe_str (pa_cons pe_str (pa_cons pe_str (pa_cons pe_str (pa_cons pe_str (pa_cons pe_str (pa_cons pe_str (pa_cons pe_str (pa_cons pe_str (pa_cons pe_str (pa_cons pe_str pa_nil))))))))))))))))))))
    (pss_cons (ps_set (i := 1) sc_law_menu.nd rfl (Or.inl rfl) (pe_op op_cat (pv 1) (pe_lst (pa_cons pe_str (pa_cons pe_str (pa_cons pe_str (pa_cons pe_str (pa_cons pe_str (pa_cons pe_str (pa_cons pe_str (pa_cons pe_str (pa_cons pe_str (pa_cons pe_str (pa_cons pe_str (pa_cons pe_str (pa_cons pe_str (pa_cons pe_str (pa_cons pe_str (pa_cons pe_str (pa_cons pe_str pa_nil))))))))))))))))))))
    (pss_cons (ps_set (i := 1) sc_law_menu.nd rfl (Or.inl rfl) (pe_op op_cat (pv 1) (pe_lst (pa_cons pe_str (pa_cons pe_str (pa_cons pe_str (pa_cons pe_str (pa_cons pe_str (pa_cons pe_str (pa_cons pe_str (pa_cons pe_str (pa_cons pe_str (pa_cons pe_str (pa_cons pe_str pa_nil))))))))))))))
    (pss_one (ps_ret (pe_ix ix_list (pv 1) (pe_call G_law_draw (hr.mono (by decide)) rfl T.g_law_draw T.k_law_draw T.b_law_draw .nil pass0 (pa_cons (pv 0) (pa_cons (pe_callB call_len_seq (by rfl) T.z_len (by decide +kernel) (pa_cons (pv 1) pa_nil)) pa_nil))) (fun _ _ => rfl))))))), ?_⟩
  have big : ∀ n : Nat, n ≤ 100000 → n ≤ sizeLine := fun n h => Nat.le_trans h (by decide)
  refine ⟨big 18 (by decide), fun L0 hL0 => ?_⟩
  have k0 : Same H (upd H L0 (.lst (menu1.map V.str))) := same_new hL0 _
  have e0 : (upd H L0 (.lst (menu1.map V.str))) L0 = some (.lst (menu1.map V.str)) := upd_same
  revert k0 e0
  show _ → _ → tSeq _ _ _ _ (upd H L0 (.lst (menu1.map V.str)))
  generalize upd H L0 (.lst (menu1.map V.str)) = H0
  intro k0 e0
  refine ⟨_, rfl, big 17 (by decide), fun L1 hL1 => ?_⟩
  have k1 := same_new hL1 (.lst (menu2.map V.str))
  refine ⟨L0, L1, _, _, rfl, rfl, k1 _ _ e0, upd_same, big 35 (by decide), fun L2 hL2 => ?_⟩
  have k2 : Same H (upd (upd H0 L1 (.lst (menu2.map V.str))) L2 (.lst ((menu1 ++ menu2).map V.str))) := k0.trans (k1.trans (same_new hL2 _))
  have e2 : (upd (upd H0 L1 (.lst (menu2.map V.str))) L2 (.lst ((menu1 ++ menu2).map V.str))) L2 = some (.lst ((menu1 ++ menu2).map V.str)) := upd_same
  revert k2 e2
  show _ → _ → tSeq _ _ _ _ (upd (upd H0 L1 (.lst (menu2.map V.str))) L2 (.lst ((menu1 ++ menu2).map V.str)))
  generalize upd (upd H0 L1 (.lst (menu2.map V.str))) L2 (.lst ((menu1 ++ menu2).map V.str)) = H2
  intro k2 e2
  refine ⟨_, rfl, big 11 (by decide), fun L3 hL3 => ?_⟩
  have k3 := same_new hL3 (.lst (menu3.map V.str))
  refine ⟨L2, L3, _, _, rfl, rfl, k3 _ _ e2, upd_same, big 46 (by decide), fun L4 hL4 => ?_⟩
  have hn : (upd H2 L3 (.lst (menu3.map V.str))) L4 = none := hL4
  have k34 := k2.trans k3
  have nL := (hp.same k34).ne hn
  have k4 : Same H (upd (upd H2 L3 (.lst (menu3.map V.str))) L4 (.lst ((menu1 ++ menu2 ++ menu3).map V.str))) := k34.trans (same_new hL4 _)
  have e4 : (upd (upd H2 L3 (.lst (menu3.map V.str))) L4 (.lst ((menu1 ++ menu2 ++ menu3).map V.str))) L4 = some (.lst ((menu1 ++ menu2 ++ menu3).map V.str)) := upd_same
  refine ⟨_, rfl, _, rfl, _, rfl, L4, _, rfl, .inl (SqL.of e4), a, l, ns, _, rfl, hp.same k4, by decide, by decide, fun r H5 r0 r1 b5 p5 => ?_⟩
  have r1 : r < ((menu1 ++ menu2 ++ menu3).length : Int) := r1
  obtain ⟨x, hx, ex⟩ := at_mem (xs := menu1 ++ menu2 ++ menu3) r0 r1
  refine ⟨L4, _, _, _, rfl, rfl, SqL.of (b5 _ _ e4 nL.1), ex, q x H5 ((But.same k4).trans b5) p5 (wdB_ok (menu_ok x hx))⟩
end
end Toy
set_option Elab.async false
set_option linter.all false
set_option maxRecDepth 100000
set_option maxHeartbeats 4000000
namespace Toy
open PySem L2 NdefX Gm Pz
open Mine hiding same_new
def spValue : Sp := fun vs H Q _ => ∃ (a l : Addr) (ns : List Int) (deep : Int), vs = [.ref a, .int deep] ∧ PoolAt H a l ns ∧ 0 < deep ∧ deep ≤ 100 ∧ ∀ (L : Addr) (ws : List Str) (H' : Hp), But a H H' → PoolAt H' a l ns → H L = none → H' L = some (.lst (ws.map V.str)) → (ws.length : Int) ≤ 3 * deep + 1 → (∀ w ∈ ws, WdB 13 w) → Q (.ref L) H'
def vs1 : List Str := ["+", "-", "*", "/", "mod", "<", "="]
def vs2 : List Str := ["last", "made", "kept", "7"]
def vs3 : List Str := ["last", "kept", "65535", "0"]
theorem vs_ok : ∀ x ∈ vs1 ++ vs2 ++ vs3, wdB 13 x = true := by decide +kernel
section
variable {P : Program} {w : World} {K : PySem.W.Frag} {mg : Str → Option Value} {base : Heap} {file : Str}
theorem ok_value (T : Txt K mg file) : FnOk P w K mg base CX0 2 T.a_law_value T.fd_law_value ["pool", "deep"] spValue := by
  have G_law_draw : FnOk P w K mg base CX0 1 T.a_law_draw T.fd_law_draw ["pool", "size"] spDraw := ok_draw T
  refine T.F_law_value.ok sc_law_value (fun vs H Q E h => ?_) (fun cdv A outer s H vs Q E hr h => ?_)
  · obtain ⟨a, l, ns, d, rfl, _⟩ := h
    rfl
  obtain ⟨a, l, ns, deep, rfl, hp, d0, d1, q⟩ := h
  refine ⟨_, (pss_cons (ps_set (i := 2) sc_law_value.nd rfl (Or.inl rfl) (pe_lst pa_nil))
    (pss_cons (ps_set (i := 3) sc_law_value.nd rfl (Or.inl rfl) (pe_lst pa_nil))
    (pss_cons (ps_for PassesOwn.never rfl (pi_range1 (by rfl) T.z_range (pa_cons (pe_call G_law_draw (hr.mono (by decide)) rfl T.g_law_draw T.k_law_draw T.b_law_draw .nil pass0 (pa_cons (pv 0) (pa_cons (pv 1) pa_nil))) pa_nil)) (pg_name (i := 4) sc_law_value.nd rfl (Or.inl rfl))
      (pss_cons (ps_expr (pe_bm PySem.F.plainAttrs_list PySem.F.slot_list_append PySem.F.type_list_append mt_append (pv 2) (pa_cons (pe_ix ix_tup (pe_tup (pa_cons pe_str (pa_cons pe_str (pa_cons pe_str (pa_cons pe_str (pa_cons pe_str (pa_cons pe_str (pa_cons pe_str pa_nil)))))))) (pe_call G_law_draw (hr.mono (by decide)) rfl T.g_law_draw T.k_law_draw T.b_law_draw .nil pass0 (pa_cons (pv 0) (pa_cons pe_int pa_nil))) (fun _ _ => rfl)) pa_nil)))
    (pss_one (ps_if (pt_cmpR op_eq (pe_call G_law_draw (hr.mono (by decide)) rfl T.g_law_draw T.k_law_draw T.b_law_draw .nil pass0 (pa_cons (pv 0) (pa_cons pe_int pa_nil))) pe_int (nomark _))
      (pss_one (ps_expr (pe_bm PySem.F.plainAttrs_list PySem.F.slot_list_append PySem.F.type_list_append mt_append (pv 2) (pa_cons (pe_ix ix_tup (pe_tup (pa_cons pe_str (pa_cons pe_str (pa_cons pe_str (pa_cons pe_str pa_nil))))) (pe_call G_law_draw (hr.mono (by decide)) rfl T.g_law_draw T.k_law_draw T.b_law_draw .nil pass0 (pa_cons (pv 0) (pa_cons pe_int pa_nil))) (fun _ _ => rfl)) pa_nil))))
      (pss_one (ps_expr (pe_bm PySem.F.plainAttrs_list PySem.F.slot_list_append PySem.F.type_list_append mt_append (pv 3) (pa_cons (pe_ix ix_tup (pe_tup (pa_cons pe_str (pa_cons pe_str (pa_cons pe_str (pa_cons pe_str pa_nil))))) (pe_call G_law_draw (hr.mono (by decide)) rfl T.g_law_draw T.k_law_draw T.b_law_draw .nil pass0 (pa_cons (pv 0) (pa_cons pe_int pa_nil))) (fun _ _ => rfl)) pa_nil))))))))
    (pss_one (ps_ret (pe_op op_cat (pe_op op_cat (pv 2) (pe_lst (pa_cons pe_str pa_nil))) (pv 3))))))), ?_⟩
  have big : ∀ n : Nat, n ≤ 100000 → n ≤ sizeLine := fun n h => Nat.le_trans h (by decide)
  refine ⟨big 0 (by decide), fun L hL => ?_⟩
  have k0 := same_new hL (.lst [])
  refine ⟨big 0 (by decide), fun M hM => ?_⟩
  have k1 := same_new hM (.lst [])
  have eL : (upd (upd H L (.lst [])) M (.lst [])) L = some (.lst (([] : List Str).map V.str)) := k1 _ _ upd_same
  have eM : (upd (upd H L (.lst [])) M (.lst [])) M = some (.lst (([] : List Str).map V.str)) := upd_same
  have nLM : L ≠ M := fun z => by rw [← z, upd_same] at hM; cases hM
  have hM0 := none_of_same k0 hM
  have nL := hp.ne hL
  have nM := hp.ne hM0
  have pp := hp.same (k0.trans k1)
  have k01 := k0.trans k1
  revert eL eM pp k01
  generalize upd (upd H L (.lst [])) M (.lst []) = H1
  intro eL eM pp k01
  refine ⟨_, rfl, _, rfl, a, l, ns, deep, rfl, pp, d0, by omega, fun r H2 r0 r1 b2 p2 => ?_⟩
  obtain ⟨n, en⟩ : ∃ n : Nat, r = (n : Int) := ⟨r.toNat, by omega⟩
  have hn : n ≤ 100 := by omega
  refine ⟨_, rfl, by omega, by omega, ?_⟩
  rw [show r.toNat = n by omega]
  have bH : But a H H2 := (But.same k01).trans b2
  refine for_range (lo := 0) (n := n) (fun t σ H' => ∃ (ws ls : List Str) (y : Option V), σ = [some (.ref a), some (.int deep), some (.ref L), some (.ref M), y] ∧ But a H H' ∧ PoolAt H' a l ns ∧ H' L = some (.lst (ws.map V.str)) ∧ H' M = some (.lst (ls.map V.str)) ∧ ws.length ≤ 2 * t ∧ ls.length ≤ t ∧ (∀ w ∈ ws, WdB 13 w) ∧ (∀ w ∈ ls, WdB 13 w)) ⟨[], [], none, rfl, bH, p2, b2 _ _ eL nL.1, b2 _ _ eM nM.1, Nat.zero_le _, Nat.zero_le _, fun w hw => (by cases hw), fun w hw => (by cases hw)⟩ ?_ ?_
  · rintro t σ H3 ht ⟨ws, ls, y, rfl, b3, p3, e3, f3, l3, m3, hw, hl⟩
    have big' : ∀ n : Nat, n ≤ 10000 → n < sizeLine := fun n h => Nat.lt_of_le_of_lt h (by decide)
    -- a sign
    refine ⟨_, rfl, .inl ⟨rfl, _, SqL.of e3⟩, big 7 (by decide), fun t1 ht1 => ?_⟩
    have k1 := same_new ht1 (.tup (vs1.map V.str))
    have q1 := p3.ne ht1
    refine ⟨_, rfl, a, l, ns, 7, rfl, p3.same k1, by decide, by decide, fun r4 H4 r40 r41 b4 p4 => ?_⟩
    obtain ⟨x, hx, ex⟩ := at_mem (xs := vs1) r40 r41
    have e4 := b4 _ _ (k1 _ _ e3) nL.1
    have f4 := b4 _ _ (k1 _ _ f3) nM.1
    have bb4 := b3.trans ((But.same k1).trans b4)
    refine ⟨t1, _, _, _, rfl, rfl, SqT.of (b4 _ _ upd_same q1.1), ex, L, _, _, rfl, rfl, e4, big' _ (by rw [List.length_map]; omega), ?_⟩
    have p5 := p4.upd (o := .lst (ws.map V.str ++ [V.str x])) nL
    have e5 : (upd H4 L (.lst (ws.map V.str ++ [V.str x]))) L = some (.lst ((ws ++ [x]).map V.str)) := by rw [upd_same, List.map_append]; rfl
    have f5 : (upd H4 L (.lst (ws.map V.str ++ [V.str x]))) M = some (.lst (ls.map V.str)) := by rw [upd_ne (Ne.symm nLM)]; exact f4
    have b5 : But a H (upd H4 L (.lst (ws.map V.str ++ [V.str x]))) := fun b o e n => by
      rw [upd_ne (ne_of_none e hL)]
      exact bb4 b o e n
    have hw5 : ∀ w ∈ ws ++ [x], WdB 13 w := fun w h => by
      rcases List.mem_append.mp h with h | h
      · exact hw w h
      · rw [List.mem_singleton.mp h]
        exact wdB_ok (vs_ok x (List.mem_append_left _ (List.mem_append_left _ hx)))
    have l5 : (ws ++ [x]).length ≤ 2 * t + 1 := by rw [List.length_append]; show ws.length + 1 ≤ _; omega
    revert p5 e5 f5 b5
    generalize upd H4 L (.lst (ws.map V.str ++ [V.str x])) = H5
    generalize ws ++ [x] = ws5 at hw5 l5
    intro p5 e5 f5 b5
    -- which part goes on
    refine ⟨_, rfl, a, l, ns, 2, rfl, p5, by decide, by decide, fun r6 H6 r60 r61 b6 p6 => ⟨rfl, _, rfl, ?_⟩⟩
    have e6 := b6 _ _ e5 nL.1
    have f6 := b6 _ _ f5 nM.1
    have bb6 := b5.trans b6
    refine ite2 (fun _ => ?_) (fun _ => ?_)
    · refine ⟨_, rfl, .inl ⟨rfl, _, SqL.of e6⟩, big 4 (by decide), fun t2 ht2 => ?_⟩
      have k2 := same_new ht2 (.tup (vs2.map V.str))
      have q2 := p6.ne ht2
      refine ⟨_, rfl, a, l, ns, 4, rfl, p6.same k2, by decide, by decide, fun r7 H7 r70 r71 b7 p7 => ?_⟩
      obtain ⟨z, hz, ez⟩ := at_mem (xs := vs2) r70 r71
      have e7 := b7 _ _ (k2 _ _ e6) nL.1
      have f7 := b7 _ _ (k2 _ _ f6) nM.1
      have bb7 := bb6.trans ((But.same k2).trans b7)
      refine ⟨t2, _, _, _, rfl, rfl, SqT.of (b7 _ _ upd_same q2.1), ez, L, _, _, rfl, rfl, e7, big' _ (by rw [List.length_map]; omega), ?_⟩
      refine ⟨ws5 ++ [z], ls, _, rfl, fun b o e n => ?_, p7.upd nL, by rw [upd_same, List.map_append]; rfl, by rw [upd_ne (Ne.symm nLM)]; exact f7, by rw [List.length_append]; show ws5.length + 1 ≤ _; omega, by omega, fun w h => ?_, hl⟩
      · rw [upd_ne (ne_of_none e hL)]
        exact bb7 b o e n
      · rcases List.mem_append.mp h with h | h
        · exact hw5 w h
        · rw [List.mem_singleton.mp h]
          exact wdB_ok (vs_ok z (List.mem_append_left _ (List.mem_append_right _ hz)))
    · refine ⟨_, rfl, .inl ⟨rfl, _, SqL.of f6⟩, big 4 (by decide), fun t2 ht2 => ?_⟩
      have k2 := same_new ht2 (.tup (vs3.map V.str))
      have q2 := p6.ne ht2
      refine ⟨_, rfl, a, l, ns, 4, rfl, p6.same k2, by decide, by decide, fun r7 H7 r70 r71 b7 p7 => ?_⟩
      obtain ⟨z, hz, ez⟩ := at_mem (xs := vs3) r70 r71
      have e7 := b7 _ _ (k2 _ _ e6) nL.1
      have f7 := b7 _ _ (k2 _ _ f6) nM.1
      have bb7 := bb6.trans ((But.same k2).trans b7)
      refine ⟨t2, _, _, _, rfl, rfl, SqT.of (b7 _ _ upd_same q2.1), ez, M, _, _, rfl, rfl, f7, big' _ (by rw [List.length_map]; omega), ?_⟩
      refine ⟨ws5, ls ++ [z], _, rfl, fun b o e n => ?_, p7.upd nM, by rw [upd_ne nLM]; exact e7, by rw [upd_same, List.map_append]; rfl, by omega, by rw [List.length_append]; show ls.length + 1 ≤ _; omega, hw5, fun w h => ?_⟩
      · rw [upd_ne (ne_of_none e hM0)]
        exact bb7 b o e n
      · rcases List.mem_append.mp h with h | h
        · exact hl w h
        · rw [List.mem_singleton.mp h]
          exact wdB_ok (vs_ok z (List.mem_append_right _ hz))
  · rintro σ H3 ⟨ws, ls, y, rfl, b3, p3, e3, f3, l3, m3, hw, hl⟩
    refine ⟨_, rfl, big 1 (by decide), fun L1 hL1 => ?_⟩
    have k1 := same_new hL1 (.lst [V.str "kept"])
    refine ⟨L, L1, _, _, rfl, rfl, k1 _ _ e3, upd_same, big _ (by simp only [List.length_map, List.length_cons, List.length_nil]; omega), fun L2 hL2 => ?_⟩
    have k2 := k1.trans (same_new hL2 (.lst (ws.map V.str ++ [V.str "kept"])))
    refine ⟨_, rfl, L2, M, _, _, rfl, rfl, upd_same, k2 _ _ f3, big _ (by simp only [List.length_append, List.length_map, List.length_cons, List.length_nil]; omega), fun L4 hL4 => ?_⟩
    have k4 := k2.trans (same_new hL4 (.lst (ws.map V.str ++ [V.str "kept"] ++ ls.map V.str)))
    have hL40 : H L4 = none := by
      have h3 := none_of_same k2 hL4
      cases x : H L4 with
      | none => rfl
      | some o =>
        by_cases c : L4 = a
        · rw [c] at h3
          obtain ⟨_, _, _, _, _, e, _⟩ := p3
          rw [e] at h3
          cases h3
        · rw [b3 _ _ x c] at h3
          cases h3
    refine q L4 (ws ++ (["kept"] : List Str) ++ ls) _ (b3.trans (But.same k4)) (p3.same k4) hL40 ?_ (by simp only [List.length_append, List.length_cons, List.length_nil]; omega) (fun w h => ?_)
    · rw [upd_same, List.map_append, List.map_append]
      rfl
    · rcases List.mem_append.mp h with h | h
      · rcases List.mem_append.mp h with h | h
        · exact hw w h
        · rw [List.mem_singleton.mp h]
          exact wdB_ok (by decide +kernel)
      · exact hl w h
end
end Toy
set_option Elab.async false
set_option linter.all false
set_option maxRecDepth 100000
set_option maxHeartbeats 4000000
namespace Toy
open PySem L2 NdefX Gm Pz
open Mine hiding same_new
theorem PoolAt.none {H H' : Hp} {a l b : Addr} {ns : List Int} (p : PoolAt H' a l ns) (s : But a H H') (h : H' b = none) : H b = none := by
  cases x : H b with
  | none => rfl
  | some o =>
    rw [s _ _ x (p.ne h).1] at h
    cases h
def spWords (m : Nat) : Sp := fun vs H Q _ => ∃ (a l : Addr) (ns : List Int), vs = [.ref a] ∧ PoolAt H a l ns ∧ ∀ (L : Addr) (ws : List Str) (H' : Hp), But a H H' → PoolAt H' a l ns → H L = none → H' L = some (.lst (ws.map V.str)) → ws.length ≤ m → (∀ w ∈ ws, WdB 13 w) → Q (.ref L) H'
def nm1 : List Str := ["p", "say", "when", "last", "kept", "made", "yes"]
theorem nm1_ok : ∀ x ∈ nm1, wdB 13 x = true := by decide +kernel
section
variable {P : Program} {w : World} {K : PySem.W.Frag} {mg : Str → Option Value} {base : Heap} {file : Str}
theorem ok_rules (T : Txt K mg file) : FnOk P w K mg base CX0 3 T.a_law_rules T.fd_law_rules ["pool"] (spWords 1200) := by
  have G_law_draw : FnOk P w K mg base CX0 1 T.a_law_draw T.fd_law_draw ["pool", "size"] spDraw := ok_draw T
  have G_law_value : FnOk P w K mg base CX0 2 T.a_law_value T.fd_law_value ["pool", "deep"] spValue := ok_value T
  refine T.F_law_rules.ok sc_law_rules (fun vs H Q E h => ?_) (fun cdv A outer s H vs Q E hr h => ?_)
  · obtain ⟨a, l, ns, rfl, _⟩ := h
    rfl
  obtain ⟨a, l, ns, rfl, hp, q⟩ := h
  refine ⟨_, (pss_cons (ps_set (i := 1) sc_law_rules.nd rfl (Or.inl rfl) (pe_lst pa_nil))
    (pss_cons (ps_for PassesOwn.never rfl (pi_range1 (by rfl) T.z_range (pa_cons (pe_call G_law_draw (hr.mono (by decide)) rfl T.g_law_draw T.k_law_draw T.b_law_draw .nil pass0 (pa_cons (pv 0) (pa_cons (pe_ix ix_tup (pe_tup (pa_cons pe_int (pa_cons pe_int pa_nil))) (pe_callTy call_int1 (by rfl) T.z_int (by decide +kernel) (pa_cons (pe_cmpR op_eq (pe_call G_law_draw (hr.mono (by decide)) rfl T.g_law_draw T.k_law_draw T.b_law_draw .nil pass0 (pa_cons (pv 0) (pa_cons pe_int pa_nil))) pe_int (nomark _)) pa_nil)) (fun _ _ => rfl)) pa_nil))) pa_nil)) (pg_name (i := 2) sc_law_rules.nd rfl (Or.inl rfl))
      (pss_cons (ps_set (i := 1) sc_law_rules.nd rfl (Or.inl rfl) (pe_op op_cat (pe_op op_cat (pv 1) (pe_lst (pa_cons pe_str pa_nil))) (pe_call G_law_value (hr.mono (by decide)) rfl T.g_law_value T.k_law_value T.b_law_value .nil pass0 (pa_cons (pv 0) (pa_cons (pe_op op_add pe_int (pe_call G_law_draw (hr.mono (by decide)) rfl T.g_law_draw T.k_law_draw T.b_law_draw .nil pass0 (pa_cons (pv 0) (pa_cons pe_int pa_nil)))) pa_nil)))))
    (pss_cons (ps_if (pt_cmpR op_eq (pe_call G_law_draw (hr.mono (by decide)) rfl T.g_law_draw T.k_law_draw T.b_law_draw .nil pass0 (pa_cons (pv 0) (pa_cons pe_int pa_nil))) pe_int (nomark _))
      (pss_one (ps_set (i := 1) sc_law_rules.nd rfl (Or.inl rfl) (pe_op op_cat (pv 1) (pe_lst (pa_cons pe_str (pa_cons (pe_ix ix_tup (pe_tup (pa_cons pe_str (pa_cons pe_str (pa_cons pe_str (pa_cons pe_str (pa_cons pe_str (pa_cons pe_str (pa_cons pe_str pa_nil)))))))) (pe_call G_law_draw (hr.mono (by decide)) rfl T.g_law_draw T.k_law_draw T.b_law_draw .nil pass0 (pa_cons (pv 0) (pa_cons pe_int pa_nil))) (fun _ _ => rfl)) pa_nil))))))
      (pss_one (ps_expr (pe_bm PySem.F.plainAttrs_list PySem.F.slot_list_append PySem.F.type_list_append mt_append (pv 1) (pa_cons pe_str pa_nil)))))
    (pss_one (ps_set (i := 1) sc_law_rules.nd rfl (Or.inl rfl) (pe_op op_cat (pe_op op_cat (pv 1) (pe_call G_law_value (hr.mono (by decide)) rfl T.g_law_value T.k_law_value T.b_law_value .nil pass0 (pa_cons (pv 0) (pa_cons pe_int pa_nil)))) (pe_call G_law_value (hr.mono (by decide)) rfl T.g_law_value T.k_law_value T.b_law_value .nil pass0 (pa_cons (pv 0) (pa_cons pe_int pa_nil)))))))))
    (pss_one (ps_ret (pv 1))))), ?_⟩
  have big : ∀ n : Nat, n ≤ 100000 → n ≤ sizeLine := fun n h => Nat.le_trans h (by decide)
  refine ⟨big 0 (by decide), fun L hL => ?_⟩
  have k0 := same_new hL (.lst [])
  have nL := hp.ne hL
  have eL : (upd H L (.lst [])) L = some (.lst (([] : List Str).map V.str)) := upd_same
  have pp := hp.same k0
  revert eL pp k0
  generalize upd H L (.lst []) = H1
  intro k0 eL pp
  refine ⟨_, rfl, big 2 (by decide), fun t1 ht1 => ?_⟩
  have k1 := same_new ht1 (.tup [V.int 5, V.int 23])
  have q1 := pp.ne ht1
  refine ⟨_, rfl, a, l, ns, 6, rfl, pp.same k1, by decide, by decide, fun r2 H2 r20 r21 b2 p2 => ⟨rfl, .inr ⟨_, rfl, ?_⟩⟩⟩
  obtain ⟨sz, es, z0, z1⟩ : ∃ sz : Int, atI [V.int 5, V.int 23] (if decide (V.int r2 = V.int 0) = true then 1 else 0) = some (.int sz) ∧ 0 < sz ∧ sz ≤ 23 := by
    by_cases c : decide (V.int r2 = V.int 0) = true
    · rw [if_pos c]
      exact ⟨23, rfl, by decide, by decide⟩
    · rw [if_neg c]
      exact ⟨5, rfl, by decide, by decide⟩
  refine ⟨t1, _, _, _, rfl, rfl, SqT.of (b2 _ _ upd_same q1.1), es, a, l, ns, sz, rfl, p2, z0, by omega, fun r H3 r0 r1 b3 p3 => ?_⟩
  obtain ⟨n, en⟩ : ∃ n : Nat, r = (n : Int) := ⟨r.toNat, by omega⟩
  refine ⟨_, rfl, by omega, by omega, ?_⟩
  rw [show r.toNat = n by omega]
  have bH : But a H H3 := (But.same (k0.trans k1)).trans (b2.trans b3)
  have e3 := b3 _ _ (b2 _ _ (k1 _ _ eL) nL.1) nL.1
  refine for_range (lo := 0) (n := n) (fun t σ H' => ∃ (L : Addr) (ws : List Str) (y : Option V), σ = [some (.ref a), some (.ref L), y] ∧ But a H H' ∧ PoolAt H' a l ns ∧ H L = none ∧ H' L = some (.lst (ws.map V.str)) ∧ ws.length ≤ 51 * t ∧ (∀ w ∈ ws, WdB 13 w)) ⟨L, [], none, rfl, bH, p3, hL, e3, Nat.zero_le _, fun w hw => (by cases hw)⟩ ?_ ?_
  · clear eL pp k0 k1 q1 es b2 p2 p3 e3 bH b3
    rintro t σ H3 ht ⟨L, ws, y, rfl, b3, p3, hL, e3, l3, hw⟩
    have nL := hp.ne hL
    have big' : ∀ n : Nat, n ≤ 10000 → n < sizeLine := fun n h => Nat.lt_of_le_of_lt h (by decide)
    -- when and a value
    refine ⟨_, rfl, big 1 (by decide), fun L1 hL1 => ?_⟩
    have k1 := same_new hL1 (.lst [V.str "when"])
    refine ⟨L, L1, _, _, rfl, rfl, k1 _ _ e3, upd_same, big _ (by simp only [List.length_map, List.length_cons, List.length_nil]; omega), fun L2 hL2 => ?_⟩
    have k2 := k1.trans (same_new hL2 (.lst (ws.map V.str ++ [V.str "when"])))
    have n2 := (p3.same k1).ne hL2
    refine ⟨_, rfl, _, rfl, a, l, ns, 2, rfl, p3.same k2, by decide, by decide, fun r4 H4 r40 r41 b4 p4 => ⟨_, _, rfl, rfl, ?_⟩⟩
    refine ⟨a, l, ns, 8 + r4, rfl, p4, by omega, by omega, fun L5 ws5 H5 b5 p5 nL5 e5 l5 hw5 => ?_⟩
    have e25 := b5 _ _ (b4 _ _ upd_same n2.1) n2.1
    refine ⟨L2, L5, _, _, rfl, rfl, e25, e5, big _ (by simp only [List.length_append, List.length_map, List.length_cons, List.length_nil]; omega), fun L6 hL6 => ?_⟩
    have k6 := same_new hL6 (.lst (ws.map V.str ++ [V.str "when"] ++ ws5.map V.str))
    have bb5 := b3.trans ((But.same k2).trans (b4.trans b5))
    have hL6' := p5.none bb5 hL6
    have n6 := hp.ne hL6'
    have bb6 := bb5.trans (But.same k6)
    have p6 := p5.same k6
    have e6 : (upd H5 L6 (.lst (ws.map V.str ++ [V.str "when"] ++ ws5.map V.str))) L6 = some (.lst ((ws ++ (["when"] : List Str) ++ ws5).map V.str)) := by rw [upd_same, List.map_append, List.map_append]; rfl
    have hw6 : ∀ w ∈ ws ++ (["when"] : List Str) ++ ws5, WdB 13 w := fun w h => by
      rcases List.mem_append.mp h with h | h
      · rcases List.mem_append.mp h with h | h
        · exact hw w h
        · rw [List.mem_singleton.mp h]
          exact wdB_ok (by decide +kernel)
      · exact hw5 w h
    have l6 : (ws ++ (["when"] : List Str) ++ ws5).length ≤ 51 * t + 29 := by
      simp only [List.length_append, List.length_cons, List.length_nil]
      omega
    revert bb6 p6 e6
    generalize upd H5 L6 (.lst (ws.map V.str ++ [V.str "when"] ++ ws5.map V.str)) = H6
    generalize ws ++ (["when"] : List Str) ++ ws5 = ws6 at hw6 l6
    intro bb6 p6 e6
    clear e25 e5 bb5 k6 hL6 k2 k1 hL1 hL2 b4 b5 e3
    unfold gName
    dsimp only
    refine seq_k (fun σ H' => ∃ (L : Addr) (ws : List Str) (y : Option V), σ = [some (.ref a), some (.ref L), y] ∧ But a H H' ∧ PoolAt H' a l ns ∧ H L = none ∧ H' L = some (.lst (ws.map V.str)) ∧ ws.length ≤ 51 * t + 31 ∧ (∀ w ∈ ws, WdB 13 w)) ?_ (fun k => ?_)
    rotate_left
    · refine ⟨_, rfl, a, l, ns, 2, rfl, p6, by decide, by decide, fun r7 H7 r70 r71 b7 p7 => ⟨rfl, _, rfl, ?_⟩⟩
      have e7 := b7 _ _ e6 n6.1
      have bb7 := bb6.trans b7
      refine ite2 (fun _ => ?_) (fun _ => ?_)
      · refine ⟨_, rfl, big 7 (by decide), fun t2 ht2 => ?_⟩
        have k8 := same_new ht2 (.tup (nm1.map V.str))
        have q8 := p7.ne ht2
        refine ⟨_, rfl, a, l, ns, 7, rfl, p7.same k8, by decide, by decide, fun r9 H9 r90 r91 b9 p9 => ?_⟩
        obtain ⟨z, hz, ez⟩ := at_mem (xs := nm1) r90 r91
        have e9 := b9 _ _ (k8 _ _ e7) n6.1
        have bb9 := bb7.trans ((But.same k8).trans b9)
        refine ⟨t2, _, _, _, rfl, rfl, SqT.of (b9 _ _ upd_same q8.1), ez, big 2 (by decide), fun L10 hL10 => ?_⟩
        have k10 := same_new hL10 (.lst [V.str "ask", V.str z])
        refine ⟨L6, L10, _, _, rfl, rfl, k10 _ _ e9, upd_same, big _ (by simp only [List.length_map, List.length_cons, List.length_nil]; omega), fun L11 hL11 => ?_⟩
        have k11 := k10.trans (same_new hL11 (.lst (ws6.map V.str ++ [V.str "ask", V.str z])))
        refine k _ _ ⟨L11, ws6 ++ (["ask", z] : List Str), _, rfl, bb9.trans (But.same k11), p9.same k11, (p9.same k10).none (bb9.trans (But.same k10)) hL11, by rw [upd_same, List.map_append]; rfl, by simp only [List.length_append, List.length_cons, List.length_nil]; omega, fun w h => ?_⟩
        rcases List.mem_append.mp h with h | h
        · exact hw6 w h
        rcases List.mem_cons.mp h with rfl | h
        · exact wdB_ok (by decide +kernel)
        · rw [List.mem_singleton.mp h]
          exact wdB_ok (nm1_ok z hz)
      · refine ⟨_, rfl, .inl ⟨rfl, _, SqL.of e7⟩, L6, _, _, rfl, rfl, e7, big' _ (by rw [List.length_map]; omega), ?_⟩
        refine k _ _ ⟨L6, ws6 ++ (["say"] : List Str), _, rfl, fun b o e n => ?_, p7.upd n6, hL6', by rw [upd_same, List.map_append]; rfl, by simp only [List.length_append, List.length_cons, List.length_nil]; omega, fun w h => ?_⟩
        · rw [upd_ne (ne_of_none e hL6')]
          exact bb7 b o e n
        · rcases List.mem_append.mp h with h | h
          · exact hw6 w h
          · rw [List.mem_singleton.mp h]
            exact wdB_ok (by decide +kernel)
    clear bb6 p6 e6 hw6 l6 n6 hL6'
    rintro σ H7 ⟨L7, ws7, y7, rfl, b7, p7, hL7, e7, l7, hw7⟩
    have n7 := hp.ne hL7
    refine ⟨_, rfl, _, rfl, a, l, ns, 3, rfl, p7, by decide, by decide, fun L8 ws8 H8 b8 p8 nL8 e8 l8 hw8 => ?_⟩
    refine ⟨L7, L8, _, _, rfl, rfl, b8 _ _ e7 n7.1, e8, big _ (by simp only [List.length_map]; omega), fun L9 hL9 => ?_⟩
    have k9 := same_new hL9 (.lst (ws7.map V.str ++ ws8.map V.str))
    have n9 := p8.ne hL9
    refine ⟨_, rfl, a, l, ns, 3, rfl, p8.same k9, by decide, by decide, fun LA wsA HA bA pA nLA eA lA hwA => ?_⟩
    refine ⟨L9, LA, _, _, rfl, rfl, bA _ _ upd_same n9.1, eA, big _ (by simp only [List.length_append, List.length_map]; omega), fun LB hLB => ?_⟩
    have kB := same_new hLB (.lst (ws7.map V.str ++ ws8.map V.str ++ wsA.map V.str))
    have bbA := b7.trans (b8.trans ((But.same k9).trans bA))
    refine ⟨LB, ws7 ++ ws8 ++ wsA, _, rfl, bbA.trans (But.same kB), pA.same kB, pA.none bbA hLB, by rw [upd_same, List.map_append, List.map_append], by simp only [List.length_append]; omega, fun w h => ?_⟩
    rcases List.mem_append.mp h with h | h
    · rcases List.mem_append.mp h with h | h
      · exact hw7 w h
      · exact hw8 w h
    · exact hwA w h
  · rintro σ H4 ⟨L, ws, y, rfl, b4, p4, hL, e4, l4, hw⟩
    exact ⟨_, rfl, q L ws H4 b4 p4 hL e4 (by omega) hw⟩
end
end Toy
set_option Elab.async false
set_option linter.all false
set_option maxRecDepth 100000
set_option maxHeartbeats 4000000
namespace Toy
open PySem L2 Mine NdefX Gm Pz
/-! the law's tests of words -/
theorem str_ext {x y : Str} (e : signs x = signs y) : x = y := by
  obtain ⟨⟨x⟩⟩ := x
  obtain ⟨⟨y⟩⟩ := y
  unfold signs at e
  dsimp only at e
  rw [e]
theorem lnum {w : Str} {lo hi : Int} (h1 : 1 ≤ w.length) (h2 : w.length ≤ 5) (h3 : (signs w).all digB = true) (hh : hi ≤ 65535) :
    numOk w lo hi = (decide (numS ((numW w : Nat) : Int) = w) && (decide (lo ≤ (numW w : Nat)) && decide (((numW w : Nat) : Int) ≤ hi))) := by
  unfold numOk
  rw [Bool.decide_and]
  cases c : (decide (lo ≤ (numW w : Nat)) && decide (((numW w : Nat) : Int) ≤ hi)) with
  | false => rw [Bool.and_false, Bool.and_false]
  | true =>
    rw [Bool.and_true, Bool.and_true]
    rw [Bool.and_eq_true] at c
    have cu := of_decide_eq_true c.2
    by_cases e : numS ((numW w : Nat) : Int) = w
    · rw [decide_eq_true e]
      unfold isNum
      rw [decide_eq_true (show 1 ≤ w.length ∧ w.length ≤ 5 from ⟨h1, h2⟩), h3]
      have e1 : signs w = (Nat.toDigits 10 (numW w)).map Char.toNat := by
        have z : signs (numS ((numW w : Nat) : Int)) = (Nat.toDigits 10 (numW w)).map Char.toNat := PySem.W.KIN.signs_num _
        rw [e] at z
        exact z
      cases es : signs w with
      | nil =>
        have := len_signs w
        rw [es] at this
        simp at this
        omega
      | cons x r =>
        show (if x = 48 then decide (w = "0") else decide (numW w ≤ 65535)) = true
        by_cases hx : x = 48
        · rw [if_pos hx]
          refine decide_eq_true (str_ext ?_)
          have hd : NumText.AllDigits (signs w) := fun c hc => digB_iff.mp (List.all_eq_true.mp h3 c hc)
          have t := NumText.toDigits_all (signs w) hd
          rw [show NumText.digitsVal (signs w) = numW w from rfl] at t
          rw [es, hx, List.dropWhile_cons, if_pos (by rfl)] at t
          cases ed : r.dropWhile (fun z => z == 48) with
          | nil =>
            rw [ed] at t
            rw [e1, t]
            decide +kernel
          | cons y q =>
            rw [ed] at t
            have l1 : (Nat.toDigits 10 (numW w)).length = (y :: q).length := by rw [t, List.length_map]
            have l2 : (signs w).length = (Nat.toDigits 10 (numW w)).length := by
              have z := congrArg List.length e1
              rw [List.length_map] at z
              exact z
            have l3 : (y :: q).length ≤ r.length := by
              rw [← ed]
              exact (List.dropWhile_suffix _).length_le
            rw [es, List.length_cons] at l2
            omega
        · rw [if_neg hx]
          exact decide_eq_true (by omega)
    · rw [decide_eq_false e]
      cases n : isNum w with
      | false => rfl
      | true => exact absurd (num_back' n) e
theorem val_lt : ∀ (cs : List Nat) (a n : Nat), (∀ c ∈ cs, c ≤ 57) → a < n → cs.foldl (fun acc c => acc * 10 + (c - 48)) a < n * 10 ^ cs.length
  | [], a, n, _, h => by simpa using h
  | c :: cs, a, n, hc, h => by
    have h1 : a * 10 + (c - 48) < n * 10 := by
      have := hc c List.mem_cons_self
      omega
    have h2 := val_lt cs (a * 10 + (c - 48)) (n * 10) (fun d hd => hc d (List.mem_cons_of_mem _ hd)) h1
    rw [List.foldl_cons, List.length_cons, Nat.pow_succ]
    rw [Nat.mul_assoc, Nat.mul_comm 10] at h2
    exact h2
theorem num_lt {x : Str} (h : (signs x).all digB = true) (hl : x.length ≤ 5) : numW x < 2 ^ 64 := by
  have h1 := val_lt (signs x) 0 1 (fun c hc => (digB_iff.mp (List.all_eq_true.mp h c hc)).2) (by decide)
  rw [Nat.one_mul, len_signs] at h1
  exact Nat.lt_of_lt_of_le h1 (Nat.le_trans (Nat.pow_le_pow_right (by decide) hl) (by decide))
theorem ofs (n : Nat) : (numS ((n : Nat) : Int)) = (toString ((n : Nat) : Int) : Str) := rfl
theorem le1 (a c : Nat) : (!decide (([c] : List Nat) < [a])) = decide (a ≤ c) := by
  by_cases h : c < a
  · rw [decide_eq_true (show ([c] : List Nat) < [a] from List.Lex.rel h), decide_eq_false (by omega)]
    rfl
  · rw [decide_eq_false, decide_eq_true (by omega)]
    · rfl
    · intro z
      cases z with
      | rel q => exact h q
      | cons q => cases q
def spLNum : Sp := fun vs H Q _ => ∃ (w : Str) (lo hi : Int), vs = [.str w, .int lo, .int hi] ∧ w.length ≤ 1000000 ∧ hi ≤ 65535 ∧ Q (.bl (numOk w lo hi)) H
def spLName : Sp := fun vs H Q _ => ∃ w : Str, vs = [.str w] ∧ w.length ≤ 1000000 ∧ ∀ H', Same H H' → Q (.bl (isName w)) H'
theorem letB_eq (c : Nat) : letB c = (decide (97 ≤ c) && decide (c ≤ 122)) := by
  rw [← Bool.decide_and]
  unfold letB
  refine decide_eq_decide.mpr ?_
  rw [show lets.cps.toList = [97, 98, 99, 100, 101, 102, 103, 104, 105, 106, 107, 108, 109, 110, 111, 112, 113, 114, 115, 116, 117, 118, 119, 120, 121, 122] from by decide +kernel]
  simp only [List.mem_cons, List.not_mem_nil, or_false]
  omega
theorem digB_eq (c : Nat) : digB c = (decide (48 ≤ c) && decide (c ≤ 57)) := by
  rw [← Bool.decide_and]
  exact Bool.eq_iff_iff.mpr (digB_iff.trans (decide_eq_true_iff).symm)
/-- lo <= sign <= hi, of single signs -/
theorem rngK {a b : Str} {a0 b0 c : Nat} {H : Hp} {Q : Bool → Hp → Prop} (ea : a.cps.toList = [a0]) (eb : b.cps.toList = [b0]) (q : Q (decide (a0 ≤ c) && decide (c ≤ b0)) H) :
    ∃ i j, V.str a = .str i ∧ V.str ⟨#[c]⟩ = .str j ∧ (∃ k, V.bl (!decide (j.cps.toList < i.cps.toList)) = .bl k ∧ if k = true then (∃ i' j', V.str ⟨#[c]⟩ = .str i' ∧ V.str b = .str j' ∧ ∃ k2, V.bl (!decide (j'.cps.toList < i'.cps.toList)) = .bl k2 ∧ Q k2 H) else ∃ k2, V.bl false = .bl k2 ∧ Q k2 H) := by
  refine ⟨_, _, rfl, rfl, _, rfl, ?_⟩
  rw [ea, show (!decide ((⟨#[c]⟩ : Str).cps.toList < [a0])) = decide (a0 ≤ c) from le1 a0 c]
  by_cases h : a0 ≤ c
  · rw [if_pos (decide_eq_true h)]
    refine ⟨_, _, rfl, rfl, _, rfl, ?_⟩
    rw [eb, show (!decide (([b0] : List Nat) < (⟨#[c]⟩ : Str).cps.toList)) = decide (c ≤ b0) from le1 c b0]
    rw [decide_eq_true h, Bool.true_and] at q
    exact q
  · rw [if_neg (fun z => h (of_decide_eq_true z))]
    refine ⟨_, rfl, ?_⟩
    rw [decide_eq_false h, Bool.false_and] at q
    exact q
theorem rngE {a b : Str} {a0 b0 c : Nat} {H : Hp} {Q : VK} (ea : a.cps.toList = [a0]) (eb : b.cps.toList = [b0]) (q : Q (.bl (decide (a0 ≤ c) && decide (c ≤ b0))) H) :
    ∃ i j, V.str a = .str i ∧ V.str ⟨#[c]⟩ = .str j ∧ (∃ k, V.bl (!decide (j.cps.toList < i.cps.toList)) = .bl k ∧ if k = true then (∃ i' j', V.str ⟨#[c]⟩ = .str i' ∧ V.str b = .str j' ∧ Q (V.bl (!decide (j'.cps.toList < i'.cps.toList))) H) else Q (V.bl false) H) := by
  refine ⟨_, _, rfl, rfl, _, rfl, ?_⟩
  rw [ea, show (!decide ((⟨#[c]⟩ : Str).cps.toList < [a0])) = decide (a0 ≤ c) from le1 a0 c]
  by_cases h : a0 ≤ c
  · rw [if_pos (decide_eq_true h)]
    refine ⟨_, _, rfl, rfl, ?_⟩
    rw [eb, show (!decide (([b0] : List Nat) < (⟨#[c]⟩ : Str).cps.toList)) = decide (c ≤ b0) from le1 c b0]
    rw [decide_eq_true h, Bool.true_and] at q
    exact q
  · rw [if_neg (fun z => h (of_decide_eq_true z))]
    rw [decide_eq_false h, Bool.false_and] at q
    exact q
section
variable {P : Program} {w : World} {K : PySem.W.Frag} {mg : Str → Option Value} {base : Heap} {file : Str}
theorem ok_lnum (T : Txt K mg file) : FnOk P w K mg base CX0 1 T.a_law_is_number T.fd_law_is_number ["word", "least", "most"] spLNum := by
  refine T.F_law_is_number.ok sc_law_is_number (fun vs H Q E h => ?_) (fun cdv A outer s H vs Q E hr h => ?_)
  · obtain ⟨x, lo, hi, rfl, _⟩ := h
    rfl
  obtain ⟨x, lo, hi, rfl, hx, hh, q⟩ := h
  refine ⟨_, (pss_cons (ps_if (pt_not (pt_chain op_lt op_lt pe_int (pe_callB call_len_str (by rfl) T.z_len (by decide +kernel) (pa_cons (pv 0) pa_nil)) pe_int))
      (pss_one (ps_ret pe_bl))
      pss_nil)
    (pss_cons (ps_for PassesOwn.never rfl (pi_str (pv 0)) (pg_name (i := 3) sc_law_is_number.nd rfl (Or.inl rfl))
      (pss_one (ps_if (pt_not (pt_chain op_le_str op_le_str pe_str (pv 3) pe_str))
      (pss_one (ps_ret pe_bl))
      pss_nil)))
    (pss_one (ps_ret (pe_and (pe_cmpR op_eq (pe_callTy call_str_int (by rfl) T.z_str (by decide +kernel) (pa_cons (pe_callTy call_int_str (by rfl) T.z_int (by decide +kernel) (pa_cons (pv 0) pa_nil)) pa_nil)) (pv 0) (nomark _)) (pe_one (pe_chain op_le op_le (pv 1) (pe_callTy call_int_str (by rfl) T.z_int (by decide +kernel) (pa_cons (pv 0) pa_nil)) (pv 2)))))))), ?_⟩
  have hl := len_signs x
  have no : isNum x = false → Q (.bl false) H := fun e => by
    unfold numOk at q
    rw [e, Bool.false_and] at q
    exact q
  have nd : ∀ b : Bool, decide (1 ≤ x.length ∧ x.length ≤ 5) = false → isNum x = false := fun _ e => by
    unfold isNum
    rw [e]
    rfl
  refine ⟨_, rfl, x, rfl, Nat.le_trans hx a_le, _, _, rfl, rfl, _, rfl, ?_⟩
  refine ite2 (fun c1 => ?_) (fun c1 => ?_)
  rotate_left
  · have := of_decide_eq_false (Bool.eq_false_iff.mpr c1)
    exact ⟨_, rfl, no (nd true (decide_eq_false (by omega)))⟩
  have c1' := of_decide_eq_true c1
  refine ⟨_, _, rfl, rfl, _, rfl, ?_⟩
  refine ite2 (fun c2 => ?_) (fun c2 => ?_)
  · have : ¬ x.length ≤ 5 := by
      intro z
      rw [show decide ((x.length : Int) < 6) = true from decide_eq_true (by omega)] at c2
      cases c2
    exact no (nd true (decide_eq_false (by omega)))
  have c2' : x.length ≤ 5 := by
    cases e : decide ((x.length : Int) < 6) with
    | true => have := of_decide_eq_true e; omega
    | false => rw [e] at c2; exact absurd rfl c2
  refine ⟨_, rfl, x, rfl, ?_⟩
  refine for_it walk_str (fun i σ H' => H' = H ∧ (∃ y, σ = [some (.str x), some (.int lo), some (.int hi), y]) ∧ ((signs x).take i).all digB = true) ⟨rfl, ⟨none, rfl⟩, rfl⟩ (fun _ _ _ _ _ => trivial) ?_ ?_
  · rintro i v σ H1 H2 hi' ⟨rfl, ⟨y, rfl⟩, hd⟩ ⟨rfl, c', e2, rfl⟩
    have e2' : (signs x)[i]? = some c' := by unfold signs; rw [Array.getElem?_toList]; exact e2
    have s0 : ("0" : Str).cps.toList = [48] := by decide +kernel
    have s9 : ("9" : Str).cps.toList = [57] := by decide +kernel
    have bad : digB c' = false → isNum x = false := fun e => by
      have : (signs x).all digB = false := by
        rw [List.all_eq_false]
        exact ⟨c', List.mem_of_getElem? e2', by rw [e]; exact Bool.false_ne_true⟩
      unfold isNum
      rw [this, Bool.and_false, Bool.false_and]
    refine ⟨_, rfl, _, _, rfl, rfl, _, rfl, ?_⟩
    rw [s0]
    rw [show (!decide ((⟨#[c']⟩ : Str).cps.toList < [48])) = decide (48 ≤ c') from le1 48 c']
    refine ite2 (fun c3 => ?_) (fun c3 => ?_)
    rotate_left
    · have := of_decide_eq_false (Bool.eq_false_iff.mpr c3)
      exact ⟨_, rfl, no (bad (by cases e : digB c' with | false => rfl | true => have := digB_iff.mp e; omega))⟩
    have c3' := of_decide_eq_true c3
    refine ⟨_, _, rfl, rfl, _, rfl, ?_⟩
    rw [s9]
    rw [show (!decide (([57] : List Nat) < (⟨#[c']⟩ : Str).cps.toList)) = decide (c' ≤ 57) from le1 c' 57]
    refine ite2 (fun c4 => ?_) (fun c4 => ?_)
    · have : ¬ c' ≤ 57 := by
        intro z
        rw [decide_eq_true z] at c4
        cases c4
      exact no (bad (by cases e : digB c' with | false => rfl | true => have := digB_iff.mp e; omega))
    have c4' : c' ≤ 57 := by
      cases e : decide (c' ≤ 57) with
      | true => exact of_decide_eq_true e
      | false => rw [e] at c4; exact absurd rfl c4
    refine ⟨rfl, ⟨_, rfl⟩, ?_⟩
    rw [take_more e2', List.all_append, hd]
    show (true && (digB c' && true)) = true
    rw [digB_iff.mpr ⟨c3', c4'⟩]
    rfl
  · rintro σ H1 ⟨rfl, ⟨y, rfl⟩, hd⟩
    have hd' : (signs x).all digB = true := by
      rw [show x.cps.size = (signs x).length from (Array.length_toList).symm, List.take_length] at hd
      exact hd
    have ht := num_text hd' (by omega) c2'
    have hlog : (((numW x : Nat) : Int)).natAbs.log2 < 1920 := by
      rw [Int.natAbs_natCast]
      refine Nat.lt_of_lt_of_le (PySem.Flt.log2_lt_of (k := 64) (by decide) ?_) (by decide)
      exact num_lt hd' c2'
    rw [lnum (by omega) c2' hd' hh] at q
    refine ⟨_, rfl, x, _, rfl, ht, by omega, _, rfl, hlog, _, rfl, rfl, _, rfl, ?_⟩
    have e : decide (V.str (Str.ofString (toString ((numW x : Nat) : Int))) = V.str x) = decide (numS ((numW x : Nat) : Int) = x) := decide_eq_decide.mpr ⟨V.str.inj, congrArg V.str⟩
    rw [e]
    refine ite2 (fun c5 => ?_) (fun c5 => ?_)
    · rw [c5, Bool.true_and] at q
      refine ⟨_, rfl, _, rfl, x, _, rfl, ht, by omega, _, _, rfl, rfl, _, rfl, ?_⟩
      refine ite2 (fun c6 => ?_) (fun c6 => ?_)
      · rw [c6, Bool.true_and] at q
        exact ⟨_, rfl, _, _, rfl, rfl, q⟩
      · rw [Bool.eq_false_iff.mpr c6, Bool.false_and] at q
        exact q
    · rw [Bool.eq_false_iff.mpr c5, Bool.false_and] at q
      exact q
theorem ok_lname (T : Txt K mg file) : FnOk P w K mg base CX0 1 T.a_law_is_name T.fd_law_is_name ["word"] spLName := by
  refine T.F_law_is_name.ok sc_law_is_name (fun vs H Q E h => ?_) (fun cdv A outer s H vs Q E hr h => ?_)
  · obtain ⟨x, rfl, _⟩ := h
    rfl
  obtain ⟨x, rfl, hx, q⟩ := h
  refine ⟨_, (pss_cons (ps_set (i := 1) sc_law_is_name.nd rfl (Or.inl rfl) (pe_tup (pa_cons pe_str (pa_cons pe_str (pa_cons pe_str (pa_cons pe_str (pa_cons pe_str (pa_cons pe_str (pa_cons pe_str (pa_cons pe_str (pa_cons pe_str (pa_cons pe_str (pa_cons pe_str (pa_cons pe_str (pa_cons pe_str (pa_cons pe_str pa_nil))))))))))))))))
    (pss_cons (ps_if (PW.pt (pw_or (pt_not (pt_chain op_lt op_lt pe_int (pe_callB call_len_str (by rfl) T.z_len (by decide +kernel) (pa_cons (pv 0) pa_nil)) pe_int)) (pw_or1 (pt_cmpR op_in_seq (pv 0) (pe_op (CatB.op_catB K rfl) (pv 1) (pe_tup (pa_cons pe_str (pa_cons pe_str (pa_cons pe_str (pa_cons pe_str (pa_cons pe_str (pa_cons pe_str pa_nil)))))))) rfl))))
      (pss_one (ps_ret pe_bl))
      pss_nil)
    (pss_cons (ps_for PassesOwn.never rfl (pi_str (pv 0)) (pg_name (i := 2) sc_law_is_name.nd rfl (Or.inl rfl))
      (pss_one (ps_if (PW.pt (pw_and (pt_not (pt_chain op_le_str op_le_str pe_str (pv 2) pe_str)) (pw_and1 (pt_not (pt_chain op_le_str op_le_str pe_str (pv 2) pe_str)))))
      (pss_one (ps_ret pe_bl))
      pss_nil)))
    (pss_one (ps_ret (pe_chain op_le_str op_le_str pe_str (pe_ix ix_str (pv 0) pe_int (fun _ _ => rfl)) pe_str)))))), ?_⟩
  have hl := len_signs x
  have no : isName x = false → ∀ H', Same H H' → Q (.bl false) H' := fun e H' m => by rw [← e]; exact q H' m
  refine ⟨(by show 14 ≤ sizeLine; decide), fun p1 n1 => ?_⟩
  have m1 := Gm.same_new n1 (HO.tup ((["var", "table", "lots", "proc", "local", "set", "let", "draw", "put", "lot", "ask", "if", "else", "end"] : List Str).map V.str))
  refine ⟨_, rfl, x, rfl, Nat.le_trans hx a_le, _, _, rfl, rfl, _, rfl, ?_⟩
  have nlen : ¬ (1 ≤ x.length ∧ x.length ≤ 12) → isName x = false := fun e => by
    unfold isName
    rw [decide_eq_false e]
    rfl
  refine ite2 (fun c3 => ?_) (fun c3 => ?_)
  rotate_left
  · have := of_decide_eq_false (Bool.eq_false_iff.mpr c3)
    exact ⟨_, rfl, iteT (no (nlen (by omega)) _ m1)⟩
  have c3' := of_decide_eq_true c3
  refine ⟨_, _, rfl, rfl, _, rfl, ?_⟩
  refine ite2 (fun c4 => ?_) (fun c4 => ?_)
  · have : ¬ x.length ≤ 12 := by
      intro z
      rw [show decide ((x.length : Int) < 13) = true from decide_eq_true (by omega)] at c4
      cases c4
    exact no (nlen (by omega)) _ m1
  have c4' : x.length ≤ 12 := by
    cases e : decide ((x.length : Int) < 13) with
    | true => have := of_decide_eq_true e; omega
    | false => rw [e] at c4; exact absurd rfl c4
  refine ⟨_, rfl, _, rfl, (by show 6 ≤ sizeLine; decide), fun p2 n2 => ?_⟩
  have m2 := Gm.same_new n2 (HO.tup ((["bad", "after", "answer", "has", "cell", "mod"] : List Str).map V.str))
  refine ⟨p1, p2, _, _, rfl, rfl, sqT_mono m2 (SqT.of upd_same), SqT.of upd_same, (by show 20 ≤ sizeLine; decide), fun tq H3 w3 htq => ?_⟩
  have htq : SqT K H3 tq (keys.map V.str) := htq
  have m3 := m1.trans (m2.trans w3)
  refine ⟨tq, keys.map V.str, rfl, .inr htq, rfl, flat_strs _, ?_⟩
  refine ⟨_, rfl, ?_⟩
  rw [inV_strs]
  have key : x ∈ keys → isName x = false := fun e => by
    unfold isName
    rw [decide_eq_true e, Bool.not_true, Bool.and_false, Bool.false_and, Bool.false_and]
  refine ite2 (fun c => no (key (of_decide_eq_true c)) _ m3) (fun c => ?_)
  have nk : ¬ x ∈ keys := fun y => c (decide_eq_true y)
  obtain ⟨c0, cs, ec⟩ : ∃ c cs, signs x = c :: cs := by
    cases e : signs x with
    | nil => rw [e] at hl; simp at hl; omega
    | cons c cs => exact ⟨c, cs, rfl⟩
  have bas : isName x = (letB c0 && (signs x).all fun c => letB c || digB c) := by
    unfold isName
    rw [decide_eq_true (show 1 ≤ x.length ∧ x.length ≤ 12 from ⟨by omega, c4'⟩), decide_eq_false nk, ec]
    rfl
  have e0 : atI (signs x) 0 = some c0 := atI_nat (j := 0) (show (signs x)[0]? = some c0 by rw [ec] <;> rfl)
  refine ⟨_, rfl, x, rfl, ?_⟩
  refine for_it walk_str (fun i σ H' => Same H H' ∧ (∃ y, σ = [some (.str x), some (.ref p1), y]) ∧ ((signs x).take i).all (fun c => letB c || digB c) = true) ⟨m3, ⟨none, rfl⟩, rfl⟩ (fun _ _ _ _ _ => trivial) ?_ ?_
  · rintro i v σ H3 H4 hi' ⟨m4, ⟨y, rfl⟩, hd⟩ ⟨rfl, c', e2, rfl⟩
    have e2' : (signs x)[i]? = some c' := by unfold signs; rw [Array.getElem?_toList]; exact e2
    refine ⟨_, rfl, ?_⟩
    refine rngK (a0 := 97) (b0 := 122) (by decide +kernel) (by decide +kernel) ?_
    rw [← letB_eq]
    have nxt : (letB c' || digB c') = true → ((signs x).take (i + 1)).all (fun c => letB c || digB c) = true := fun e => by
      rw [take_more e2', List.all_append, hd]
      show (true && ((letB c' || digB c') && true)) = true
      rw [e]
      rfl
    refine ite2 (fun c6 => ?_) (fun c6 => ?_)
    · have l6 : letB c' = false := by
        cases e : letB c' with
        | true => rw [e] at c6; cases c6
        | false => rfl
      refine ⟨_, rfl, ?_⟩
      refine rngK (a0 := 48) (b0 := 57) (by decide +kernel) (by decide +kernel) ?_
      rw [← digB_eq]
      refine ite2 (fun c7 => ?_) (fun c7 => ?_)
      · have d7 : digB c' = false := by
          cases e : digB c' with
          | true => rw [e] at c7; cases c7
          | false => rfl
        refine no ?_ _ m4
        rw [bas, show ((signs x).all fun c => letB c || digB c) = false from ?_, Bool.and_false]
        rw [List.all_eq_false]
        exact ⟨c', List.mem_of_getElem? e2', by rw [l6, d7]; exact Bool.false_ne_true⟩
      · have d7 : digB c' = true := by
          cases e : digB c' with
          | true => rfl
          | false => rw [e] at c7; exact absurd rfl c7
        exact ⟨m4, ⟨_, rfl⟩, nxt (by rw [d7, Bool.or_true])⟩
    · have l6 : letB c' = true := by
        cases e : letB c' with
        | true => rfl
        | false => rw [e] at c6; exact absurd rfl c6
      exact ⟨m4, ⟨_, rfl⟩, nxt (by rw [l6]; rfl)⟩
  · rintro σ H3 ⟨m4, ⟨y, rfl⟩, hd⟩
    rw [show x.cps.size = (signs x).length from (Array.length_toList).symm, List.take_length] at hd
    have z := q _ m4
    rw [bas, hd, Bool.and_true] at z
    refine ⟨_, rfl, x, 0, c0, rfl, rfl, Nat.le_trans hx a_le, e0, ?_⟩
    refine rngE (a0 := 97) (b0 := 122) (by decide +kernel) (by decide +kernel) ?_
    rw [← letB_eq]
    exact z
end
end Toy
set_option Elab.async false
set_option linter.all false
set_option maxRecDepth 100000
set_option maxHeartbeats 4000000
namespace Toy
open PySem L2 NdefX Gm Pz
open Mine hiding same_new
def intsD (xs : List Int) : List PyData := xs.map PyData.int
noncomputable def tokD : Pz.Tok → PyData
  | .answer => .tuple [.str "answer"]
  | .player k => .tuple [.str "player", .int (k : Nat)]
  | .name k => .tuple [.str "name", .int (k : Nat)]
  | .given k => .tuple [.str "given", .int (k : Nat)]
  | .count k => .tuple [.str "count", .int (k : Nat)]
  | .size k => .tuple [.str "size", .int (k : Nat)]
  | .part k m seen => .tuple [.str "part", .int (k : Nat), .int (m : Nat), .tuple (intsD seen)]
  | .rules n => .tuple [.str "rules", .int (n : Nat)]
  | .value k => .tuple [.str "value", .int (k : Nat)]
  | .deed => .tuple [.str "deed"]
  | .called => .tuple [.str "called"]
theorem ints_nol : ∀ xs : List Int, nolAll (intsD xs) = true
  | [] => rfl
  | x :: r => by
    show (Gm.nol (.int x) && nolAll (intsD r)) = true
    rw [ints_nol r]; rfl
theorem tok_nol (t : Pz.Tok) : nol (tokD t) = true := by
  cases t with
  | part k m seen =>
    show (Gm.nol (.str "part") && (Gm.nol (.int (k : Nat)) && (Gm.nol (.int (m : Nat)) && (nolAll (intsD seen) && true)))) = true
    rw [ints_nol]; rfl
  | _ => rfl
theorem toks_nol : ∀ ts : List Pz.Tok, nolAll (ts.map tokD) = true
  | [] => rfl
  | t :: r => by
    show (Gm.nol (tokD t) && nolAll (r.map tokD)) = true
    rw [tok_nol, toks_nol r]; rfl
/-- what is open, as the law holds it -/
def StkV (K : PySem.W.Frag) (H : Hp) (s : Addr) (vs : List V) (r : List Pz.Tok) : Prop := H s = some (.lst vs) ∧ DpAll K H vs (r.reverse.map tokD)
def StkAt (K : PySem.W.Frag) (H : Hp) (s : Addr) (r : List Pz.Tok) : Prop := ∃ vs, StkV K H s vs r
theorem StkV.len {K : PySem.W.Frag} {H : Hp} {s : Addr} {vs : List V} {r : List Pz.Tok} (h : StkV K H s vs r) : vs.length = r.length := by
  have := DpAll.len h.2
  rw [List.length_map, List.length_reverse] at this
  exact this
theorem StkV.same {K : PySem.W.Frag} {H H' : Hp} {s : Addr} {vs : List V} {r : List Pz.Tok} (h : StkV K H s vs r) (m : Same H H') : StkV K H' s vs r := ⟨m _ _ h.1, dp_monoAll m _ _ h.2⟩
theorem push {K : PySem.W.Frag} {H : Hp} {s v : Addr} {vs : List V} {r : List Pz.Tok} {t : Pz.Tok} (h : StkV K H s vs r) (d : Dp K H (.ref v) (tokD t)) :
    But s H (upd H s (.lst (vs ++ [.ref v]))) ∧ StkV K (upd H s (.lst (vs ++ [.ref v]))) s (vs ++ [.ref v]) (t :: r) := by
  have tp := Tups.lst h.1 (o := .lst (vs ++ [.ref v]))
  refine ⟨fun b o e n => by rw [upd_ne n]; exact e, upd_same, ?_⟩
  rw [List.reverse_cons, List.map_append]
  exact DpAll.app (dp_tupsAll tp _ _ (toks_nol _) h.2) (.cons (dp_tups tp _ _ (tok_nol t) d) .nil)
def spTok (K : PySem.W.Frag) (ok : Pz.Tok → Bool) : Sp := fun vs H Q _ => ∃ (s : Addr) (r : List Pz.Tok) (t : Pz.Tok) (v : V) (w : Str), vs = [.ref s, v, .str w] ∧ StkAt K H s r ∧ Dp K H v (tokD t) ∧ ok t = true ∧ w.length ≤ 1000 ∧ r.length ≤ 1000000 ∧ (∀ k m seen, t = .part k m seen → seen.length ≤ 100000) ∧
  ∀ H', But s H H' → (∀ p, stP t w = some p → StkAt K H' s (p ++ r)) → Q (.bl (stP t w).isSome) H'
theorem dpa_repT {K : PySem.W.Frag} {H : Hp} {v : V} {d : PyData} (h : Dp K H v d) : ∀ m : Nat, DpAll K H (List.replicate m [v]).flatten (List.replicate m d)
  | 0 => .nil
  | m + 1 => by
    rw [List.replicate_succ, List.replicate_succ, List.flatten_cons]
    exact .cons h (dpa_repT h m)
theorem numOk_ok {w : Str} {lo hi : Int} (h : numOk w lo hi = true) : isNum w = true ∧ lo ≤ ((numW w : Nat) : Int) ∧ ((numW w : Nat) : Int) ≤ hi := by
  unfold numOk at h
  rw [Bool.and_eq_true, decide_eq_true_iff] at h
  exact ⟨h.1, h.2⟩
theorem flat_ints : ∀ xs : List Int, (xs.map V.int).all flatV = true
  | [] => rfl
  | _ :: r => flat_ints r
theorem inV_ints (x : Int) : ∀ xs : List Int, inV (.int x) (xs.map V.int) = decide (x ∈ xs) := by
  intro xs
  induction xs with
  | nil => rfl
  | cons y r ih =>
    unfold inV at ih ⊢
    rw [List.map_cons, List.any_cons, ih]
    by_cases h : x = y
    · rw [h]
      simp [eqV]
    · simp [eqV, h, Ne.symm h]
theorem ints_of {K : PySem.W.Frag} {H : Hp} : ∀ {vs : List V} {xs : List Int}, DpAll K H vs (intsD xs) → vs = xs.map V.int
  | [], [], _ => rfl
  | v :: vs, x :: xs, .cons h t => by
    cases h
    rw [ints_of t]
    rfl
theorem isNum_parts {w : Str} (h : isNum w = true) : (signs w).all digB = true ∧ 1 ≤ w.length ∧ w.length ≤ 5 := by
  unfold isNum at h
  rw [Bool.and_eq_true, Bool.and_eq_true, decide_eq_true_iff] at h
  exact ⟨h.1.2, h.1.1⟩
def okPl : Pz.Tok → Bool
  | .answer => true
  | .player _ => true
  | .name _ => true
  | .given _ => true
  | .count _ => true
  | .size _ => true
  | .part _ _ _ => true
  | _ => false
section
variable {P : Program} {w : World} {K : PySem.W.Frag} {mg : Str → Option Value} {base : Heap} {file : Str}
theorem ok_tplayer (T : Txt K mg file) : FnOk P w K mg base CX0 2 T.a_law_player T.fd_law_player ["stack", "top", "word"] (spTok K okPl) := by
  have G_law_is_number : FnOk P w K mg base CX0 1 T.a_law_is_number T.fd_law_is_number ["word", "least", "most"] spLNum := ok_lnum T
  have G_law_is_name : FnOk P w K mg base CX0 1 T.a_law_is_name T.fd_law_is_name ["word"] spLName := ok_lname T
  refine T.F_law_player.ok sc_law_player (fun vs H Q E h => ?_) (fun cdv A outer s' H vs Q E hr h => ?_)
  · obtain ⟨s, r, t, v, w, rfl, _⟩ := h
    rfl
  obtain ⟨s, r, t, v, w, rfl, ⟨vs, hv⟩, d, okt, hw, hrl, hseen, q⟩ := h
  refine ⟨_, (pss_cons (ps_if (pt_cmpR op_eq (pe_ix ix_tup (pv 1) pe_int (fun _ _ => rfl)) pe_str (nomark _))
      (pss_one (ps_ret (pe_cmpR op_in_seq (pv 2) (pe_tup (pa_cons pe_str (pa_cons pe_str pa_nil))) rfl)))
      pss_nil)
    (pss_cons (ps_if (pt_cmpR op_eq (pe_ix ix_tup (pv 1) pe_int (fun _ _ => rfl)) pe_str (nomark _))
      (pss_cons (ps_if (pt_cmpR op_eq (pv 2) pe_str (nomark _))
      (pss_one (ps_expr (pe_bm PySem.F.plainAttrs_list PySem.F.slot_list_append PySem.F.type_list_append mt_append (pv 0) (pa_cons (pe_tup (pa_cons pe_str pa_nil)) pa_nil))))
      (pss_one (ps_if (PW.pt (pw_and (pt_cmpR op_in_seq (pv 2) (pe_tup (pa_cons pe_str (pa_cons pe_str pa_nil))) rfl) (pw_and1 (pt_cmpR op_gt (pe_ix ix_tup (pv 1) pe_int (fun _ _ => rfl)) pe_int (nomark _)))))
      (pss_one (ps_expr (pe_bm PySem.F.plainAttrs_list PySem.F.slot_list_append PySem.F.type_list_append mt_append (pv 0) (pa_cons (pe_tup (pa_cons (pe_ix ix_tup (pe_tup (pa_cons pe_str (pa_cons pe_str pa_nil))) (pe_callTy call_int1 (by rfl) T.z_int (by decide +kernel) (pa_cons (pe_cmpR op_eq (pv 2) pe_str (nomark _)) pa_nil)) (fun _ _ => rfl)) (pa_cons (pe_op op_sub (pe_ix ix_tup (pv 1) pe_int (fun _ _ => rfl)) pe_int) pa_nil))) pa_nil))))
      pss_nil)))
    (pss_one (ps_ret (pe_or (pe_cmpR op_eq (pv 2) pe_str (nomark _)) (pe_one (pe_and (pe_cmpR op_in_seq (pv 2) (pe_tup (pa_cons pe_str (pa_cons pe_str pa_nil))) rfl) (pe_one (pe_cmpR op_gt (pe_ix ix_tup (pv 1) pe_int (fun _ _ => rfl)) pe_int (nomark _)))))))))
      pss_nil)
    (pss_cons (ps_if (pt_cmpR op_eq (pe_ix ix_tup (pv 1) pe_int (fun _ _ => rfl)) pe_str (nomark _))
      (pss_cons (ps_expr (pe_bm PySem.F.plainAttrs_list PySem.F.slot_list_append PySem.F.type_list_append mt_append (pv 0) (pa_cons (pe_tup (pa_cons pe_str (pa_cons (pe_ix ix_tup (pv 1) pe_int (fun _ _ => rfl)) pa_nil))) pa_nil)))
    (pss_one (ps_ret (pe_call G_law_is_name (hr.mono (by decide)) rfl T.g_law_is_name T.k_law_is_name T.b_law_is_name .nil pass0 (pa_cons (pv 2) pa_nil)))))
      pss_nil)
    (pss_cons (ps_if (pt_cmpR op_eq (pe_ix ix_tup (pv 1) pe_int (fun _ _ => rfl)) pe_str (nomark _))
      (pss_cons (ps_expr (pe_bm PySem.F.plainAttrs_list PySem.F.slot_list_append PySem.F.type_list_append mt_append (pv 0) (pa_cons (pe_tup (pa_cons pe_str (pa_cons (pe_ix ix_tup (pv 1) pe_int (fun _ _ => rfl)) pa_nil))) pa_nil)))
    (pss_one (ps_ret (pe_call G_law_is_number (hr.mono (by decide)) rfl T.g_law_is_number T.k_law_is_number T.b_law_is_number .nil pass0 (pa_cons (pv 2) (pa_cons pe_int (pa_cons pe_int pa_nil)))))))
      pss_nil)
    (pss_cons (ps_if (pt_cmpR op_eq (pe_ix ix_tup (pv 1) pe_int (fun _ _ => rfl)) pe_str (nomark _))
      (pss_cons (ps_if (pt_not (pt_val (pe_call G_law_is_number (hr.mono (by decide)) rfl T.g_law_is_number T.k_law_is_number T.b_law_is_number .nil pass0 (pa_cons (pv 2) (pa_cons pe_int (pa_cons pe_int pa_nil))))))
      (pss_one (ps_ret pe_bl))
      pss_nil)
    (pss_cons (ps_expr (pe_bm PySem.F.plainAttrs_list PySem.F.slot_list_extend PySem.F.type_list_extend mt_extend (pv 0) (pa_cons (pe_op op_rep (pe_lst (pa_cons (pe_tup (pa_cons pe_str (pa_cons (pe_ix ix_tup (pv 1) pe_int (fun _ _ => rfl)) pa_nil))) pa_nil)) (pe_callTy call_int_str (by rfl) T.z_int (by decide +kernel) (pa_cons (pv 2) pa_nil))) pa_nil)))
    (pss_one (ps_ret pe_bl))))
      pss_nil)
    (pss_cons (ps_if (pt_cmpR op_eq (pe_ix ix_tup (pv 1) pe_int (fun _ _ => rfl)) pe_str (nomark _))
      (pss_cons (ps_if (pt_not (pt_val (pe_call G_law_is_number (hr.mono (by decide)) rfl T.g_law_is_number T.k_law_is_number T.b_law_is_number .nil pass0 (pa_cons (pv 2) (pa_cons pe_int (pa_cons pe_int pa_nil))))))
      (pss_one (ps_ret pe_bl))
      pss_nil)
    (pss_cons (ps_if (pt_cmpR op_gt (pe_callTy call_int_str (by rfl) T.z_int (by decide +kernel) (pa_cons (pv 2) pa_nil)) pe_int (nomark _))
      (pss_one (ps_expr (pe_bm PySem.F.plainAttrs_list PySem.F.slot_list_append PySem.F.type_list_append mt_append (pv 0) (pa_cons (pe_tup (pa_cons pe_str (pa_cons (pe_ix ix_tup (pv 1) pe_int (fun _ _ => rfl)) (pa_cons (pe_callTy call_int_str (by rfl) T.z_int (by decide +kernel) (pa_cons (pv 2) pa_nil)) (pa_cons (pe_tup pa_nil) pa_nil))))) pa_nil))))
      pss_nil)
    (pss_one (ps_ret pe_bl))))
      pss_nil)
    (pss_cons (ps_if (PW.pt (pw_or (pt_not (pt_val (pe_call G_law_is_number (hr.mono (by decide)) rfl T.g_law_is_number T.k_law_is_number T.b_law_is_number .nil pass0 (pa_cons (pv 2) (pa_cons pe_int (pa_cons pe_int pa_nil)))))) (pw_or1 (pt_cmpR op_in_seq (pe_callTy call_int_str (by rfl) T.z_int (by decide +kernel) (pa_cons (pv 2) pa_nil)) (pe_ix ix_tup (pv 1) pe_int (fun _ _ => rfl)) rfl))))
      (pss_one (ps_ret pe_bl))
      pss_nil)
    (pss_cons (ps_if (pt_cmpR op_gt (pe_ix ix_tup (pv 1) pe_int (fun _ _ => rfl)) pe_int (nomark _))
      (pss_one (ps_expr (pe_bm PySem.F.plainAttrs_list PySem.F.slot_list_append PySem.F.type_list_append mt_append (pv 0) (pa_cons (pe_tup (pa_cons pe_str (pa_cons (pe_ix ix_tup (pv 1) pe_int (fun _ _ => rfl)) (pa_cons (pe_op op_sub (pe_ix ix_tup (pv 1) pe_int (fun _ _ => rfl)) pe_int) (pa_cons (pe_op (CatB.op_catB K rfl) (pe_ix ix_tup (pv 1) pe_int (fun _ _ => rfl)) (pe_tup (pa_cons (pe_callTy call_int_str (by rfl) T.z_int (by decide +kernel) (pa_cons (pv 2) pa_nil)) pa_nil))) pa_nil))))) pa_nil))))
      pss_nil)
    (pss_cons (ps_expr (pe_bm PySem.F.plainAttrs_list PySem.F.slot_list_append PySem.F.type_list_append mt_append (pv 0) (pa_cons (pe_tup (pa_cons pe_str (pa_cons (pe_ix ix_tup (pv 1) pe_int (fun _ _ => rfl)) pa_nil))) pa_nil)))
    (pss_one (ps_ret pe_bl))))))))))), ?_⟩
  have big : ∀ n : Nat, n ≤ 100000 → n ≤ sizeLine := fun n h => Nat.le_trans h (by decide)
  have lv := hv.len
  have sz : vs.length < sizeLine := Nat.lt_of_le_of_lt (show vs.length ≤ 1000000 by omega) (by decide)
  have hw6 : w.length ≤ 1000000 := by omega
  -- a word that is refused
  have no : stP t w = none → ∀ H', But s H H' → Q (.bl false) H' := fun e H' b => by
    have := q H' b (fun p z => by rw [e] at z; cases z)
    rw [e] at this
    exact this
  -- a word that fits
  have yes : ∀ p, stP t w = some p → ∀ H', But s H H' → StkAt K H' s (p ++ r) → Q (.bl true) H' := fun p e H' b h => by
    have := q H' b (fun p' z => by rw [e] at z; cases z; exact h)
    rw [e] at this
    exact this
  cases t with
  | rules n => cases okt
  | value n => cases okt
  | deed => cases okt
  | called => cases okt
  | answer =>
    cases d with
    | @tup a xs ds hs ha =>
    cases ha with
    | cons h1 h2 =>
    cases h1
    cases h2
    refine ⟨_, rfl, a, _, 0, _, rfl, rfl, hs, atI_nat (j := 0) rfl, rfl, _, rfl, iteT ?_⟩
    refine ⟨_, rfl, big 2 (by decide), fun tp htp => ⟨tp, (["yes", "no"] : List Str).map V.str, rfl, .inr (SqT.of upd_same), rfl, flat_strs _, ?_⟩⟩
    rw [inV_strs]
    have bb : But s H _ := But.same (same_new htp (.tup [V.str "yes", V.str "no"]))
    by_cases c : w ∈ (["yes", "no"] : List Str)
    · rw [decide_eq_true c]
      refine yes [] (sE_answer.trans (if_pos ?_)) _ bb ⟨_, hv.same (same_new htp _)⟩
      rcases List.mem_cons.mp c with c | c
      · exact .inl c
      · exact .inr (List.mem_singleton.mp c)
    · rw [decide_eq_false c]
      exact no (sE_answer.trans (if_neg fun z => c (z.elim (fun y => by rw [y]; exact List.mem_cons_self ..) fun y => by rw [y]; exact List.mem_cons_of_mem _ (List.mem_cons_self ..)))) _ bb
  | player k =>
    cases d with
    | @tup a xs ds hs ha =>
    cases ha with
    | cons h1 h2 =>
    cases h1
    cases h2 with
    | cons h3 h4 =>
    cases h3
    cases h4
    refine ⟨_, rfl, a, _, 0, _, rfl, rfl, hs, atI_nat (j := 0) rfl, rfl, _, rfl, iteF ?_⟩
    refine ⟨_, rfl, a, _, 0, _, rfl, rfl, hs, atI_nat (j := 0) rfl, rfl, _, rfl, iteT ?_⟩
    refine ⟨_, rfl, rfl, _, rfl, ?_⟩
    rw [ds_str]
    by_cases cs : w = "say"
    · refine ite_yes (decide_eq_true cs) ?_
      refine ⟨_, rfl, .inl ⟨rfl, _, SqL.of hv.1⟩, big 1 (by decide), fun tp htp => ?_⟩
      have k1 := same_new htp (.tup [V.str "answer"])
      obtain ⟨b2, s2⟩ := push (hv.same k1) (t := .answer) (dp_tup htp (.cons (.str _) .nil))
      refine ⟨s, _, _, rfl, rfl, k1 _ _ hv.1, sz, ?_⟩
      have e1 : decide (V.str w = V.str "say") = true := decide_eq_true (congrArg V.str cs)
      refine ⟨_, rfl, rfl, _, rfl, ite_yes e1 ?_⟩
      refine yes [.answer] ?_ _ ((But.same k1).trans b2) ⟨_, s2⟩
      cases k with
      | zero => exact sE_p0.trans (if_pos cs)
      | succ k => exact sE_pS.trans (if_pos cs)
    refine ite_no (fun z => cs (of_decide_eq_true z)) ?_
    refine ⟨_, rfl, big 2 (by decide), fun t1 ht1 => ⟨t1, (["toss", "ask"] : List Str).map V.str, rfl, .inr (SqT.of upd_same), rfl, flat_strs _, ?_⟩⟩
    have k1 := same_new ht1 (.tup [V.str "toss", V.str "ask"])
    have hs1 := sqT_mono k1 hs
    have hv1 := hv.same k1
    have b1 : But s H _ := But.same k1
    have e1 : decide (V.str w = V.str "say") = false := decide_eq_false (fun z => cs (V.str.inj z))
    refine ⟨_, rfl, ?_⟩
    rw [inV_strs]
    -- the last row, if the word does not open anything
    by_cases hm : w ∈ (["toss", "ask"] : List Str)
    rotate_left
    · refine ite_no (fun z => hm (of_decide_eq_true z)) (iteF ?_)
      refine ⟨_, rfl, rfl, _, rfl, ite_no (by rw [e1]; decide) ?_⟩
      refine ⟨_, rfl, big 2 (by decide), fun t2 ht2 => ⟨t2, (["toss", "ask"] : List Str).map V.str, rfl, .inr (SqT.of upd_same), rfl, flat_strs _, ?_⟩⟩
      rw [inV_strs, decide_eq_false hm]
      refine ⟨_, rfl, iteF ?_⟩
      refine no ?_ _ (b1.trans (But.same (same_new ht2 _)))
      cases k with
      | zero => exact sE_p0.trans (if_neg cs)
      | succ k => exact sE_pS.trans ((if_neg cs).trans ((if_neg fun z => hm (by rw [z]; exact List.mem_cons_self ..)).trans (if_neg fun z => hm (by rw [z]; exact List.mem_cons_of_mem _ (List.mem_cons_self ..)))))
    refine ite_yes (decide_eq_true hm) ?_
    refine ⟨_, rfl, a, _, 1, _, rfl, rfl, hs1, atI_nat (j := 1) rfl, _, _, rfl, rfl, _, rfl, ?_⟩
    cases k with
    | zero =>
      refine ite_no (by simp) ?_
      refine ⟨_, rfl, rfl, _, rfl, ite_no (by rw [e1]; decide) ?_⟩
      refine ⟨_, rfl, big 2 (by decide), fun t2 ht2 => ⟨t2, (["toss", "ask"] : List Str).map V.str, rfl, .inr (SqT.of upd_same), rfl, flat_strs _, ?_⟩⟩
      have k2 := same_new ht2 (.tup [V.str "toss", V.str "ask"])
      rw [inV_strs, decide_eq_true hm]
      refine ⟨_, rfl, iteT ?_⟩
      refine ⟨_, rfl, a, _, 1, _, rfl, rfl, sqT_mono k2 hs1, atI_nat (j := 1) rfl, _, _, rfl, rfl, ?_⟩
      exact no (sE_p0.trans (if_neg cs)) _ (b1.trans (But.same k2))
    | succ k =>
      have kp : (0 : Int) < ((k + 1 : Nat) : Int) := by omega
      refine ite_yes (decide_eq_true kp) ?_
      refine ⟨_, rfl, .inl ⟨rfl, _, SqL.of hv1.1⟩, big 2 (by decide), fun t2 ht2 => ?_⟩
      have k2 := same_new ht2 (.tup [V.str "name", V.str "count"])
      obtain ⟨tk, te, es, hst⟩ : ∃ (tk : Pz.Tok) (te : Str), atI [V.str "name", V.str "count"] (if decide (V.str w = V.str "toss") = true then 1 else 0) = some (.str te) ∧ tokD tk = .tuple [.str te, .int (k : Nat)] ∧ stP (.player (k + 1)) w = some [tk] := by
        by_cases c : w = "toss"
        · rw [if_pos (decide_eq_true (congrArg V.str c))]
          exact ⟨.count k, "count", rfl, rfl, sE_pS.trans ((if_neg cs).trans (if_pos c))⟩
        · rw [if_neg (fun z => c (V.str.inj (of_decide_eq_true z)))]
          refine ⟨.name k, "name", rfl, rfl, sE_pS.trans ((if_neg cs).trans ((if_neg c).trans (if_pos ?_)))⟩
          rcases List.mem_cons.mp hm with h | h
          · exact absurd h c
          · exact List.mem_singleton.mp h
      obtain ⟨hd, hst⟩ := hst
      refine ⟨_, rfl, rfl, .inr ⟨_, rfl, t2, _, _, _, rfl, rfl, SqT.of upd_same, es, ?_⟩⟩
      have ek : ((k + 1 : Nat) : Int) - 1 = (k : Nat) := by omega
      refine ⟨_, rfl, a, _, 1, _, rfl, rfl, sqT_mono k2 hs1, atI_nat (j := 1) rfl, _, _, rfl, rfl, big 2 (by decide), fun tp htp => ?_⟩
      dsimp only
      rw [ek]
      have k3 := same_new htp (.tup [V.str te, V.int (k : Nat)])
      have d3 : Dp K (upd (upd (upd H t1 (.tup [V.str "toss", V.str "ask"])) t2 (.tup [V.str "name", V.str "count"])) tp (.tup [V.str te, V.int (k : Nat)])) (.ref tp) (tokD tk) := by
        rw [hd]
        exact dp_tup htp (.cons (.str _) (.cons (.int _) .nil))
      obtain ⟨b4, s4⟩ := push ((hv1.same k2).same k3) (t := tk) d3
      have hs3 := sqT_tups (Tups.lst (o := .lst (vs ++ [.ref tp])) ((hv1.same k2).same k3).1) (sqT_mono k3 (sqT_mono k2 hs1))
      refine ⟨s, _, _, rfl, rfl, ((hv1.same k2).same k3).1, sz, ?_⟩
      have b5 : But s H _ := b1.trans ((But.same (k2.trans k3)).trans b4)
      revert b4 s4 hs3 b5
      generalize upd (upd (upd (upd H t1 (.tup [V.str "toss", V.str "ask"])) t2 (.tup [V.str "name", V.str "count"])) tp (.tup [V.str te, V.int (k : Nat)])) s (.lst (vs ++ [.ref tp])) = H5
      intro b4 s4 hs3 b5
      refine ⟨_, rfl, rfl, _, rfl, ite_no (by rw [e1]; decide) ?_⟩
      refine ⟨_, rfl, big 2 (by decide), fun t6 ht6 => ⟨t6, (["toss", "ask"] : List Str).map V.str, rfl, .inr (SqT.of upd_same), rfl, flat_strs _, ?_⟩⟩
      have k6 := same_new ht6 (.tup [V.str "toss", V.str "ask"])
      rw [inV_strs, decide_eq_true hm]
      refine ⟨_, rfl, iteT ?_⟩
      refine ⟨_, rfl, a, _, 1, _, rfl, rfl, sqT_mono k6 hs3, atI_nat (j := 1) rfl, _, _, rfl, rfl, ?_⟩
      dsimp only
      rw [decide_eq_true kp]
      exact yes [tk] hst _ (b5.trans (But.same k6)) ⟨_, s4.same k6⟩
  | name k =>
    cases d with
    | @tup a xs ds hs ha =>
    cases ha with
    | cons h1 h2 =>
    cases h1
    cases h2 with
    | cons h3 h4 =>
    cases h3
    cases h4
    refine ⟨_, rfl, a, _, 0, _, rfl, rfl, hs, atI_nat (j := 0) rfl, rfl, _, rfl, iteF ?_⟩
    refine ⟨_, rfl, a, _, 0, _, rfl, rfl, hs, atI_nat (j := 0) rfl, rfl, _, rfl, iteF ?_⟩
    refine ⟨_, rfl, a, _, 0, _, rfl, rfl, hs, atI_nat (j := 0) rfl, rfl, _, rfl, iteT ?_⟩
    refine ⟨_, rfl, .inl ⟨rfl, _, SqL.of hv.1⟩, _, rfl, a, _, 1, _, rfl, rfl, hs, atI_nat (j := 1) rfl, big 2 (by decide), fun tp htp => ?_⟩
    have k1 := same_new htp (.tup [V.str "given", V.int (k : Nat)])
    obtain ⟨b2, s2⟩ := push (hv.same k1) (t := .given k) (dp_tup htp (.cons (.str _) (.cons (.int _) .nil)))
    refine ⟨s, _, _, rfl, rfl, k1 _ _ hv.1, sz, ?_⟩
    refine ⟨_, rfl, w, rfl, hw6, fun H' m => ?_⟩
    have bb := (But.same k1).trans (b2.trans (But.same m))
    cases c : isName w with
    | true => exact yes [.given k] (sE_name.trans (if_pos c)) H' bb ⟨_, s2.same m⟩
    | false => exact no (sE_name.trans (if_neg (by rw [c]; decide))) H' bb
  | given k =>
    cases d with
    | @tup a xs ds hs ha =>
    cases ha with
    | cons h1 h2 =>
    cases h1
    cases h2 with
    | cons h3 h4 =>
    cases h3
    cases h4
    refine ⟨_, rfl, a, _, 0, _, rfl, rfl, hs, atI_nat (j := 0) rfl, rfl, _, rfl, iteF ?_⟩
    refine ⟨_, rfl, a, _, 0, _, rfl, rfl, hs, atI_nat (j := 0) rfl, rfl, _, rfl, iteF ?_⟩
    refine ⟨_, rfl, a, _, 0, _, rfl, rfl, hs, atI_nat (j := 0) rfl, rfl, _, rfl, iteF ?_⟩
    refine ⟨_, rfl, a, _, 0, _, rfl, rfl, hs, atI_nat (j := 0) rfl, rfl, _, rfl, iteT ?_⟩
    refine ⟨_, rfl, .inl ⟨rfl, _, SqL.of hv.1⟩, _, rfl, a, _, 1, _, rfl, rfl, hs, atI_nat (j := 1) rfl, big 2 (by decide), fun tp htp => ?_⟩
    have k1 := same_new htp (.tup [V.str "size", V.int (k : Nat)])
    obtain ⟨b2, s2⟩ := push (hv.same k1) (t := .size k) (dp_tup htp (.cons (.str _) (.cons (.int _) .nil)))
    refine ⟨s, _, _, rfl, rfl, k1 _ _ hv.1, sz, ?_⟩
    refine ⟨_, rfl, w, 0, 65535, rfl, hw6, by decide, ?_⟩
    have bb := (But.same k1).trans b2
    cases c : numOk w 0 65535 with
    | true => exact yes [.size k] (sE_given.trans (if_pos c)) _ bb ⟨_, s2⟩
    | false => exact no (sE_given.trans (if_neg (by rw [c]; decide))) _ bb
  | count k =>
    cases d with
    | @tup a xs ds hs ha =>
    cases ha with
    | cons h1 h2 =>
    cases h1
    cases h2 with
    | cons h3 h4 =>
    cases h3
    cases h4
    refine ⟨_, rfl, a, _, 0, _, rfl, rfl, hs, atI_nat (j := 0) rfl, rfl, _, rfl, iteF ?_⟩
    refine ⟨_, rfl, a, _, 0, _, rfl, rfl, hs, atI_nat (j := 0) rfl, rfl, _, rfl, iteF ?_⟩
    refine ⟨_, rfl, a, _, 0, _, rfl, rfl, hs, atI_nat (j := 0) rfl, rfl, _, rfl, iteF ?_⟩
    refine ⟨_, rfl, a, _, 0, _, rfl, rfl, hs, atI_nat (j := 0) rfl, rfl, _, rfl, iteF ?_⟩
    refine ⟨_, rfl, a, _, 0, _, rfl, rfl, hs, atI_nat (j := 0) rfl, rfl, _, rfl, iteT ?_⟩
    refine ⟨_, rfl, w, 1, 16, rfl, hw6, by decide, ?_⟩
    cases c : numOk w 1 16 with
    | false => exact ⟨false, rfl, iteT (no (sE_count.trans (if_neg (by rw [c]; decide))) _ (But.same (Same.refl _)))⟩
    | true =>
    obtain ⟨n1, n2, n3⟩ := numOk_ok c
    obtain ⟨hd', hl1, hl2⟩ := isNum_parts n1
    refine ⟨true, rfl, iteF ?_⟩
    refine ⟨_, rfl, .inl ⟨rfl, _, SqL.of hv.1⟩, _, rfl, a, _, 1, _, rfl, rfl, hs, atI_nat (j := 1) rfl, big 2 (by decide), fun tp htp => ⟨big 1 (by decide), fun L1 hL1 => ?_⟩⟩
    have k1 := same_new htp (.tup [V.str "player", V.int (k : Nat)])
    have k2 := same_new hL1 (.lst [V.ref tp])
    refine ⟨_, rfl, w, _, rfl, num_text hd' hl1 hl2, by omega, L1, _, _, rfl, rfl, upd_same, by omega, by omega, big _ (by show 1 * _ ≤ 100000; omega), fun L2 hL2 => ?_⟩
    have k3 := same_new hL2 (.lst (List.replicate (((numW w : Nat) : Int)).toNat [V.ref tp]).flatten)
    have k13 := k1.trans (k2.trans k3)
    refine ⟨s, L2, _, _, rfl, rfl, k13 _ _ hv.1, upd_same, ?_, ?_⟩
    · have h16 : numW w ≤ 16 := by omega
      rw [Int.toNat_natCast, List.length_flatten]
      simp only [List.map_replicate, List.sum_replicate_nat, List.length_cons, List.length_nil]
      exact Nat.le_trans (show vs.length + numW w * (0 + 1) ≤ 1000016 by omega) (by decide)
    rw [Int.toNat_natCast]
    refine yes (List.replicate (numW w) (.player k)) (sE_count.trans (if_pos c)) _ ((But.same k13).trans fun b o e n => by rw [upd_ne n]; exact e) ⟨_, upd_same, ?_⟩
    have d1 : Dp K _ (.ref tp) (tokD (.player k)) := dp_mono (k2.trans k3) _ _ (dp_tup htp (.cons (.str _) (.cons (.int _) .nil)))
    have hv3 := hv.same k13
    have tp' := Tups.lst hv3.1 (o := .lst (vs ++ (List.replicate (numW w) [V.ref tp]).flatten))
    rw [List.reverse_append, List.reverse_replicate, List.map_append, List.map_replicate]
    rw [Int.toNat_natCast] at tp' d1 hv3
    exact DpAll.app (dp_tupsAll tp' _ _ (toks_nol _) hv3.2) (dpa_repT (dp_tups tp' _ _ (tok_nol _) d1) (numW w))
  | size k =>
    cases d with
    | @tup a xs ds hs ha =>
    cases ha with
    | cons h1 h2 =>
    cases h1
    cases h2 with
    | cons h3 h4 =>
    cases h3
    cases h4
    refine ⟨_, rfl, a, _, 0, _, rfl, rfl, hs, atI_nat (j := 0) rfl, rfl, _, rfl, iteF ?_⟩
    refine ⟨_, rfl, a, _, 0, _, rfl, rfl, hs, atI_nat (j := 0) rfl, rfl, _, rfl, iteF ?_⟩
    refine ⟨_, rfl, a, _, 0, _, rfl, rfl, hs, atI_nat (j := 0) rfl, rfl, _, rfl, iteF ?_⟩
    refine ⟨_, rfl, a, _, 0, _, rfl, rfl, hs, atI_nat (j := 0) rfl, rfl, _, rfl, iteF ?_⟩
    refine ⟨_, rfl, a, _, 0, _, rfl, rfl, hs, atI_nat (j := 0) rfl, rfl, _, rfl, iteF ?_⟩
    refine ⟨_, rfl, a, _, 0, _, rfl, rfl, hs, atI_nat (j := 0) rfl, rfl, _, rfl, iteT ?_⟩
    refine ⟨_, rfl, w, 0, 64, rfl, hw6, by decide, ?_⟩
    cases c : numOk w 0 64 with
    | false => exact ⟨false, rfl, iteT (no (sE_size.trans (if_neg (by rw [c]; decide))) _ (But.same (Same.refl _)))⟩
    | true =>
    obtain ⟨n1, n2, n3⟩ := numOk_ok c
    obtain ⟨hd', hl1, hl2⟩ := isNum_parts n1
    refine ⟨true, rfl, iteF ?_⟩
    refine ⟨_, rfl, w, _, rfl, num_text hd' hl1 hl2, by omega, _, _, rfl, rfl, _, rfl, ?_⟩
    have hst : stP (.size k) w = some (match numW w with | 0 => [] | m + 1 => [.part k (m + 1) []]) := sE_size.trans (if_pos c)
    cases em : numW w with
    | zero =>
      rw [em] at hst
      refine ite_no (by decide) ?_
      exact yes [] hst _ (But.same (Same.refl _)) ⟨_, hv⟩
    | succ m =>
      rw [em] at hst
      have pm : (0 : Int) < ((m + 1 : Nat) : Int) := by omega
      refine ite_yes (decide_eq_true pm) ?_
      refine ⟨_, rfl, .inl ⟨rfl, _, SqL.of hv.1⟩, _, rfl, a, _, 1, _, rfl, rfl, hs, atI_nat (j := 1) rfl, _, rfl, w, _, rfl, num_text hd' hl1 hl2, by omega, big 0 (by decide), fun t0 ht0 => ⟨big 4 (by decide), fun tp htp => ?_⟩⟩
      have k1 := same_new ht0 (.tup [])
      have d0 : Dp K (upd H t0 (.tup [])) (.ref t0) (.tuple (intsD [])) := dp_tup ht0 .nil
      have k2 := same_new htp (.tup [V.str "part", V.int (k : Nat), V.int (numW w : Nat), V.ref t0])
      obtain ⟨b3, s3⟩ := push ((hv.same k1).same k2) (t := .part k (numW w) []) (dp_tup htp (.cons (.str _) (.cons (.int _) (.cons (.int _) (.cons d0 .nil)))))
      refine ⟨s, _, _, rfl, rfl, ((hv.same k1).same k2).1, sz, ?_⟩
      have hst' : stP (.size k) w = some [.part k (numW w) []] := by rw [hst, em]
      exact yes [.part k (numW w) []] hst' _ ((But.same (k1.trans k2)).trans b3) ⟨_, s3⟩
  | part k m seen =>
    cases d with
    | @tup a xs ds hs ha =>
    cases ha with
    | cons h1 h2 =>
    cases h1
    cases h2 with
    | cons h3 h4 =>
    cases h3
    cases h4 with
    | cons h5 h6 =>
    cases h5
    cases h6 with
    | cons h7 h8 =>
    cases h8
    have d7 := h7
    cases h7 with
    | @tup t3 ys es hs3 ha3 =>
    have ey := ints_of ha3
    subst ey
    refine ⟨_, rfl, a, _, 0, _, rfl, rfl, hs, atI_nat (j := 0) rfl, rfl, _, rfl, iteF ?_⟩
    refine ⟨_, rfl, a, _, 0, _, rfl, rfl, hs, atI_nat (j := 0) rfl, rfl, _, rfl, iteF ?_⟩
    refine ⟨_, rfl, a, _, 0, _, rfl, rfl, hs, atI_nat (j := 0) rfl, rfl, _, rfl, iteF ?_⟩
    refine ⟨_, rfl, a, _, 0, _, rfl, rfl, hs, atI_nat (j := 0) rfl, rfl, _, rfl, iteF ?_⟩
    refine ⟨_, rfl, a, _, 0, _, rfl, rfl, hs, atI_nat (j := 0) rfl, rfl, _, rfl, iteF ?_⟩
    refine ⟨_, rfl, a, _, 0, _, rfl, rfl, hs, atI_nat (j := 0) rfl, rfl, _, rfl, iteF ?_⟩
    refine ⟨_, rfl, w, 0, 63, rfl, hw6, by decide, ?_⟩
    cases c : numOk w 0 63 with
    | false => exact ⟨false, rfl, iteT (no (sE_part.trans (if_neg (fun z => by rw [c] at z; exact absurd z.1 (by decide)))) _ (But.same (Same.refl _)))⟩
    | true =>
    obtain ⟨n1, n2, n3⟩ := numOk_ok c
    obtain ⟨hd', hl1, hl2⟩ := isNum_parts n1
    refine ⟨true, rfl, iteF ?_⟩
    refine ⟨_, rfl, w, _, rfl, num_text hd' hl1 hl2, by omega, _, rfl, a, _, 3, _, rfl, rfl, hs, atI_nat (j := 3) rfl, t3, _, rfl, .inr hs3, rfl, flat_ints _, ?_⟩
    refine ⟨_, rfl, ?_⟩
    rw [inV_ints]
    by_cases cm : ((numW w : Nat) : Int) ∈ seen
    · exact ite_yes (decide_eq_true cm) (no (sE_part.trans (if_neg fun z => z.2 cm)) _ (But.same (Same.refl _)))
    refine ite_no (fun z => cm (of_decide_eq_true z)) ?_
    have hst : stP (.part k m seen) w = some (.player k :: (if 1 < m then [.part k (m - 1) (seen ++ [((numW w : Nat) : Int)])] else [])) := sE_part.trans (if_pos ⟨c, cm⟩)
    refine ⟨_, rfl, a, _, 2, _, rfl, rfl, hs, atI_nat (j := 2) rfl, _, _, rfl, rfl, _, rfl, ?_⟩
    refine if_rest (fun σ H' => σ = [some (.ref s), some (.ref a), some (.str w)] ∧ But s H H' ∧ SqT K H' a [V.str "part", V.int (k : Nat), V.int (m : Nat), V.ref t3] ∧ StkAt K H' s ((if 1 < m then [.part k (m - 1) (seen ++ [((numW w : Nat) : Int)])] else []) ++ r)) ?_ ?_ ?_
    · rintro σ H1 ⟨rfl, b1, hs1, vs1, hv1⟩
      have sz1 : vs1.length < sizeLine := by
        have := hv1.len
        refine Nat.lt_of_le_of_lt (show vs1.length ≤ 1000001 from ?_) (by decide)
        rw [this, List.length_append]
        split
        · show 1 + r.length ≤ _; omega
        · show 0 + r.length ≤ _; omega
      refine ⟨_, rfl, .inl ⟨rfl, _, SqL.of hv1.1⟩, _, rfl, a, _, 1, _, rfl, rfl, hs1, atI_nat (j := 1) rfl, big 2 (by decide), fun tp htp => ?_⟩
      have k2 := same_new htp (.tup [V.str "player", V.int (k : Nat)])
      obtain ⟨b3, s3⟩ := push (hv1.same k2) (t := .player k) (dp_tup htp (.cons (.str _) (.cons (.int _) .nil)))
      refine ⟨s, _, _, rfl, rfl, k2 _ _ hv1.1, sz1, ?_⟩
      exact yes _ hst _ (b1.trans ((But.same k2).trans b3)) ⟨_, s3⟩
    · intro z rest
      have z : (1 : Int) < (m : Int) := of_decide_eq_true z
      have z1 : 1 < m := by omega
      refine ⟨_, rfl, .inl ⟨rfl, _, SqL.of hv.1⟩, _, rfl, a, _, 1, _, rfl, rfl, hs, atI_nat (j := 1) rfl, _, rfl, a, _, 2, _, rfl, rfl, hs, atI_nat (j := 2) rfl, _, _, rfl, rfl, ?_⟩
      refine ⟨_, rfl, a, _, 3, _, rfl, rfl, hs, atI_nat (j := 3) rfl, _, rfl, w, _, rfl, num_text hd' hl1 hl2, by omega, big 1 (by decide), fun t1 ht1 => ?_⟩
      have k1 := same_new ht1 (.tup [V.int (numW w : Nat)])
      have nsz : seen.length ≤ 100000 := hseen k m seen rfl
      refine ⟨t3, t1, _, _, rfl, rfl, sqT_mono k1 hs3, SqT.of upd_same, by rw [List.length_map]; show seen.length + 1 ≤ sizeLine; exact Nat.le_trans (show seen.length + 1 ≤ 100001 by omega) (by decide), fun t2 H2 m2 hs2 => ?_⟩
      have d2 : Dp K H2 (.ref t2) (.tuple (intsD (seen ++ [((numW w : Nat) : Int)]))) := by
        refine .tup hs2 ?_
        unfold intsD
        rw [List.map_append]
        exact DpAll.app (dp_monoAll (k1.trans m2) _ _ ha3) (.cons (.int _) .nil)
      refine ⟨big 4 (by decide), fun tp htp => ?_⟩
      have em : (m : Int) - 1 = ((m - 1 : Nat) : Int) := by omega
      dsimp only
      rw [em]
      have k3 := same_new htp (.tup [V.str "part", V.int (k : Nat), V.int ((m - 1 : Nat) : Int), V.ref t2])
      have k13 := k1.trans (m2.trans k3)
      obtain ⟨b4, s4⟩ := push (hv.same k13) (t := .part k (m - 1) (seen ++ [((numW w : Nat) : Int)])) (dp_tup htp (.cons (.str _) (.cons (.int _) (.cons (.int _) (.cons d2 .nil)))))
      refine ⟨s, _, _, rfl, rfl, k13 _ _ hv.1, sz, rest _ _ ⟨rfl, (But.same k13).trans b4, sqT_tups (Tups.lst (k13 _ _ hv.1)) (sqT_mono k13 hs), vs ++ [.ref tp], ?_⟩⟩
      rw [if_pos z1]
      exact s4
    · intro z
      have z1 : ¬ 1 < m := fun y => z (decide_eq_true (show (1 : Int) < (m : Int) by omega))
      refine ⟨rfl, But.same (Same.refl _), hs, vs, ?_⟩
      rw [if_neg z1]
      exact hv
end
end Toy
set_option Elab.async false
set_option linter.all false
set_option maxRecDepth 100000
set_option maxHeartbeats 4000000
namespace Toy
open PySem L2 NdefX Gm Pz
open Mine hiding same_new
theorem pushAll {K : PySem.W.Frag} {H : Hp} {s : Addr} {vs us : List V} {r ts : List Pz.Tok} (h : StkV K H s vs r) (d : DpAll K H us (ts.map tokD)) :
    But s H (upd H s (.lst (vs ++ us))) ∧ StkV K (upd H s (.lst (vs ++ us))) s (vs ++ us) (ts.reverse ++ r) := by
  have tp := Tups.lst h.1 (o := .lst (vs ++ us))
  refine ⟨fun b o e n => by rw [upd_ne n]; exact e, upd_same, ?_⟩
  rw [List.reverse_append, List.reverse_reverse, List.map_append]
  exact DpAll.app (dp_tupsAll tp _ _ (toks_nol _) h.2) (dp_tupsAll tp _ _ (toks_nol _) d)
def okTac : Pz.Tok → Bool
  | .rules _ => true
  | .value _ => true
  | .deed => true
  | .called => true
  | _ => false
section
variable {P : Program} {w : World} {K : PySem.W.Frag} {mg : Str → Option Value} {base : Heap} {file : Str}
theorem ok_ttactic (T : Txt K mg file) : FnOk P w K mg base CX0 2 T.a_law_tactic T.fd_law_tactic ["stack", "top", "word"] (spTok K okTac) := by
  have G_law_is_number : FnOk P w K mg base CX0 1 T.a_law_is_number T.fd_law_is_number ["word", "least", "most"] spLNum := ok_lnum T
  have G_law_is_name : FnOk P w K mg base CX0 1 T.a_law_is_name T.fd_law_is_name ["word"] spLName := ok_lname T
  refine T.F_law_tactic.ok sc_law_tactic (fun vs H Q E h => ?_) (fun cdv A outer s' H vs Q E hr h => ?_)
  · obtain ⟨s, r, t, v, w, rfl, _⟩ := h
    rfl
  obtain ⟨s, r, t, v, w, rfl, ⟨vs, hv⟩, d, okt, hw, hrl, hseen, q⟩ := h
  refine ⟨_, (pss_cons (ps_if (pt_cmpR op_eq (pe_ix ix_tup (pv 1) pe_int (fun _ _ => rfl)) pe_str (nomark _))
      (pss_cons (ps_expr (pe_bm PySem.F.plainAttrs_list PySem.F.slot_list_extend PySem.F.type_list_extend mt_extend (pv 0) (pa_cons (pe_lst (pa_cons (pe_tup (pa_cons pe_str (pa_cons (pe_op op_add (pe_ix ix_tup (pv 1) pe_int (fun _ _ => rfl)) pe_int) pa_nil))) (pa_cons (pe_tup (pa_cons pe_str (pa_cons pe_int pa_nil))) (pa_cons (pe_tup (pa_cons pe_str pa_nil)) (pa_cons (pe_tup (pa_cons pe_str (pa_cons pe_int pa_nil))) pa_nil))))) pa_nil)))
    (pss_one (ps_ret (pe_and (pe_cmpR op_eq (pv 2) pe_str (nomark _)) (pe_one (pe_cmpR op_lt (pe_ix ix_tup (pv 1) pe_int (fun _ _ => rfl)) pe_int (nomark _)))))))
      pss_nil)
    (pss_cons (ps_if (pt_cmpR op_eq (pe_ix ix_tup (pv 1) pe_int (fun _ _ => rfl)) pe_str (nomark _))
      (pss_cons (ps_if (pt_cmpR op_eq (pv 2) pe_str (nomark _))
      (pss_one (ps_expr (pe_bm PySem.F.plainAttrs_list PySem.F.slot_list_extend PySem.F.type_list_extend mt_extend (pv 0) (pa_cons (pe_lst (pa_cons (pe_tup (pa_cons pe_str (pa_cons pe_int pa_nil))) (pa_cons (pe_tup (pa_cons pe_str pa_nil)) pa_nil))) pa_nil))))
      (pss_one (ps_expr (pe_bm PySem.F.plainAttrs_list PySem.F.slot_list_append PySem.F.type_list_append mt_append (pv 0) (pa_cons (pe_tup (pa_cons pe_str (pa_cons pe_int pa_nil))) pa_nil)))))
    (pss_one (ps_ret (pe_cmpR op_in_seq (pv 2) (pe_tup (pa_cons pe_str (pa_cons pe_str pa_nil))) rfl))))
      pss_nil)
    (pss_cons (ps_if (pt_cmpR op_eq (pe_ix ix_tup (pv 1) pe_int (fun _ _ => rfl)) pe_str (nomark _))
      (pss_one (ps_ret (pe_call G_law_is_name (hr.mono (by decide)) rfl T.g_law_is_name T.k_law_is_name T.b_law_is_name .nil pass0 (pa_cons (pv 2) pa_nil))))
      pss_nil)
    (pss_cons (ps_if (pt_cmpR op_in_seq (pv 2) (pe_tup (pa_cons pe_str (pa_cons pe_str (pa_cons pe_str (pa_cons pe_str (pa_cons pe_str (pa_cons pe_str (pa_cons pe_str pa_nil)))))))) rfl)
      (pss_cons (ps_expr (pe_bm PySem.F.plainAttrs_list PySem.F.slot_list_extend PySem.F.type_list_extend mt_extend (pv 0) (pa_cons (pe_op op_rep (pe_lst (pa_cons (pe_tup (pa_cons pe_str (pa_cons (pe_op op_sub (pe_ix ix_tup (pv 1) pe_int (fun _ _ => rfl)) pe_int) pa_nil))) pa_nil)) pe_int) pa_nil)))
    (pss_one (ps_ret (pe_cmpR op_gt (pe_ix ix_tup (pv 1) pe_int (fun _ _ => rfl)) pe_int (nomark _)))))
      pss_nil)
    (pss_one (ps_ret (pe_or (pe_cmpR op_in_seq (pv 2) (pe_tup (pa_cons pe_str (pa_cons pe_str (pa_cons pe_str pa_nil)))) rfl) (pe_one (pe_call G_law_is_number (hr.mono (by decide)) rfl T.g_law_is_number T.k_law_is_number T.b_law_is_number .nil pass0 (pa_cons (pv 2) (pa_cons pe_int (pa_cons pe_int pa_nil)))))))))))), ?_⟩
  have big : ∀ n : Nat, n ≤ 100000 → n ≤ sizeLine := fun n h => Nat.le_trans h (by decide)
  have lv := hv.len
  have sz : vs.length < sizeLine := Nat.lt_of_le_of_lt (show vs.length ≤ 1000000 by omega) (by decide)
  have hw6 : w.length ≤ 1000000 := by omega
  have no : stP t w = none → ∀ H', But s H H' → Q (.bl false) H' := fun e H' b => by
    have := q H' b (fun p z => by rw [e] at z; cases z)
    rw [e] at this
    exact this
  have yes : ∀ p, stP t w = some p → ∀ H', But s H H' → StkAt K H' s (p ++ r) → Q (.bl true) H' := fun p e H' b h => by
    have := q H' b (fun p' z => by rw [e] at z; cases z; exact h)
    rw [e] at this
    exact this
  cases t with
  | answer => cases okt
  | player n => cases okt
  | name n => cases okt
  | given n => cases okt
  | count n => cases okt
  | size n => cases okt
  | part _ _ _ => cases okt
  | rules n =>
    cases d with
    | @tup a xs ds hs ha =>
    cases ha with
    | cons h1 h2 =>
    cases h1
    cases h2 with
    | cons h3 h4 =>
    cases h3
    cases h4
    refine ⟨_, rfl, a, _, 0, _, rfl, rfl, hs, atI_nat (j := 0) rfl, rfl, _, rfl, iteT ?_⟩
    refine ⟨_, rfl, .inl ⟨rfl, _, SqL.of hv.1⟩, _, rfl, a, _, 1, _, rfl, rfl, hs, atI_nat (j := 1) rfl, _, _, rfl, rfl, big 2 (by decide), fun t1 ht1 => ⟨big 2 (by decide), fun t2 ht2 => ⟨big 1 (by decide), fun t3 ht3 => ⟨big 2 (by decide), fun t4 ht4 => ⟨big 4 (by decide), fun L1 hL1 => ?_⟩⟩⟩⟩⟩
    have k1 := same_new ht1 (.tup [V.str "rules", V.int ((n : Int) + 1)])
    have k2 := same_new ht2 (.tup [V.str "value", V.int 8])
    have k3 := same_new ht3 (.tup [V.str "deed"])
    have k4 := same_new ht4 (.tup [V.str "value", V.int 8])
    have k5 := same_new hL1 (.lst [V.ref t1, V.ref t2, V.ref t3, V.ref t4])
    have x1 : Dp K _ (.ref t1) (tokD (.rules (n + 1))) := dp_tup ht1 (.cons (.str _) (.cons (.int _) .nil))
    have x2 : Dp K _ (.ref t2) (tokD (.value 8)) := dp_tup ht2 (.cons (.str _) (.cons (.int _) .nil))
    have x3 : Dp K _ (.ref t3) (tokD .deed) := dp_tup ht3 (.cons (.str _) .nil)
    have x4 : Dp K _ (.ref t4) (tokD (.value 8)) := dp_tup ht4 (.cons (.str _) (.cons (.int _) .nil))
    have kk := k1.trans (k2.trans (k3.trans (k4.trans k5)))
    obtain ⟨b6, s6⟩ := pushAll (ts := [.rules (n + 1), .value 8, .deed, .value 8]) (hv.same kk) (.cons (dp_mono (k2.trans (k3.trans (k4.trans k5))) _ _ x1) (.cons (dp_mono (k3.trans (k4.trans k5)) _ _ x2) (.cons (dp_mono (k4.trans k5) _ _ x3) (.cons (dp_mono k5 _ _ x4) .nil))))
    have hs6 := sqT_tups (Tups.lst (o := .lst (vs ++ [V.ref t1, V.ref t2, V.ref t3, V.ref t4])) (hv.same kk).1) (sqT_mono kk hs)
    have b7 : But s H _ := (But.same kk).trans b6
    refine ⟨s, L1, _, _, rfl, rfl, (hv.same kk).1, upd_same, Nat.le_trans (show vs.length + 4 ≤ 1000004 by omega) (by decide), ?_⟩
    refine ⟨_, rfl, rfl, _, rfl, ?_⟩
    by_cases c1 : w = "when"
    · refine ite_yes (decide_eq_true (congrArg V.str c1)) ?_
      refine ⟨_, rfl, a, _, 1, _, rfl, rfl, hs6, atI_nat (j := 1) rfl, _, _, rfl, rfl, ?_⟩
      dsimp only
      by_cases c2 : n < 20
      · rw [decide_eq_true (show (n : Int) < 20 by omega)]
        exact yes [.value 8, .deed, .value 8, .rules (n + 1)] (sE_rules.trans (if_pos ⟨c1, c2⟩)) _ b7 ⟨_, s6⟩
      · rw [decide_eq_false (show ¬ (n : Int) < 20 by omega)]
        exact no (sE_rules.trans (if_neg fun z => c2 z.2)) _ b7
    · refine ite_no (fun z => c1 (V.str.inj (of_decide_eq_true z))) ?_
      exact no (sE_rules.trans (if_neg fun z => c1 z.1)) _ b7
  | deed =>
    cases d with
    | @tup a xs ds hs ha =>
    cases ha with
    | cons h1 h2 =>
    cases h1
    cases h2
    refine ⟨_, rfl, a, _, 0, _, rfl, rfl, hs, atI_nat (j := 0) rfl, rfl, _, rfl, iteF ?_⟩
    refine ⟨_, rfl, a, _, 0, _, rfl, rfl, hs, atI_nat (j := 0) rfl, rfl, _, rfl, iteT ?_⟩
    refine ⟨_, rfl, rfl, _, rfl, ?_⟩
    by_cases c1 : w = "ask"
    · refine ite_yes (decide_eq_true (congrArg V.str c1)) ?_
      refine ⟨_, rfl, .inl ⟨rfl, _, SqL.of hv.1⟩, big 2 (by decide), fun t1 ht1 => ⟨big 1 (by decide), fun t2 ht2 => ⟨big 2 (by decide), fun L1 hL1 => ?_⟩⟩⟩
      have k1 := same_new ht1 (.tup [V.str "value", V.int 8])
      have k2 := same_new ht2 (.tup [V.str "called"])
      have k3 := same_new hL1 (.lst [V.ref t1, V.ref t2])
      have x1 : Dp K _ (.ref t1) (tokD (.value 8)) := dp_tup ht1 (.cons (.str _) (.cons (.int _) .nil))
      have x2 : Dp K _ (.ref t2) (tokD .called) := dp_tup ht2 (.cons (.str _) .nil)
      have kk := k1.trans (k2.trans k3)
      obtain ⟨b6, s6⟩ := pushAll (ts := [.value 8, .called]) (hv.same kk) (.cons (dp_mono (k2.trans k3) _ _ x1) (.cons (dp_mono k3 _ _ x2) .nil))
      have b7 : But s H _ := (But.same kk).trans b6
      refine ⟨s, L1, _, _, rfl, rfl, (hv.same kk).1, upd_same, Nat.le_trans (show vs.length + 2 ≤ 1000004 by omega) (by decide), ?_⟩
      refine ⟨_, rfl, big 2 (by decide), fun tq htq => ⟨tq, (["ask", "say"] : List Str).map V.str, rfl, .inr (SqT.of upd_same), rfl, flat_strs _, ?_⟩⟩
      have k8 := same_new htq (.tup [V.str "ask", V.str "say"])
      rw [inV_strs, decide_eq_true (show w ∈ (["ask", "say"] : List Str) by rw [c1]; exact List.mem_cons_self ..)]
      exact yes [.called, .value 8] (sE_deed.trans (if_pos c1)) _ (b7.trans (But.same k8)) ⟨_, s6.same k8⟩
    · refine ite_no (fun z => c1 (V.str.inj (of_decide_eq_true z))) ?_
      refine ⟨_, rfl, .inl ⟨rfl, _, SqL.of hv.1⟩, big 2 (by decide), fun t1 ht1 => ?_⟩
      have k1 := same_new ht1 (.tup [V.str "value", V.int 8])
      obtain ⟨b6, s6⟩ := push (hv.same k1) (t := .value 8) (dp_tup ht1 (.cons (.str _) (.cons (.int _) .nil)))
      have b7 : But s H _ := (But.same k1).trans b6
      refine ⟨s, _, _, rfl, rfl, (hv.same k1).1, sz, ?_⟩
      refine ⟨_, rfl, big 2 (by decide), fun tq htq => ⟨tq, (["ask", "say"] : List Str).map V.str, rfl, .inr (SqT.of upd_same), rfl, flat_strs _, ?_⟩⟩
      have k8 := same_new htq (.tup [V.str "ask", V.str "say"])
      rw [inV_strs]
      by_cases c2 : w = "say"
      · rw [decide_eq_true (show w ∈ (["ask", "say"] : List Str) by rw [c2]; exact List.mem_cons_of_mem _ (List.mem_cons_self ..))]
        exact yes [.value 8] (sE_deed.trans ((if_neg c1).trans (if_pos c2))) _ (b7.trans (But.same k8)) ⟨_, s6.same k8⟩
      · rw [decide_eq_false (fun z => by
          rcases List.mem_cons.mp z with z | z
          · exact c1 z
          · exact c2 (List.mem_singleton.mp z))]
        exact no (sE_deed.trans ((if_neg c1).trans (if_neg c2))) _ (b7.trans (But.same k8))
  | called =>
    cases d with
    | @tup a xs ds hs ha =>
    cases ha with
    | cons h1 h2 =>
    cases h1
    cases h2
    refine ⟨_, rfl, a, _, 0, _, rfl, rfl, hs, atI_nat (j := 0) rfl, rfl, _, rfl, iteF ?_⟩
    refine ⟨_, rfl, a, _, 0, _, rfl, rfl, hs, atI_nat (j := 0) rfl, rfl, _, rfl, iteF ?_⟩
    refine ⟨_, rfl, a, _, 0, _, rfl, rfl, hs, atI_nat (j := 0) rfl, rfl, _, rfl, iteT ?_⟩
    refine ⟨_, rfl, w, rfl, hw6, fun H' m => ?_⟩
    cases c : isName w with
    | true => exact yes [] (sE_called.trans (if_pos c)) H' (But.same m) ⟨_, hv.same m⟩
    | false => exact no (sE_called.trans (if_neg (by rw [c]; decide))) H' (But.same m)
  | value k =>
    cases d with
    | @tup a xs ds hs ha =>
    cases ha with
    | cons h1 h2 =>
    cases h1
    cases h2 with
    | cons h3 h4 =>
    cases h3
    cases h4
    refine ⟨_, rfl, a, _, 0, _, rfl, rfl, hs, atI_nat (j := 0) rfl, rfl, _, rfl, iteF ?_⟩
    refine ⟨_, rfl, a, _, 0, _, rfl, rfl, hs, atI_nat (j := 0) rfl, rfl, _, rfl, iteF ?_⟩
    refine ⟨_, rfl, a, _, 0, _, rfl, rfl, hs, atI_nat (j := 0) rfl, rfl, _, rfl, iteF ?_⟩
    refine ⟨_, rfl, big 7 (by decide), fun t1 ht1 => ⟨t1, ops.map V.str, rfl, .inr (SqT.of upd_same), rfl, flat_strs _, ?_⟩⟩
    have k1 := same_new ht1 (.tup (ops.map V.str))
    have hs1 := sqT_mono k1 hs
    have hv1 := hv.same k1
    refine ⟨_, rfl, ?_⟩
    rw [inV_strs]
    by_cases c1 : w ∈ ops
    · refine ite_yes (decide_eq_true c1) ?_
      refine ⟨_, rfl, .inl ⟨rfl, _, SqL.of hv1.1⟩, _, rfl, a, _, 1, _, rfl, rfl, hs1, atI_nat (j := 1) rfl, _, _, rfl, rfl, big 2 (by decide), fun t2 ht2 => ⟨big 1 (by decide), fun L1 hL1 => ?_⟩⟩
      have k2 := same_new ht2 (.tup [V.str "value", V.int ((k : Int) - 1)])
      have k3 := same_new hL1 (.lst [V.ref t2])
      refine ⟨L1, _, _, rfl, rfl, upd_same, by decide, by decide, big 2 (by decide), fun L2 hL2 => ?_⟩
      have k4 := same_new hL2 (.lst [V.ref t2, V.ref t2])
      have kk := k2.trans (k3.trans k4)
      have hvk := hv1.same kk
      refine ⟨s, L2, _, _, rfl, rfl, hvk.1, upd_same, Nat.le_trans (show vs.length + 2 ≤ 1000004 by omega) (by decide), ?_⟩
      have hs6 := sqT_tups (Tups.lst (o := .lst (vs ++ [V.ref t2, V.ref t2])) hvk.1) (sqT_mono kk hs1)
      refine ⟨_, rfl, a, _, 1, _, rfl, rfl, hs6, atI_nat (j := 1) rfl, _, _, rfl, rfl, ?_⟩
      dsimp only
      have b6 : But s H (upd _ s (.lst (vs ++ [V.ref t2, V.ref t2]))) := (But.same (k1.trans kk)).trans fun b o e n => by rw [upd_ne n]; exact e
      by_cases c2 : 1 < k
      · rw [decide_eq_true (show (1 : Int) < (k : Int) by omega)]
        have em : (k : Int) - 1 = ((k - 1 : Nat) : Int) := by omega
        have x2 : Dp K (upd (upd H t1 (.tup (ops.map V.str))) t2 (.tup [V.str "value", V.int ((k : Int) - 1)])) (.ref t2) (tokD (.value (k - 1))) := by
          show Dp K _ (.ref t2) (.tuple [.str "value", .int ((k - 1 : Nat) : Int)])
          rw [← em]
          exact dp_tup ht2 (.cons (.str _) (.cons (.int _) .nil))
        obtain ⟨b7, s7⟩ := pushAll (ts := [.value (k - 1), .value (k - 1)]) hvk (.cons (dp_mono (k3.trans k4) _ _ x2) (.cons (dp_mono (k3.trans k4) _ _ x2) .nil))
        exact yes [.value (k - 1), .value (k - 1)] (sE_value.trans ((if_pos c1).trans (if_pos c2))) _ b6 ⟨_, s7⟩
      · rw [decide_eq_false (show ¬ (1 : Int) < (k : Int) by omega)]
        exact no (sE_value.trans ((if_pos c1).trans (if_neg c2))) _ b6
    · refine ite_no (fun z => c1 (of_decide_eq_true z)) ?_
      refine ⟨_, rfl, big 3 (by decide), fun t2 ht2 => ⟨t2, knw.map V.str, rfl, .inr (SqT.of upd_same), rfl, flat_strs _, ?_⟩⟩
      have k2 := same_new ht2 (.tup (knw.map V.str))
      refine ⟨_, rfl, ?_⟩
      rw [inV_strs]
      by_cases c2 : w ∈ knw
      · refine ite_yes (decide_eq_true c2) ?_
        exact yes [] (sE_value.trans ((if_neg c1).trans (if_pos (.inl c2)))) _ (But.same (k1.trans k2)) ⟨_, hv1.same k2⟩
      · refine ite_no (fun z => c2 (of_decide_eq_true z)) ?_
        refine ⟨_, rfl, w, 0, 65535, rfl, hw6, by decide, ?_⟩
        cases c : numOk w 0 65535 with
        | true => exact yes [] (sE_value.trans ((if_neg c1).trans (if_pos (.inr c)))) _ (But.same (k1.trans k2)) ⟨_, hv1.same k2⟩
        | false => exact no (sE_value.trans ((if_neg c1).trans (if_neg fun z => z.elim c2 fun y => by rw [c] at y; cases y))) _ (But.same (k1.trans k2))
end
end Toy
set_option Elab.async false
set_option linter.all false
set_option maxRecDepth 100000
set_option maxHeartbeats 4000000
namespace Toy
open PySem L2 NdefX Gm Pz
open Mine hiding same_new
def okW (way : Bool) (t : Pz.Tok) : Bool := if way = true then okTac t else okPl t
def seenN : Pz.Tok → Nat
  | .part _ _ seen => seen.length
  | _ => 0
def Good (way : Bool) (n : Nat) (t : Pz.Tok) : Prop := okW way t = true ∧ seenN t ≤ n
theorem Good.up {way : Bool} {n : Nat} {t : Pz.Tok} (h : Good way n t) : Good way (n + 1) t := ⟨h.1, Nat.le_succ_of_le h.2⟩
theorem good_pl {n : Nat} {t : Pz.Tok} (h : okPl t = true) (s : seenN t ≤ n) : Good false n t := ⟨h, s⟩
theorem good_tac {n : Nat} {t : Pz.Tok} (h : okTac t = true) (s : seenN t ≤ n) : Good true n t := ⟨h, s⟩
theorem stP_good {way : Bool} {n : Nat} {t : Pz.Tok} {w : Str} {p : List Pz.Tok} (g : Good way n t) (h : stP t w = some p) : p.length ≤ 17 ∧ ∀ x ∈ p, Good way (n + 1) x := by
  cases way with
  | false =>
    have okp : okPl t = true := g.1
    cases t with
    | rules n => cases okp
    | value n => cases okp
    | deed => cases okp
    | called => cases okp
    | answer =>
      rw [sE_answer] at h
      split at h
      · cases h; exact ⟨Nat.zero_le _, fun x hx => by cases hx⟩
      · cases h
    | player k =>
      cases k with
      | zero =>
        rw [sE_p0] at h
        split at h
        · cases h; exact ⟨by simp, fun x hx => by rw [List.mem_singleton.mp hx]; exact good_pl rfl (Nat.zero_le _)⟩
        · cases h
      | succ k =>
        rw [sE_pS] at h
        split at h
        · cases h; exact ⟨by simp, fun x hx => by rw [List.mem_singleton.mp hx]; exact good_pl rfl (Nat.zero_le _)⟩
        split at h
        · cases h; exact ⟨by simp, fun x hx => by rw [List.mem_singleton.mp hx]; exact good_pl rfl (Nat.zero_le _)⟩
        split at h
        · cases h; exact ⟨by simp, fun x hx => by rw [List.mem_singleton.mp hx]; exact good_pl rfl (Nat.zero_le _)⟩
        · cases h
    | name k =>
      rw [sE_name] at h
      split at h
      · cases h; exact ⟨by simp, fun x hx => by rw [List.mem_singleton.mp hx]; exact good_pl rfl (Nat.zero_le _)⟩
      · cases h
    | given k =>
      rw [sE_given] at h
      split at h
      · cases h; exact ⟨by simp, fun x hx => by rw [List.mem_singleton.mp hx]; exact good_pl rfl (Nat.zero_le _)⟩
      · cases h
    | count k =>
      rw [sE_count] at h
      split at h
      · rename_i c
        obtain ⟨_, _, n3⟩ := numOk_ok c
        cases h
        exact ⟨by rw [List.length_replicate]; omega, fun x hx => by rw [(List.mem_replicate.mp hx).2]; exact good_pl rfl (Nat.zero_le _)⟩
      · cases h
    | size k =>
      rw [sE_size] at h
      split at h
      · cases h
        cases numW w with
        | zero => exact ⟨Nat.zero_le _, fun x hx => by cases hx⟩
        | succ m => exact ⟨by simp, fun x hx => by rw [List.mem_singleton.mp hx]; exact good_pl rfl (Nat.zero_le _)⟩
      · cases h
    | part k m seen =>
      have gs : seen.length ≤ n := g.2
      rw [sE_part] at h
      split at h
      · cases h
        refine ⟨by split <;> simp, fun x hx => ?_⟩
        rcases List.mem_cons.mp hx with rfl | hx
        · exact good_pl rfl (Nat.zero_le _)
        · split at hx
          · rw [List.mem_singleton.mp hx]
            refine good_pl rfl ?_
            show (seen ++ _).length ≤ n + 1
            rw [List.length_append]
            show seen.length + 1 ≤ n + 1
            omega
          · cases hx
      · cases h
  | true =>
    have okt : okTac t = true := g.1
    cases t with
    | answer => cases okt
    | player n => cases okt
    | name n => cases okt
    | given n => cases okt
    | count n => cases okt
    | size n => cases okt
    | part _ _ _ => cases okt
    | rules m =>
      rw [sE_rules] at h
      split at h
      · cases h
        refine ⟨by simp, fun x hx => ?_⟩
        rcases List.mem_cons.mp hx with rfl | hx
        · exact good_tac rfl (Nat.zero_le _)
        rcases List.mem_cons.mp hx with rfl | hx
        · exact good_tac rfl (Nat.zero_le _)
        rcases List.mem_cons.mp hx with rfl | hx
        · exact good_tac rfl (Nat.zero_le _)
        · rw [List.mem_singleton.mp hx]; exact good_tac rfl (Nat.zero_le _)
      · cases h
    | deed =>
      rw [sE_deed] at h
      split at h
      · cases h
        refine ⟨by simp, fun x hx => ?_⟩
        rcases List.mem_cons.mp hx with rfl | hx
        · exact good_tac rfl (Nat.zero_le _)
        · rw [List.mem_singleton.mp hx]; exact good_tac rfl (Nat.zero_le _)
      split at h
      · cases h; exact ⟨by simp, fun x hx => by rw [List.mem_singleton.mp hx]; exact good_tac rfl (Nat.zero_le _)⟩
      · cases h
    | called =>
      rw [sE_called] at h
      split at h
      · cases h; exact ⟨Nat.zero_le _, fun x hx => by cases hx⟩
      · cases h
    | value k =>
      rw [sE_value] at h
      split at h
      · split at h
        · cases h
          refine ⟨by simp, fun x hx => ?_⟩
          rcases List.mem_cons.mp hx with rfl | hx
          · exact good_tac rfl (Nat.zero_le _)
          · rw [List.mem_singleton.mp hx]; exact good_tac rfl (Nat.zero_le _)
        · cases h
      split at h
      · cases h; exact ⟨Nat.zero_le _, fun x hx => by cases hx⟩
      · cases h
theorem dpa_snoc {K : PySem.W.Frag} {H : Hp} : ∀ {ds : List PyData} {d : PyData} {vs : List V}, DpAll K H vs (ds ++ [d]) → ∃ us v, vs = us ++ [v] ∧ DpAll K H us ds ∧ Dp K H v d
  | [], d, v :: vs, .cons h t => by
    cases t
    exact ⟨[], v, rfl, .nil, h⟩
  | e :: ds, d, v :: vs, .cons h t => by
    obtain ⟨us, x, e1, e2, e3⟩ := dpa_snoc t
    exact ⟨v :: us, x, by rw [e1]; rfl, .cons h e2, e3⟩
theorem tok_name (t : Pz.Tok) : ∃ (nm : Str) (ds : List PyData), tokD t = .tuple (.str nm :: ds) ∧ (fin [t] = decide (nm = "rules")) := by
  cases t <;> refine ⟨_, _, rfl, ?_⟩ <;> first | (show false = _; decide +kernel) | (show true = _; decide +kernel)
def spS (p t : Addr) (K : PySem.W.Frag) : Addr → Sp → Prop := fun f sp => (f = p ∧ sp = spTok K okPl) ∨ (f = t ∧ sp = spTok K okTac)
def goV : Option Nat → V
  | none => .non
  | some i => .int (i : Nat)
def startT (way : Bool) : Pz.Tok := if way = true then .rules 0 else .player 8
def spWrong (K : PySem.W.Frag) : Sp := fun vs H Q _ => ∃ (way : Bool) (L : Addr) (ws : List Str), vs = [.int (if way = true then 1 else 0), .ref L] ∧ SqL K H L (ws.map V.str) ∧ ws.length ≤ 10000 ∧ (∀ w ∈ ws, w.length ≤ 1000) ∧ ∀ H', Same H H' → Q (goV (goM [startT way] 0 ws)) H'
section
variable {P : Program} {w : World} {K : PySem.W.Frag} {mg : Str → Option Value} {base : Heap} {file : Str}
theorem ok_wrong (T : Txt K mg file) : FnOk P w K mg base CX0 3 T.a_law_wrong T.fd_law_wrong ["way", "words"] (spWrong K) := by
  have hS : ∀ f sp, spS T.a_law_player T.a_law_tactic K f sp → ∃ fd ps, FnOk P w K mg base CX0 2 f fd ps sp ∧ PySem.W.keepIn K (.ref f) = true ∧ L2.Binds K fd ps [] := by
    rintro f sp (⟨rfl, rfl⟩ | ⟨rfl, rfl⟩)
    · exact ⟨_, _, ok_tplayer T, T.k_law_player, T.b_law_player⟩
    · exact ⟨_, _, ok_ttactic T, T.k_law_tactic, T.b_law_tactic⟩
  refine T.F_law_wrong.ok sc_law_wrong (fun vs H Q E h => ?_) (fun cdv A outer s' H vs Q E hr h => ?_)
  · obtain ⟨way, L, ws, rfl, _⟩ := h
    rfl
  obtain ⟨way, L, ws, rfl, hL, hn, hw, q⟩ := h
  refine ⟨_, (pss_cons (ps_set (i := 2) sc_law_wrong.nd rfl (Or.inl rfl) (pe_lst (pa_cons (pe_ix ix_tup (pe_tup (pa_cons (pe_tup (pa_cons pe_str (pa_cons pe_int pa_nil))) (pa_cons (pe_tup (pa_cons pe_str (pa_cons pe_int pa_nil))) pa_nil))) (pv 0) (fun _ _ => rfl)) pa_nil)))
    (pss_cons (ps_for PassesOwn.never rfl (pi_range1 (by rfl) T.z_range (pa_cons (pe_callB call_len_seq (by rfl) T.z_len (by decide +kernel) (pa_cons (pv 1) pa_nil)) pa_nil)) (pg_name (i := 3) sc_law_wrong.nd rfl (Or.inl rfl))
      (pss_cons (ps_if (pt_cmpR op_eq (pe_callB call_len_seq (by rfl) T.z_len (by decide +kernel) (pa_cons (pv 2) pa_nil)) pe_int (nomark _))
      (pss_one (ps_ret (pv 3)))
      pss_nil)
    (pss_cons (ps_set (i := 4) sc_law_wrong.nd rfl (Or.inl rfl) (pe_bm0 PySem.F.plainAttrs_list PySem.F.slot_list_pop PySem.F.type_list_pop mt_pop (pv 2)))
    (pss_one (ps_if (pt_not (pt_val (CaF.pe_callF (S := spS T.a_law_player T.a_law_tactic K) hS (hr.mono (by decide)) (pe_ix ix_tup (pe_tup (pa_cons (pe_glob (v := .ref T.a_law_player) rfl T.g_law_player rfl) (pa_cons (pe_glob (v := .ref T.a_law_tactic) rfl T.g_law_tactic rfl) pa_nil))) (pv 0) (fun _ _ => rfl)) (pa_cons (pv 2) (pa_cons (pv 4) (pa_cons (pe_ix ix_list (pv 1) (pv 3) (fun _ _ => rfl)) pa_nil))))))
      (pss_one (ps_ret (pv 3)))
      pss_nil)))))
    (pss_cons (ps_if (PW.pt (pw_or (pt_cmpR op_eq (pe_callB call_len_seq (by rfl) T.z_len (by decide +kernel) (pa_cons (pv 2) pa_nil)) pe_int (nomark _)) (pw_or1 (PW.pt (pw_and (pt_cmpR op_eq (pe_callB call_len_seq (by rfl) T.z_len (by decide +kernel) (pa_cons (pv 2) pa_nil)) pe_int (nomark _)) (pw_and1 (pt_cmpR op_eq (pe_ix ix_tup (pe_ix ix_list (pv 2) pe_int (fun _ _ => rfl)) pe_int (fun _ _ => rfl)) pe_str (nomark _))))))))
      (pss_one (ps_ret pe_non))
      pss_nil)
    (pss_one (ps_ret (pe_callB call_len_seq (by rfl) T.z_len (by decide +kernel) (pa_cons (pv 1) pa_nil))))))), ?_⟩
  have big : ∀ n : Nat, n ≤ 100000 → n ≤ sizeLine := fun n h => Nat.le_trans h (by decide)
  refine ⟨big 2 (by decide), fun t1 ht1 => ⟨big 2 (by decide), fun t2 ht2 => ⟨big 2 (by decide), fun t3 ht3 => ?_⟩⟩⟩
  have k1 := same_new ht1 (.tup [V.str "player", V.int 8])
  have k2 := same_new ht2 (.tup [V.str "rules", V.int 0])
  have k3 := same_new ht3 (.tup [V.ref t1, V.ref t2])
  have x1 : Dp K _ (.ref t1) (tokD (.player 8)) := dp_mono (k2.trans k3) _ _ (dp_tup ht1 (.cons (.str _) (.cons (.int _) .nil)))
  have x2 : Dp K _ (.ref t2) (tokD (.rules 0)) := dp_mono k3 _ _ (dp_tup ht2 (.cons (.str _) (.cons (.int _) .nil)))
  obtain ⟨e, ee, de⟩ : ∃ e : Addr, atI [V.ref t1, V.ref t2] (if way = true then 1 else 0) = some (.ref e) ∧ Dp K (upd (upd (upd H t1 (.tup [V.str "player", V.int 8])) t2 (.tup [V.str "rules", V.int 0])) t3 (.tup [V.ref t1, V.ref t2])) (.ref e) (tokD (startT way)) := by
    cases way
    · exact ⟨t1, rfl, x1⟩
    · exact ⟨t2, rfl, x2⟩
  refine ⟨_, rfl, t3, _, _, _, rfl, rfl, SqT.of upd_same, ee, big 1 (by decide), fun s hs => ?_⟩
  have k4 := same_new hs (.lst [V.ref e])
  have m1 := k1.trans (k2.trans (k3.trans k4))
  have hs0 : H s = none := none_of_same (k1.trans (k2.trans k3)) hs
  have v1 : StkV K (upd (upd (upd (upd H t1 (.tup [V.str "player", V.int 8])) t2 (.tup [V.str "rules", V.int 0])) t3 (.tup [V.ref t1, V.ref t2])) s (.lst [V.ref e])) s [V.ref e] [startT way] := ⟨upd_same, .cons (dp_mono k4 _ _ de) .nil⟩
  revert m1 v1
  clear k1 k2 k3 k4 x1 x2 de ee hs
  generalize upd (upd (upd (upd H t1 (.tup [V.str "player", V.int 8])) t2 (.tup [V.str "rules", V.int 0])) t3 (.tup [V.ref t1, V.ref t2])) s (.lst [V.ref e]) = H1
  intro m1 v1
  generalize hG : goM [startT way] 0 ws = G at q
  have sm : ∀ {H2 H3 : Hp}, Same H H2 → But s H2 H3 → Same H H3 := fun a b c o e => b _ _ (a _ _ e) (ne_of_none e hs0)
  refine ⟨_, rfl, L, _, rfl, .inl (m1.seq hL), _, rfl, by omega, by rw [List.length_map]; omega, ?_⟩
  rw [show (((ws.map V.str).length : Nat) : Int).toNat = ws.length by rw [List.length_map]; omega]
  refine for_range (lo := 0) (n := ws.length) (fun t σ H' => ∃ (r : List Pz.Tok) (y3 y4 : Option V), σ = [some (.int (if way = true then 1 else 0)), some (.ref L), some (.ref s), y3, y4] ∧ Same H H' ∧ StkAt K H' s r ∧ goM r t (ws.drop t) = G ∧ r.length ≤ 17 * t + 1 ∧ ∀ x ∈ r, Good way t x) ⟨[startT way], none, none, rfl, m1, ⟨_, v1⟩, hG, by simp, fun x hx => by rw [List.mem_singleton.mp hx]; cases way <;> exact ⟨rfl, Nat.le_refl _⟩⟩ ?_ ?_
  · rintro t σ H2 ht ⟨r, y3, y4, rfl, m2, ⟨vs, hv⟩, eG, lr, gr⟩
    have lv := hv.len
    have et : ws.drop t = ws[t] :: ws.drop (t + 1) := List.drop_eq_getElem_cons ht
    refine ⟨_, rfl, s, _, rfl, .inl (SqL.of hv.1), rfl, _, rfl, ?_⟩
    cases r with
    | nil =>
      have l0 : vs.length = 0 := lv
      refine ite_yes (decide_eq_true (by rw [l0]; rfl)) ?_
      rw [et] at eG
      have q' := q H2 m2
      rw [← eG] at q'
      refine ⟨_, rfl, ?_⟩
      rw [show (0 : Int) + (t : Int) = (t : Nat) by omega]
      exact q'
    | cons t0 r =>
    have l1 : vs.length = r.length + 1 := lv
    refine ite_no (fun z => by have := V.int.inj (of_decide_eq_true z); omega) ?_
    have dv := hv.2
    rw [List.reverse_cons, List.map_append] at dv
    obtain ⟨us, v, rfl, du, dt⟩ := dpa_snoc dv
    refine ⟨_, rfl, .inl ⟨rfl, _, SqL.of hv.1⟩, s, _, v, rfl, rfl, hv.1, by simp, ?_⟩
    rw [List.dropLast_concat]
    have tp := Tups.lst hv.1 (o := .lst us)
    have hv3 : StkV K (upd H2 s (.lst us)) s us r := ⟨upd_same, dp_tupsAll tp _ _ (toks_nol _) du⟩
    have dt3 := dp_tups tp _ _ (tok_nol t0) dt
    have m3 : Same H (upd H2 s (.lst us)) := sm m2 fun b o e n => by rw [upd_ne n]; exact e
    revert hv3 dt3 m3
    generalize upd H2 s (.lst us) = H3
    intro hv3 dt3 m3
    refine ⟨big 2 (by decide), fun tp htp => ?_⟩
    have k4 := same_new htp (.tup [V.ref T.a_law_player, V.ref T.a_law_tactic])
    have g0 := gr t0 (List.mem_cons_self ..)
    have ew : atI (ws.map V.str) (0 + (t : Int)) = some (.str ws[t]) := at_of (j := t) (by omega) (by rw [List.getElem?_map, List.getElem?_eq_getElem ht]; rfl)
    obtain ⟨f, ok, ef, hok, hf⟩ : ∃ (f : Addr) (ok : Pz.Tok → Bool), atI [V.ref T.a_law_player, V.ref T.a_law_tactic] (if way = true then 1 else 0) = some (.ref f) ∧ ok t0 = true ∧ spS T.a_law_player T.a_law_tactic K f (spTok K ok) := by
      have g1 := g0.1
      cases way
      · exact ⟨_, okPl, rfl, g1, .inl ⟨rfl, rfl⟩⟩
      · exact ⟨_, okTac, rfl, g1, .inr ⟨rfl, rfl⟩⟩
    refine ⟨_, rfl, tp, _, _, _, rfl, rfl, SqT.of upd_same, ef, f, _, rfl, hf, _, rfl, _, rfl, _, rfl, _, rfl, L, _, _, _, rfl, rfl, (m3.trans k4).seq hL, ew, ?_⟩
    refine ⟨s, r, t0, v, ws[t], rfl, ⟨us, hv3.same k4⟩, dp_mono k4 _ _ dt3, hok, hw _ (List.getElem_mem _), by have : (t0 :: r).length ≤ _ := lr; simp only [List.length_cons] at this; omega, fun k m seen e => ?_, fun H5 b5 hp => ?_⟩
    · have := g0.2
      rw [e] at this
      have : seen.length ≤ t := this
      omega
    have m5 : Same H H5 := sm (m3.trans k4) b5
    have eg2 : goM (t0 :: r) t (ws.drop t) = match stP t0 ws[t] with | none => some t | some p => goM (p ++ r) (t + 1) (ws.drop (t + 1)) := by rw [et]; rfl
    rw [eG] at eg2
    cases e : stP t0 ws[t] with
    | none =>
      rw [e] at eg2
      refine ⟨false, rfl, iteT ?_⟩
      have q' := q H5 m5
      rw [eg2] at q'
      refine ⟨_, rfl, ?_⟩
      rw [show (0 : Int) + (t : Int) = (t : Nat) by omega]
      exact q'
    | some p =>
      rw [e] at eg2
      refine ⟨true, rfl, iteF ?_⟩
      obtain ⟨pl, pg⟩ := stP_good g0 e
      refine ⟨p ++ r, _, _, rfl, m5, hp p e, eg2.symm, ?_, fun x hx => ?_⟩
      · have : (t0 :: r).length ≤ _ := lr
        simp only [List.length_cons, List.length_append] at this ⊢
        omega
      · rcases List.mem_append.mp hx with hx | hx
        · exact pg x hx
        · exact (gr x (List.mem_cons_of_mem _ hx)).up
  · rintro σ H2 ⟨r, y3, y4, rfl, m2, ⟨vs, hv⟩, eG, lr, gr⟩
    have lv := hv.len
    rw [List.drop_length] at eG
    have eg : goM r ws.length [] = if fin r = true then none else some ws.length := by unfold goM; rfl
    rw [eg] at eG
    have q' := q H2 m2
    rw [← eG] at q'
    have ln : ((((ws.map V.str).length : Nat) : Int)) = (ws.length : Int) := by rw [List.length_map]
    have fin2 : fin r = false → Q (.int (((ws.map V.str).length : Nat) : Int)) H2 := fun z => by
      rw [z] at q'
      rw [ln]
      exact q'
    have fin1 : fin r = true → Q .non H2 := fun z => by
      rw [z] at q'
      exact q'
    refine ⟨_, rfl, s, _, rfl, .inl (SqL.of hv.1), rfl, _, rfl, ?_⟩
    match r, vs, hv, lv, fin1, fin2 with
    | [], vs, hv, lv, fin1, fin2 =>
      have l0 : vs.length = 0 := lv
      exact ite_yes (decide_eq_true (by rw [l0]; rfl)) (fin1 rfl)
    | [t0], vs, hv, lv, fin1, fin2 =>
      have l1 : vs.length = 1 := lv
      refine ite_no (fun z => by have := V.int.inj (of_decide_eq_true z); omega) ?_
      refine ⟨_, rfl, s, _, rfl, .inl (SqL.of hv.1), rfl, _, rfl, ite_yes (decide_eq_true (by rw [l1]; rfl)) ?_⟩
      obtain ⟨nm, ds, e1, e2⟩ := tok_name t0
      have dv := hv.2
      have dv : DpAll K H2 vs [tokD t0] := dv
      rw [e1] at dv
      cases dv with
      | cons h1 h2 =>
      cases h2
      cases h1 with
      | @tup a0 ys es hs ha =>
      cases ha with
      | cons k1 k2 =>
      cases k1
      refine ⟨_, rfl, s, _, 0, _, rfl, rfl, SqL.of hv.1, atI_nat (j := 0) rfl, a0, _, 0, _, rfl, rfl, hs, atI_nat (j := 0) rfl, rfl, _, rfl, ?_⟩
      by_cases c : nm = "rules"
      · refine ite_yes (decide_eq_true (congrArg V.str c)) (fin1 ?_)
        rw [e2]
        exact decide_eq_true c
      · refine ite_no (fun z => c (V.str.inj (of_decide_eq_true z))) ?_
        refine ⟨_, rfl, L, _, rfl, .inl (m2.seq hL), fin2 ?_⟩
        rw [e2]
        exact decide_eq_false c
    | t0 :: t1 :: r, vs, hv, lv, fin1, fin2 =>
      have l1 : vs.length = r.length + 1 + 1 := lv
      refine ite_no (fun z => by have := V.int.inj (of_decide_eq_true z); omega) ?_
      refine ⟨_, rfl, s, _, rfl, .inl (SqL.of hv.1), rfl, _, rfl, ite_no (fun z => by have := V.int.inj (of_decide_eq_true z); omega) (iteF ?_)⟩
      refine ⟨_, rfl, L, _, rfl, .inl (m2.seq hL), fin2 ?_⟩
      cases t0 <;> rfl
end
end Toy
set_option Elab.async false
set_option linter.all false
set_option maxRecDepth 100000
set_option maxHeartbeats 4000000
namespace Toy
open PySem L2 NdefX Gm Pz
open Mine hiding same_new
def spWalked : Sp := fun vs H Q _ => ∃ (a l : Addr) (ns : List Int) (way : Bool), vs = [.ref a, .int (if way = true then 1 else 0)] ∧ PoolAt H a l ns ∧ ∀ (L : Addr) (ws : List Str) (H' : Hp), But a H H' → PoolAt H' a l ns → H L = none → H' L = some (.lst (ws.map V.str)) → ws.length ≤ 40 → (∀ w ∈ ws, WdB 13 w) → Q (.ref L) H'
def st1 : List Str := ["say", "toss", "ask"]
theorem st1_ok : ∀ x ∈ st1, wdB 13 x = true := by decide +kernel
section
variable {P : Program} {w : World} {K : PySem.W.Frag} {mg : Str → Option Value} {base : Heap} {file : Str}
theorem ok_walked (T : Txt K mg file) : FnOk P w K mg base CX0 4 T.a_law_walked T.fd_law_walked ["pool", "way"] spWalked := by
  have G_law_draw : FnOk P w K mg base CX0 1 T.a_law_draw T.fd_law_draw ["pool", "size"] spDraw := ok_draw T
  have G_law_menu : FnOk P w K mg base CX0 2 T.a_law_menu T.fd_law_menu ["pool"] spMenu := ok_menu T
  have G_law_wrong : FnOk P w K mg base CX0 3 T.a_law_wrong T.fd_law_wrong ["way", "words"] (spWrong K) := ok_wrong T
  refine T.F_law_walked.ok sc_law_walked (fun vs H Q E h => ?_) (fun cdv A outer s' H vs Q E hr h => ?_)
  · obtain ⟨a, l, ns, way, rfl, _⟩ := h
    rfl
  obtain ⟨a, l, ns, way, rfl, hp, q⟩ := h
  refine ⟨_, (pss_cons (ps_set (i := 2) sc_law_walked.nd rfl (Or.inl rfl) (pe_slice sl_list (pe_lst (pa_cons (pe_ix ix_list (pe_lst (pa_cons pe_str (pa_cons pe_str (pa_cons pe_str pa_nil)))) (pe_call G_law_draw (hr.mono (by decide)) rfl T.g_law_draw T.k_law_draw T.b_law_draw .nil pass0 (pa_cons (pv 0) (pa_cons pe_int pa_nil))) (fun _ _ => rfl)) (pa_cons pe_str pa_nil))) (po_some (pv 1)) (po_some (pe_op op_add (pv 1) pe_int))))
    (pss_cons (ps_for PassesOwn.never rfl (pi_range1 (by rfl) T.z_range (pa_cons (pe_call G_law_draw (hr.mono (by decide)) rfl T.g_law_draw T.k_law_draw T.b_law_draw .nil pass0 (pa_cons (pv 0) (pa_cons pe_int pa_nil))) pa_nil)) (pg_name (i := 3) sc_law_walked.nd rfl (Or.inl rfl))
      (pss_cons (ps_set (i := 4) sc_law_walked.nd rfl (Or.inl rfl) (pe_call G_law_menu (hr.mono (by decide)) rfl T.g_law_menu T.k_law_menu T.b_law_menu .nil pass0 (pa_cons (pv 0) pa_nil)))
    (pss_cons (ps_for PassesOwn.never rfl (pi_range1 (by rfl) T.z_range (pa_cons pe_int pa_nil)) (pg_name (i := 5) sc_law_walked.nd rfl (Or.inl rfl))
      (pss_one (ps_if (pt_cmpR op_eq (pe_call G_law_wrong (hr.mono (by decide)) rfl T.g_law_wrong T.k_law_wrong T.b_law_wrong .nil pass0 (pa_cons (pv 1) (pa_cons (pe_op op_cat (pv 2) (pe_lst (pa_cons (pv 4) pa_nil))) pa_nil))) (pe_callB call_len_seq (by rfl) T.z_len (by decide +kernel) (pa_cons (pv 2) pa_nil)) (nomark _))
      (pss_one (ps_set (i := 4) sc_law_walked.nd rfl (Or.inl rfl) (pe_call G_law_menu (hr.mono (by decide)) rfl T.g_law_menu T.k_law_menu T.b_law_menu .nil pass0 (pa_cons (pv 0) pa_nil))))
      pss_nil)))
    (pss_one (ps_expr (pe_bm PySem.F.plainAttrs_list PySem.F.slot_list_append PySem.F.type_list_append mt_append (pv 2) (pa_cons (pv 4) pa_nil)))))))
    (pss_one (ps_ret (pv 2))))), ?_⟩
  have big : ∀ n : Nat, n ≤ 100000 → n ≤ sizeLine := fun n h => Nat.le_trans h (by decide)
  refine ⟨big 3 (by decide), fun t1 ht1 => ?_⟩
  have k1 := same_new ht1 (.lst (st1.map V.str))
  have q1 := hp.ne ht1
  refine ⟨_, rfl, a, l, ns, 3, rfl, hp.same k1, by decide, by decide, fun r2 H2 r20 r21 b2 p2 => ?_⟩
  obtain ⟨x, hx, ex⟩ := at_mem (xs := st1) r20 r21
  refine ⟨t1, _, _, _, rfl, rfl, SqL.of (b2 _ _ upd_same q1.1), ex, big 2 (by decide), fun L0 hL0 => ?_⟩
  have k3 := same_new hL0 (.lst [V.str x, V.str "when"])
  have n0 := p2.ne hL0
  have ws0 : ∃ z : Str, cutV [V.str x, V.str "when"] (some (if way = true then 1 else 0)) (some ((if way = true then 1 else 0) + 1)) = ([z] : List Str).map V.str ∧ WdB 13 z := by
    cases way
    · exact ⟨x, rfl, wdB_ok (st1_ok x hx)⟩
    · exact ⟨"when", rfl, wdB_ok (by decide +kernel)⟩
  obtain ⟨z, ez, hz⟩ := ws0
  refine ⟨_, rfl, _, rfl, _, rfl, _, _, rfl, rfl, _, rfl, L0, _, rfl, SqL.of upd_same, fun L hL => ?_⟩
  dsimp only at hL ⊢
  rw [ez]
  have k4 := k3.trans (same_new hL (.lst (([z] : List Str).map V.str)))
  have b4 : But a H _ := (But.same k1).trans (b2.trans (But.same k4))
  have hLH : H L = none := (p2.same k3).none ((But.same k1).trans (b2.trans (But.same k3))) hL
  have nL := hp.ne hLH
  have p4 := p2.same k4
  have e4 : (upd (upd H2 L0 (.lst [V.str x, V.str "when"])) L (.lst (([z] : List Str).map V.str))) L = some (.lst (([z] : List Str).map V.str)) := upd_same
  revert b4 p4 e4
  clear k3 k4 hL n0 hL0
  generalize upd (upd H2 L0 (.lst [V.str x, V.str "when"])) L (.lst (([z] : List Str).map V.str)) = H4
  intro b4 p4 e4
  refine ⟨_, rfl, a, l, ns, 31, rfl, p4, by decide, by decide, fun r H5 r0 r1 b5 p5 => ?_⟩
  obtain ⟨n, en⟩ : ∃ n : Nat, r = (n : Int) := ⟨r.toNat, by omega⟩
  refine ⟨_, rfl, by omega, by omega, ?_⟩
  rw [show r.toNat = n by omega]
  refine for_range (lo := 0) (n := n) (fun t σ H' => ∃ (ws : List Str) (y3 y4 y5 : Option V), σ = [some (.ref a), some (.int (if way = true then 1 else 0)), some (.ref L), y3, y4, y5] ∧ But a H H' ∧ PoolAt H' a l ns ∧ H' L = some (.lst (ws.map V.str)) ∧ ws.length ≤ t + 1 ∧ (∀ w ∈ ws, WdB 13 w)) ⟨[z], none, none, none, rfl, b4.trans b5, p5, b5 _ _ e4 nL.1, by simp, fun w hw => by rw [List.mem_singleton.mp hw]; exact hz⟩ ?_ ?_
  · rintro t σ H6 ht ⟨ws, y3, y4, y5, rfl, b6, p6, e6, l6, hw⟩
    have big' : ∀ n : Nat, n ≤ 10000 → n < sizeLine := fun n h => Nat.lt_of_le_of_lt h (by decide)
    refine ⟨_, rfl, a, l, ns, rfl, p6, fun x7 H7 b7 p7 h7 => ?_⟩
    refine ⟨_, rfl, by decide, by decide, ?_⟩
    refine for_range (lo := 0) (n := 8) (fun u σ H' => ∃ (x : Str) (y3 y5 : Option V), σ = [some (.ref a), some (.int (if way = true then 1 else 0)), some (.ref L), y3, some (.str x), y5] ∧ But a H H' ∧ PoolAt H' a l ns ∧ H' L = some (.lst (ws.map V.str)) ∧ WdB 13 x) ⟨x7, _, _, rfl, b6.trans b7, p7, b7 _ _ e6 nL.1, h7⟩ ?_ ?_
    · rintro u σ H8 hu ⟨x8, y3, y5, rfl, b8, p8, e8, h8⟩
      refine ⟨_, rfl, _, rfl, _, rfl, big 1 (by decide), fun L5 hL5 => ?_⟩
      have j1 := same_new hL5 (.lst [V.str x8])
      refine ⟨L, L5, _, _, rfl, rfl, j1 _ _ e8, upd_same, big _ (by simp only [List.length_map, List.length_cons, List.length_nil]; omega), fun L6 hL6 => ?_⟩
      have j2 := j1.trans (same_new hL6 (.lst (ws.map V.str ++ [V.str x8])))
      have hx8 : ∀ w ∈ ws ++ [x8], WdB 13 w := fun w h => by
        rcases List.mem_append.mp h with h | h
        · exact hw w h
        · rw [List.mem_singleton.mp h]; exact h8
      refine ⟨way, L6, ws ++ [x8], rfl, SqL.of (by rw [upd_same, List.map_append]; rfl), by simp only [List.length_append, List.length_cons, List.length_nil]; omega, fun w h => by have := (hx8 w h).1; omega, fun H9 m9 => ?_⟩
      have jj := j2.trans m9
      have go : ∀ v : V, (∃ i : Nat, v = .int i) ∨ v = .non → ∃ v' : V, v' = v := fun v _ => ⟨v, rfl⟩
      refine ⟨_, rfl, L, _, rfl, .inl (SqL.of (jj _ _ e8)), ?_⟩
      have b9 := b8.trans (But.same jj)
      have p9 := p8.same jj
      have e9 := jj _ _ e8
      cases goM [startT way] 0 (ws ++ [x8]) with
      | none =>
        refine ⟨rfl, _, rfl, ite2 (fun _ => ?_) (fun _ => ?_)⟩
        · exact ⟨_, rfl, a, l, ns, rfl, p9, fun xA HA bA pA hA => ⟨xA, _, _, rfl, b9.trans bA, pA, bA _ _ e9 nL.1, hA⟩⟩
        · exact ⟨x8, _, _, rfl, b9, p9, e9, h8⟩
      | some i =>
        refine ⟨rfl, _, rfl, ite2 (fun _ => ?_) (fun _ => ?_)⟩
        · exact ⟨_, rfl, a, l, ns, rfl, p9, fun xA HA bA pA hA => ⟨xA, _, _, rfl, b9.trans bA, pA, bA _ _ e9 nL.1, hA⟩⟩
        · exact ⟨x8, _, _, rfl, b9, p9, e9, h8⟩
    · rintro σ H8 ⟨x8, y3, y5, rfl, b8, p8, e8, h8⟩
      refine ⟨_, rfl, .inl ⟨rfl, _, SqL.of e8⟩, _, rfl, L, _, _, rfl, rfl, e8, big' _ (by rw [List.length_map]; omega), ?_⟩
      refine ⟨ws ++ [x8], _, _, _, rfl, fun b o e n => ?_, p8.upd nL, by rw [upd_same, List.map_append]; rfl, by simp only [List.length_append, List.length_cons, List.length_nil]; omega, fun w h => ?_⟩
      · rw [upd_ne (ne_of_none e hLH)]
        exact b8 b o e n
      · rcases List.mem_append.mp h with h | h
        · exact hw w h
        · rw [List.mem_singleton.mp h]; exact h8
  · rintro σ H6 ⟨ws, y3, y4, y5, rfl, b6, p6, e6, l6, hw⟩
    exact ⟨_, rfl, q L ws H6 b6 p6 hLH e6 (by omega) hw⟩
end
end Toy
set_option Elab.async false
set_option linter.all false
set_option maxRecDepth 100000
set_option maxHeartbeats 4000000
namespace Toy
open PySem L2 NdefX Gm Pz
open Mine hiding same_new
/-- lists of words, each where it stands -/
def PartsAt (H : Hp) (a M : Addr) (qs : List (Addr × List Str)) : Prop := ∀ q ∈ qs, H q.1 = some (.lst (q.2.map V.str)) ∧ q.1 ≠ a ∧ q.1 ≠ M ∧ ∀ w ∈ q.2, WdB 13 w
def sumL (qs : List (Addr × List Str)) : Nat := (qs.map fun q => q.2.length).sum
theorem sumL_app (qs : List (Addr × List Str)) (q : Addr × List Str) : sumL (qs ++ [q]) = sumL qs + q.2.length := by
  unfold sumL
  rw [List.map_append, List.sum_append]
  simp
theorem sumL_take {qs : List (Addr × List Str)} {i : Nat} {q : Addr × List Str} (h : qs[i]? = some q) : sumL (qs.take (i + 1)) = sumL (qs.take i) + q.2.length := by
  rw [take_more h, sumL_app]
theorem sumL_le (qs : List (Addr × List Str)) (i : Nat) : sumL (qs.take i) ≤ sumL qs := by
  have h := congrArg sumL (List.take_append_drop i qs)
  have e : sumL (qs.take i ++ qs.drop i) = sumL (qs.take i) + sumL (qs.drop i) := by
    unfold sumL
    rw [List.map_append, List.sum_append]
  omega
theorem PartsAt.but {H H' : Hp} {a M : Addr} {qs : List (Addr × List Str)} (h : PartsAt H a M qs) (b : But a H H') : PartsAt H' a M qs := fun q hq => let ⟨e, n, m, w⟩ := h q hq; ⟨b _ _ e n, n, m, w⟩
theorem PartsAt.upd {H : Hp} {a M : Addr} {qs : List (Addr × List Str)} {o : HO} (h : PartsAt H a M qs) : PartsAt (upd H M o) a M qs := fun q hq => let ⟨e, n, m, w⟩ := h q hq; ⟨by rw [upd_ne m]; exact e, n, m, w⟩
theorem num13 {n : Int} (h : 0 ≤ n ∧ n < 100000) : WdB 13 (numS n) := by
  obtain ⟨m, rfl⟩ : ∃ m : Nat, n = m := ⟨n.toNat, by omega⟩
  refine ⟨?_, fun c => ?_⟩
  · rw [← len_signs, signs_numS]
    have := TL.numL_len (n := m) (k := 5) (by decide) (by omega)
    omega
  · rw [signs_numS] at c
    have := TL.numL_digits m 32 c
    omega
def nm2 : List Str := ["p", "say", "toss", "yes", "no", "when", "r9"]
theorem nm2_ok : ∀ x ∈ nm2, wdB 13 x = true := by decide +kernel
section
variable {P : Program} {w : World} {K : PySem.W.Frag} {mg : Str → Option Value} {base : Heap} {file : Str}
theorem ok_chain (T : Txt K mg file) : FnOk P w K mg base CX0 3 T.a_law_chain T.fd_law_chain ["pool"] (spWords 1200) := by
  have G_law_draw : FnOk P w K mg base CX0 1 T.a_law_draw T.fd_law_draw ["pool", "size"] spDraw := ok_draw T
  refine T.F_law_chain.ok sc_law_chain (fun vs H Q E h => ?_) (fun cdv A outer s' H vs Q E hr h => ?_)
  · obtain ⟨a, l, ns, rfl, _⟩ := h
    rfl
  obtain ⟨a, l, ns, rfl, hp, q⟩ := h
  refine ⟨_, (pss_cons (ps_set (i := 1) sc_law_chain.nd rfl (Or.inl rfl) (pe_lst (pa_cons pe_str (pa_cons (pe_ix ix_tup (pe_tup (pa_cons pe_str (pa_cons pe_str (pa_cons pe_str pa_nil)))) (pe_op op_fdivW (pe_call G_law_draw (hr.mono (by decide)) rfl T.g_law_draw T.k_law_draw T.b_law_draw .nil pass0 (pa_cons (pv 0) (pa_cons pe_int pa_nil))) pe_int) (fun _ _ => rfl)) pa_nil))))
    (pss_cons (ps_for PassesOwn.never rfl (pi_range1 (by rfl) T.z_range (pa_cons (pe_call G_law_draw (hr.mono (by decide)) rfl T.g_law_draw T.k_law_draw T.b_law_draw .nil pass0 (pa_cons (pv 0) (pa_cons pe_int pa_nil))) pa_nil)) (pg_name (i := 2) sc_law_chain.nd rfl (Or.inl rfl))
      (pss_cons (ps_set (i := 3) sc_law_chain.nd rfl (Or.inl rfl) (pe_op op_add pe_int (pe_call G_law_draw (hr.mono (by decide)) rfl T.g_law_draw T.k_law_draw T.b_law_draw .nil pass0 (pa_cons (pv 0) (pa_cons pe_int pa_nil)))))
    (pss_cons (ps_set (i := 4) sc_law_chain.nd rfl (Or.inl rfl) (pe_call G_law_draw (hr.mono (by decide)) rfl T.g_law_draw T.k_law_draw T.b_law_draw .nil pass0 (pa_cons (pv 0) (pa_cons (pv 3) pa_nil))))
    (pss_cons (ps_set (i := 5) sc_law_chain.nd rfl (Or.inl rfl) (pe_lst pa_nil))
    (pss_cons (ps_for PassesOwn.never rfl (pi_range1 (by rfl) T.z_range (pa_cons (pv 3) pa_nil)) (pg_name (i := 6) sc_law_chain.nd rfl (Or.inl rfl))
      (pss_one (ps_expr (pe_bm PySem.F.plainAttrs_list PySem.F.slot_list_append PySem.F.type_list_append mt_append (pv 5) (pa_cons (pe_ix ix_tup (pe_tup (pa_cons (pe_lst (pa_cons pe_str (pa_cons pe_str pa_nil))) (pa_cons (pv 1) pa_nil))) (pe_callTy call_int1 (by rfl) T.z_int (by decide +kernel) (pa_cons (pe_cmpR op_eq (pv 6) (pv 4) (nomark _)) pa_nil)) (fun _ _ => rfl)) pa_nil)))))
    (pss_one (ps_if (pt_cmpR op_eq (pe_call G_law_draw (hr.mono (by decide)) rfl T.g_law_draw T.k_law_draw T.b_law_draw .nil pass0 (pa_cons (pv 0) (pa_cons pe_int pa_nil))) pe_int (nomark _))
      (pss_cons (ps_set (i := 1) sc_law_chain.nd rfl (Or.inl rfl) (pe_lst (pa_cons pe_str (pa_cons (pe_callTy call_str_int (by rfl) T.z_str (by decide +kernel) (pa_cons (pv 3) pa_nil)) pa_nil))))
    (pss_one (ps_for PassesOwn.never rfl (pi_list (pv 5)) (pg_name (i := 7) sc_law_chain.nd rfl (Or.inl rfl))
      (pss_one (ps_set (i := 1) sc_law_chain.nd rfl (Or.inl rfl) (pe_op op_cat (pv 1) (pv 7)))))))
      (pss_cons (ps_set (i := 1) sc_law_chain.nd rfl (Or.inl rfl) (pe_lst (pa_cons pe_str (pa_cons (pe_ix ix_tup (pe_tup (pa_cons pe_str (pa_cons pe_str (pa_cons pe_str (pa_cons pe_str (pa_cons pe_str (pa_cons pe_str (pa_cons pe_str pa_nil)))))))) (pe_call G_law_draw (hr.mono (by decide)) rfl T.g_law_draw T.k_law_draw T.b_law_draw .nil pass0 (pa_cons (pv 0) (pa_cons pe_int pa_nil))) (fun _ _ => rfl)) (pa_cons (pe_callTy call_str_int (by rfl) T.z_str (by decide +kernel) (pa_cons (pe_call G_law_draw (hr.mono (by decide)) rfl T.g_law_draw T.k_law_draw T.b_law_draw .nil pass0 (pa_cons (pv 0) (pa_cons pe_int pa_nil))) pa_nil)) (pa_cons (pe_callTy call_str_int (by rfl) T.z_str (by decide +kernel) (pa_cons (pv 3) pa_nil)) pa_nil))))))
    (pss_one (ps_for PassesOwn.never rfl (pi_list (pv 5)) (pg_name (i := 7) sc_law_chain.nd rfl (Or.inl rfl))
      (pss_one (ps_set (i := 1) sc_law_chain.nd rfl (Or.inl rfl) (pe_op op_cat (pe_op op_cat (pv 1) (pe_lst (pa_cons (pe_callTy call_str_int (by rfl) T.z_str (by decide +kernel) (pa_cons (pe_call G_law_draw (hr.mono (by decide)) rfl T.g_law_draw T.k_law_draw T.b_law_draw .nil pass0 (pa_cons (pv 0) (pa_cons (pe_ix ix_tup (pe_tup (pa_cons pe_int (pa_cons pe_int pa_nil))) (pe_call G_law_draw (hr.mono (by decide)) rfl T.g_law_draw T.k_law_draw T.b_law_draw .nil pass0 (pa_cons (pv 0) (pa_cons pe_int pa_nil))) (fun _ _ => rfl)) pa_nil))) pa_nil)) pa_nil))) (pv 7))))))))))))))
    (pss_one (ps_ret (pv 1))))), ?_⟩
  have big : ∀ n : Nat, n ≤ 100000 → n ≤ sizeLine := fun n h => Nat.le_trans h (by decide)
  have big' : ∀ n : Nat, n ≤ 10000 → n < sizeLine := fun n h => Nat.lt_of_le_of_lt h (by decide)
  -- the end of the chain
  refine ⟨big 3 (by decide), fun t1 ht1 => ?_⟩
  have k1 := same_new ht1 (.tup ((["yes", "no", "maybe"] : List Str).map V.str))
  have q1 := hp.ne ht1
  refine ⟨_, rfl, a, l, ns, 12, rfl, hp.same k1, by decide, by decide, fun r2 H2 r20 r21 b2 p2 => ?_⟩
  have d2 : 0 ≤ r2 / 5 ∧ r2 / 5 < 3 := by omega
  obtain ⟨x, hx, ex⟩ := at_mem (xs := (["yes", "no", "maybe"] : List Str)) d2.1 d2.2
  refine ⟨_, _, rfl, rfl, ⟨by decide, by decide⟩, t1, _, _, _, rfl, rfl, SqT.of (b2 _ _ upd_same q1.1), ex, big 2 (by decide), fun L hL => ?_⟩
  have k3 := same_new hL (.lst [V.str "say", V.str x])
  have b3 : But a H _ := (But.same k1).trans (b2.trans (But.same k3))
  have hLH := p2.none ((But.same k1).trans b2) hL
  have nL := hp.ne hLH
  have p3 := p2.same k3
  have e3 : (upd H2 L (.lst [V.str "say", V.str x])) L = some (.lst ((["say", x] : List Str).map V.str)) := upd_same
  have hx13 : WdB 13 x := wdB_ok ((by decide +kernel : ∀ x ∈ (["yes", "no", "maybe"] : List Str), wdB 13 x = true) x hx)
  revert b3 p3 e3
  generalize upd H2 L (.lst [V.str "say", V.str x]) = H3
  intro b3 p3 e3
  refine ⟨_, rfl, a, l, ns, 11, rfl, p3, by decide, by decide, fun r H5 r0 r1 b5 p5 => ?_⟩
  obtain ⟨n, en⟩ : ∃ n : Nat, r = (n : Int) := ⟨r.toNat, by omega⟩
  refine ⟨_, rfl, by omega, by omega, ?_⟩
  rw [show r.toNat = n by omega]
  refine for_range (lo := 0) (n := n) (fun t σ H' => ∃ (L : Addr) (ws : List Str) (y2 y3 y4 y5 y6 y7 : Option V), σ = [some (.ref a), some (.ref L), y2, y3, y4, y5, y6, y7] ∧ But a H H' ∧ PoolAt H' a l ns ∧ H L = none ∧ H' L = some (.lst (ws.map V.str)) ∧ ws.length ≤ 20 * t + 2 ∧ (∀ w ∈ ws, WdB 13 w)) ⟨L, ["say", x], none, none, none, none, none, none, rfl, b3.trans b5, p5, hLH, b5 _ _ e3 nL.1, by simp, fun w hw => ?_⟩ ?_ ?_
  · rcases List.mem_cons.mp hw with rfl | hw
    · exact wdB_ok (by decide +kernel)
    · rw [List.mem_singleton.mp hw]; exact hx13
  · clear e3 p3 b3 b5 p5 hx13 hx ex hLH nL
    rintro t σ H6 ht ⟨L, ws, y2, y3, y4, y5, y6, y7, rfl, b6, p6, hL, e6, l6, hw⟩
    have nL := hp.ne hL
    -- how many parts, and where the chain goes on
    refine ⟨_, rfl, a, l, ns, 3, rfl, p6, by decide, by decide, fun r7 H7 r70 r71 b7 p7 => ⟨_, _, rfl, rfl, ?_⟩⟩
    dsimp only
    obtain ⟨ct, ec⟩ : ∃ ct : Nat, 1 + r7 = (ct : Int) := ⟨(1 + r7).toNat, by omega⟩
    have hct : 1 ≤ ct ∧ ct ≤ 3 := by omega
    rw [ec]
    refine ⟨_, rfl, _, rfl, a, l, ns, (ct : Int), rfl, p7, by omega, by omega, fun r8 H8 r80 r81 b8 p8 => ?_⟩
    obtain ⟨pa, epa⟩ : ∃ pa : Nat, r8 = (pa : Int) := ⟨r8.toNat, by omega⟩
    subst epa
    have e8 := b8 _ _ (b7 _ _ e6 nL.1) nL.1
    have b68 := b6.trans (b7.trans b8)
    clear b7 b8 e6 p6 p7 b6
    refine ⟨big 0 (by decide), fun M hM => ?_⟩
    have k9 := same_new hM (.lst [])
    have hMH := p8.none b68 hM
    have nM := hp.ne hMH
    have nLM : L ≠ M := fun z => by rw [z, hM] at e8; cases e8
    have e9 := k9 _ _ e8
    have eM : (upd H8 M (.lst [])) M = some (.lst (([] : List (Addr × List Str)).map fun q => V.ref q.1)) := upd_same
    have b9 := b68.trans (But.same k9)
    have p9 := p8.same k9
    revert e9 eM b9 p9
    generalize upd H8 M (.lst []) = H9
    intro e9 eM b9 p9
    refine ⟨_, rfl, _, rfl, by omega, by omega, ?_⟩
    rw [show ((ct : Nat) : Int).toNat = ct by omega]
    refine for_range (lo := 0) (n := ct) (fun u σ H' => ∃ (qs : List (Addr × List Str)) (y2 y6 y7 : Option V), σ = [some (.ref a), some (.ref L), y2, some (.int (ct : Int)), some (.int (pa : Int)), some (.ref M), y6, y7] ∧ But a H H' ∧ PoolAt H' a l ns ∧ H' L = some (.lst (ws.map V.str)) ∧ H' M = some (.lst (qs.map fun q => V.ref q.1)) ∧ PartsAt H' a M qs ∧ qs.length = u ∧ sumL qs ≤ 2 * u + (if pa < u then ws.length else 0)) ⟨[], _, _, _, rfl, b9, p9, e9, eM, fun q hq => (by cases hq), rfl, Nat.zero_le _⟩ ?_ ?_
    · clear e9 eM b9 p9 e8 b68 p8 hM k9
      rintro u σ HA hu ⟨qs, y2, y6, y7, rfl, bA, pA, eA, fA, gA, lq, sq⟩
      refine ⟨_, rfl, .inl ⟨rfl, _, SqL.of fA⟩, big 2 (by decide), fun L1 hL1 => ?_⟩
      have j1 := same_new hL1 (.lst ((["say", "yes"] : List Str).map V.str))
      have n1 := pA.ne hL1
      refine ⟨_, rfl, big 2 (by decide), fun t2 ht2 => ?_⟩
      have j2 := j1.trans (same_new ht2 (.tup [V.ref L1, V.ref L]))
      have nML : L1 ≠ M := fun z => by rw [z, fA] at hL1; cases hL1
      obtain ⟨qn, ix, hq1, hq2⟩ : ∃ qn : Addr × List Str, atI [V.ref L1, V.ref L] (if decide (V.int (0 + (u : Int)) = V.int (pa : Int)) = true then 1 else 0) = some (.ref qn.1) ∧ ((upd (upd HA L1 (.lst ((["say", "yes"] : List Str).map V.str))) t2 (.tup [V.ref L1, V.ref L])) qn.1 = some (.lst (qn.2.map V.str)) ∧ qn.1 ≠ a ∧ qn.1 ≠ M ∧ ∀ w ∈ qn.2, WdB 13 w) ∧ qn.2.length ≤ (if pa = u then ws.length else 2) := by
        by_cases c : pa = u
        · rw [if_pos (decide_eq_true (by rw [c]; congr 1; omega)), if_pos c]
          exact ⟨(L, ws), rfl, ⟨j2 _ _ eA, nL.1, nLM, hw⟩, Nat.le_refl _⟩
        · rw [if_neg (fun z => c (by have := V.int.inj (of_decide_eq_true z); omega)), if_neg c]
          exact ⟨(L1, ["say", "yes"]), rfl, ⟨same_new ht2 _ _ _ upd_same, n1.1, nML, fun w h => wdB_ok ((by decide +kernel : ∀ x ∈ (["say", "yes"] : List Str), wdB 13 x = true) w h)⟩, Nat.le_refl _⟩
      have fA2 := j2 _ _ fA
      refine ⟨_, rfl, _, rfl, rfl, .inr ⟨_, rfl, t2, _, _, _, rfl, rfl, SqT.of upd_same, ix, M, _, _, rfl, rfl, fA2, big' _ (by rw [List.length_map]; omega), ?_⟩⟩
      refine ⟨qs ++ [qn], _, _, _, rfl, fun b o e n => ?_, (pA.same j2).upd nM, by rw [upd_ne nLM]; exact j2 _ _ eA, by rw [upd_same, List.map_append]; rfl, fun q hq => ?_, by rw [List.length_append, lq]; rfl, ?_⟩
      · rw [upd_ne (ne_of_none e hMH)]
        exact (bA.trans (But.same j2)) b o e n
      · rcases List.mem_append.mp hq with hq | hq
        · exact (gA.but (But.same j2)).upd q hq
        · rw [List.mem_singleton.mp hq]
          obtain ⟨z1, z2, z3, z4⟩ := hq1
          exact ⟨by rw [upd_ne z3]; exact z1, z2, z3, z4⟩
      · rw [sumL_app]
        by_cases c : pa = u
        · rw [if_pos c] at hq2
          rw [if_neg (by omega)] at sq
          rw [if_pos (by omega)]
          omega
        · rw [if_neg c] at hq2
          by_cases c2 : pa < u
          · rw [if_pos c2] at sq
            rw [if_pos (by omega)]
            omega
          · rw [if_neg c2] at sq
            rw [if_neg (by omega)]
            omega
    clear e9 eM b9 p9 e8 b68 p8 hM k9
    rintro σ HA ⟨qs, y2, y6, y7, rfl, bA, pA, eA, fA, gA, lq, sq⟩
    rw [if_pos (by omega)] at sq
    refine ⟨_, rfl, a, l, ns, 2, rfl, pA, by decide, by decide, fun rB HB rB0 rB1 bB pB => ⟨rfl, _, rfl, ?_⟩⟩
    have fB := bB _ _ fA nM.1
    have gB := gA.but bB
    have b0 := bA.trans bB
    refine ite2 (fun _ => ?_) (fun _ => ?_)
    · refine ⟨_, rfl, (ct : Int), rfl, small_log (by omega) (by omega), big 2 (by decide), fun L2 hL2 => ?_⟩
      have j1 := same_new hL2 (.lst ((["toss", numS (ct : Int)] : List Str).map V.str))
      have eL2 : (upd HB L2 (.lst ((["toss", numS (ct : Int)] : List Str).map V.str))) L2 = some (.lst ((["toss", numS (ct : Int)] : List Str).map V.str)) := upd_same
      refine ⟨_, rfl, M, rfl, ⟨_, SqL.of (j1 _ _ fB)⟩, ?_⟩
      refine for_it walk_list (fun v σ H' => ∃ (L' : Addr) (ws' : List Str) (y2 y6 y7 : Option V), σ = [some (.ref a), some (.ref L'), y2, some (.int (ct : Int)), some (.int (pa : Int)), some (.ref M), y6, y7] ∧ But a H H' ∧ PoolAt H' a l ns ∧ H L' = none ∧ H' L' = some (.lst (ws'.map V.str)) ∧ H' M = some (.lst (qs.map fun q => V.ref q.1)) ∧ PartsAt H' a M qs ∧ ws'.length ≤ 2 + sumL (qs.take v) ∧ ∀ w ∈ ws', WdB 13 w)
        ⟨L2, _, _, _, _, rfl, b0.trans (But.same j1), pB.same j1, pB.none b0 hL2, eL2, j1 _ _ fB, gB.but (But.same j1), by simp, fun w h => ?_⟩ (fun v σ H' _ ⟨_, _, _, _, _, _, _, _, _, _, f, _⟩ => SqL.of f) ?_ ?_
      · rcases List.mem_cons.mp h with rfl | h
        · exact wdB_ok (by decide +kernel)
        · rw [List.mem_singleton.mp h]
          exact num13 (by omega)
      · rintro v y σ HC HD hv ⟨L', ws', y2, y6, y7, rfl, bC, pC, nL', eC, fC, gC, lC, hC⟩ ⟨rfl, ey⟩
        rw [List.getElem?_map] at ey
        obtain ⟨q, eq, rfl⟩ := Option.map_eq_some_iff.mp ey
        obtain ⟨z1, z2, z3, z4⟩ := gC q (List.mem_of_getElem? eq)
        have hs := sumL_take eq
        have hall : sumL (qs.take v) + q.2.length ≤ sumL qs := by
          rw [← hs]
          exact sumL_le qs (v + 1)
        have lw : ws.length ≤ 300 := by omega
        have hv2 : v < 4 := by rw [List.length_map] at hv; omega
        refine ⟨_, rfl, _, rfl, L', q.1, _, _, rfl, rfl, eC, z1, big _ (by simp only [List.length_map]; omega), fun L3 hL3 => ?_⟩
        have j3 := same_new hL3 (.lst (ws'.map V.str ++ q.2.map V.str))
        refine ⟨L3, ws' ++ q.2, _, _, _, rfl, bC.trans (But.same j3), pC.same j3, pC.none bC hL3, by rw [upd_same, List.map_append], j3 _ _ fC, gC.but (But.same j3), by rw [hs, List.length_append]; omega, fun w h => ?_⟩
        rcases List.mem_append.mp h with h | h
        · exact hC w h
        · exact z4 w h
      · rintro σ HC ⟨L', ws', y2, y6, y7, rfl, bC, pC, nL', eC, fC, gC, lC, hC⟩
        rw [List.length_map, List.take_length] at lC
        exact ⟨L', ws', _, _, _, _, _, _, rfl, bC, pC, nL', eC, by omega, hC⟩
    · refine ⟨big 7 (by decide), fun t2 ht2 => ?_⟩
      have j0 := same_new ht2 (.tup (nm2.map V.str))
      have q2 := pB.ne ht2
      refine ⟨_, rfl, a, l, ns, 7, rfl, pB.same j0, by decide, by decide, fun r9 H9 r90 r91 b9 p9 => ?_⟩
      obtain ⟨x9, hx9, ex9⟩ := at_mem (xs := nm2) r90 r91
      refine ⟨t2, _, _, _, rfl, rfl, SqT.of (b9 _ _ upd_same q2.1), ex9, ?_⟩
      have b09 := b0.trans ((But.same j0).trans b9)
      refine ⟨_, rfl, a, l, ns, 70000, rfl, p9, by decide, by decide, fun rG HG rG0 rG1 bG pG => ⟨rG, rfl, small_log rG0 (by omega), ?_⟩⟩
      have b0G := b09.trans bG
      have fG := bG _ _ (b9 _ _ (j0 _ _ fB) nM.1) nM.1
      have gG := ((gB.but (But.same j0)).but b9).but bG
      refine ⟨_, rfl, (ct : Int), rfl, small_log (by omega) (by omega), big 4 (by decide), fun L2 hL2 => ?_⟩
      have j1 := same_new hL2 (.lst ((["ask", x9, numS rG, numS (ct : Int)] : List Str).map V.str))
      have eL2 : (upd HG L2 (.lst ((["ask", x9, numS rG, numS (ct : Int)] : List Str).map V.str))) L2 = some (.lst ((["ask", x9, numS rG, numS (ct : Int)] : List Str).map V.str)) := upd_same
      refine ⟨_, rfl, M, rfl, ⟨_, SqL.of (j1 _ _ fG)⟩, ?_⟩
      refine for_it walk_list (fun v σ H' => ∃ (L' : Addr) (ws' : List Str) (y2 y6 y7 : Option V), σ = [some (.ref a), some (.ref L'), y2, some (.int (ct : Int)), some (.int (pa : Int)), some (.ref M), y6, y7] ∧ But a H H' ∧ PoolAt H' a l ns ∧ H L' = none ∧ H' L' = some (.lst (ws'.map V.str)) ∧ H' M = some (.lst (qs.map fun q => V.ref q.1)) ∧ PartsAt H' a M qs ∧ ws'.length ≤ 4 + v + sumL (qs.take v) ∧ ∀ w ∈ ws', WdB 13 w)
        ⟨L2, _, _, _, _, rfl, b0G.trans (But.same j1), pG.same j1, pG.none b0G hL2, eL2, j1 _ _ fG, gG.but (But.same j1), by simp, fun w h => ?_⟩ (fun v σ H' _ ⟨_, _, _, _, _, _, _, _, _, _, f, _⟩ => SqL.of f) ?_ ?_
      · rcases List.mem_cons.mp h with rfl | h
        · exact wdB_ok (by decide +kernel)
        rcases List.mem_cons.mp h with rfl | h
        · exact wdB_ok (nm2_ok _ hx9)
        rcases List.mem_cons.mp h with rfl | h
        · exact num13 (by omega)
        · rw [List.mem_singleton.mp h]
          exact num13 (by omega)
      · rintro v y σ HC HD hv ⟨L', ws', y2, y6, y7, rfl, bC, pC, nL', eC, fC, gC, lC, hC⟩ ⟨rfl, ey⟩
        rw [List.getElem?_map] at ey
        obtain ⟨q, eq, rfl⟩ := Option.map_eq_some_iff.mp ey
        obtain ⟨z1, z2, z3, z4⟩ := gC q (List.mem_of_getElem? eq)
        have hs := sumL_take eq
        have hall : sumL (qs.take v) + q.2.length ≤ sumL qs := by
          rw [← hs]
          exact sumL_le qs (v + 1)
        have lw : ws.length ≤ 300 := by omega
        have hv2 : v < 4 := by rw [List.length_map] at hv; omega
        refine ⟨_, rfl, _, rfl, big 2 (by decide), fun t3 ht3 => ?_⟩
        have j3 := same_new ht3 (.tup [V.int 66, V.int 9])
        have q3 := pC.ne ht3
        have nL1 := hp.ne nL'
        refine ⟨_, rfl, a, l, ns, 2, rfl, pC.same j3, by decide, by decide, fun rE HE rE0 rE1 bE pE => ?_⟩
        obtain ⟨se, ese, se0, se1⟩ : ∃ se : Int, atI [V.int 66, V.int 9] rE = some (.int se) ∧ 0 < se ∧ se ≤ 66 := by
          rcases (by omega : rE = 0 ∨ rE = 1) with h | h <;> rw [h]
          · exact ⟨66, rfl, by decide, by decide⟩
          · exact ⟨9, rfl, by decide, by decide⟩
        refine ⟨t3, _, _, _, rfl, rfl, SqT.of (bE _ _ upd_same q3.1), ese, a, l, ns, se, rfl, pE, se0, by omega, fun rF HF rF0 rF1 bF pF => ⟨rF, rfl, small_log rF0 (by omega), big 1 (by decide), fun L5 hL5 => ?_⟩⟩
        have bCF := (But.same (p := a) j3).trans (bE.trans bF)
        have eF := bCF _ _ eC nL1.1
        have fF := bCF _ _ fC nM.1
        have zF := bCF _ _ z1 z2
        have gF := gC.but bCF
        have j5 := same_new hL5 (.lst [V.str (numS rF)])
        refine ⟨L', L5, _, _, rfl, rfl, j5 _ _ eF, upd_same, big _ (by simp only [List.length_map, List.length_cons, List.length_nil]; omega), fun L6 hL6 => ?_⟩
        have j6 := j5.trans (same_new hL6 (.lst (ws'.map V.str ++ [V.str (numS rF)])))
        refine ⟨_, rfl, L6, q.1, _, _, rfl, rfl, upd_same, j6 _ _ zF, big _ (by simp only [List.length_append, List.length_map, List.length_cons, List.length_nil]; omega), fun L7 hL7 => ?_⟩
        have j7 := j6.trans (same_new hL7 (.lst (ws'.map V.str ++ [V.str (numS rF)] ++ q.2.map V.str)))
        have bF2 := bC.trans (bCF.trans (But.same j6))
        refine ⟨L7, ws' ++ [numS rF] ++ q.2, _, _, _, rfl, bC.trans (bCF.trans (But.same j7)), pF.same j7, (pF.same j6).none bF2 hL7, by rw [upd_same, List.map_append, List.map_append]; rfl, j7 _ _ fF, gF.but (But.same j7), by rw [hs]; simp only [List.length_append, List.length_cons, List.length_nil]; omega, fun w h => ?_⟩
        rcases List.mem_append.mp h with h | h
        · rcases List.mem_append.mp h with h | h
          · exact hC w h
          · rw [List.mem_singleton.mp h]
            exact num13 (by omega)
        · exact z4 w h
      · rintro σ HC ⟨L', ws', y2, y6, y7, rfl, bC, pC, nL', eC, fC, gC, lC, hC⟩
        rw [List.length_map, List.take_length] at lC
        exact ⟨L', ws', _, _, _, _, _, _, rfl, bC, pC, nL', eC, by omega, hC⟩
  · rintro σ H6 ⟨L, ws, y2, y3, y4, y5, y6, y7, rfl, b6, p6, hL, e6, l6, hw⟩
    exact ⟨_, rfl, q L ws H6 b6 p6 hL e6 (by omega) hw⟩
end
end Toy
set_option Elab.async false
set_option linter.all false
set_option maxRecDepth 100000
set_option maxHeartbeats 4000000
namespace Toy
open PySem L2 NdefX Gm Pz
open Mine hiding same_new
def cutM (xs : List V) (j k : Nat) : List V := (xs.take k).drop j
theorem cut_take (xs : List V) (k : Nat) : cutV xs none (some (k : Int)) = xs.take k := by
  unfold cutV
  have e : HT.sIx xs.length xs.length (some (k : Int)) = min k xs.length := by
    have : ¬ ((k : Int) < 0) := by omega
    simp [HT.sIx, this]
    try omega
  rw [e, show HT.sIx xs.length 0 none = 0 from rfl, List.drop_zero, Nat.sub_zero]
  by_cases h : k ≤ xs.length
  · rw [Nat.min_eq_left h]
  · rw [Nat.min_eq_right (by omega), List.take_length, List.take_of_length_le (by omega)]
theorem cut_drop (xs : List V) (k : Nat) : cutV xs (some (k : Int)) none = xs.drop k := by
  unfold cutV
  have e : HT.sIx xs.length 0 (some (k : Int)) = min k xs.length := by
    have : ¬ ((k : Int) < 0) := by omega
    simp [HT.sIx, this]
    try omega
  rw [e, show HT.sIx xs.length xs.length none = xs.length from rfl]
  by_cases h : k ≤ xs.length
  · rw [Nat.min_eq_left h, List.take_of_length_le (by rw [List.length_drop]; exact Nat.le_refl _)]
  · rw [Nat.min_eq_right (by omega), Nat.sub_self, List.take_zero, List.drop_eq_nil_of_le (by omega)]
theorem cut_some (xs : List V) (j k : Nat) : cutV xs (some (j : Int)) (some (k : Int)) = (xs.take k).drop j := by
  unfold cutV
  have e1 : HT.sIx xs.length 0 (some (j : Int)) = min j xs.length := by
    have : ¬ ((j : Int) < 0) := by omega
    simp [HT.sIx, this]
    try omega
  have e2 : HT.sIx xs.length xs.length (some (k : Int)) = min k xs.length := by
    have : ¬ ((k : Int) < 0) := by omega
    simp [HT.sIx, this]
    try omega
  rw [e1, e2]
  apply List.ext_getElem?
  intro n
  simp only [List.getElem?_take, List.getElem?_drop]
  by_cases h : j ≤ xs.length
  · rw [Nat.min_eq_left h]
    by_cases h2 : j + n < k
    · rw [if_pos h2]
      by_cases h3 : n < min k xs.length - j
      · rw [if_pos h3]
      · rw [if_neg h3, List.getElem?_eq_none (by omega)]
    · rw [if_neg h2, if_neg (by omega)]
  · rw [if_neg (by omega)]
    split
    · rw [List.getElem?_eq_none (by omega)]
    · rfl
theorem signs_add (a b : Str) : signs (a ++ b) = signs a ++ signs b := by
  show (a.cps ++ b.cps).toList = a.cps.toList ++ b.cps.toList
  exact Array.toList_append
theorem signs_cut (z : Str) (lo hi : Option Int) : signs (cutS z lo hi) = List.take (HT.sIx z.length z.length hi - HT.sIx z.length 0 lo) (List.drop (HT.sIx z.length 0 lo) (signs z)) := by
  unfold signs cutS
  simp
theorem one_word (ws : List Str) (k : Nat) (b : Nat) (hw : ∀ w ∈ ws, WdB b w) : ∃ ys z, (ws.take (k + 1)).drop k = ys ∧ (ys.map (·.length)).sum ≤ b ∧ Txt.join "" ys = z ∧ WdB b z ∧ ys.length ≤ 1 := by
  cases h : ws[k]? with
  | none =>
    refine ⟨[], "", ?_, Nat.zero_le _, rfl, ⟨Nat.zero_le _, by decide +kernel⟩, Nat.zero_le _⟩
    have := List.getElem?_eq_none_iff.mp h
    rw [List.drop_eq_nil_of_le (by rw [List.length_take]; omega)]
  | some x =>
    have hx := hw x (List.mem_of_getElem? h)
    have hk : k < ws.length := Nat.lt_of_not_le fun z => by rw [List.getElem?_eq_none z] at h; cases h
    refine ⟨[x], x, ?_, by have := hx.1; simpa using this, rfl, hx, Nat.le_refl _⟩
    rw [take_more h, List.drop_append_of_le_length (by rw [List.length_take]; omega), List.drop_eq_nil_of_le (by rw [List.length_take]; omega)]
    rfl
theorem sign_word {b : Nat} {z : Str} {at' d : Nat} {c : Nat} (h : WdB b z) (ha : at' ≤ z.length) (hc : c ≠ 32) : WdB (b + 1) (cutS z none (some (at' : Int)) ++ (⟨#[c]⟩ : Str) ++ cutS z (some ((at' + d : Nat) : Int)) none) := by
  have e : signs (cutS z none (some (at' : Int)) ++ (⟨#[c]⟩ : Str) ++ cutS z (some ((at' + d : Nat) : Int)) none) = signs (cutS z none (some (at' : Int))) ++ [c] ++ signs (cutS z (some ((at' + d : Nat) : Int)) none) := by
    rw [signs_add, signs_add]
    rfl
  have e1 : HT.sIx z.length z.length (some (at' : Int)) = at' := by
    have : ¬ ((at' : Int) < 0) := by omega
    simp [HT.sIx, this]
    try omega
  have e2 : at' ≤ HT.sIx z.length 0 (some ((at' + d : Nat) : Int)) ∨ z.length ≤ HT.sIx z.length 0 (some ((at' + d : Nat) : Int)) := by
    have : ¬ (((at' + d : Nat) : Int) < 0) := by omega
    have e3 : HT.sIx z.length 0 (some ((at' + d : Nat) : Int)) = min (at' + d) z.length := by
      simp [HT.sIx]
      rw [if_neg (by omega)]
      omega
    omega
  refine ⟨?_, fun m => ?_⟩
  · rw [← len_signs, e, signs_cut, signs_cut, e1]
    have hl := len_signs z
    have h1 := h.1
    simp only [List.length_append, List.length_take, List.length_drop, List.length_cons, List.length_nil]
    rcases e2 with e2 | e2 <;> omega
  · rw [e, signs_cut, signs_cut] at m
    rcases List.mem_append.mp m with m | m
    · rcases List.mem_append.mp m with m | m
      · exact h.2 (List.mem_of_mem_drop (List.mem_of_mem_take m))
      · exact hc (List.mem_singleton.mp m).symm
    · exact h.2 (List.mem_of_mem_drop (List.mem_of_mem_take m))
theorem cut_len (z : Str) (lo hi : Option Int) : (cutS z lo hi).length ≤ z.length := by
  rw [← len_signs, signs_cut, ← len_signs z]
  simp only [List.length_take, List.length_drop]
  omega
theorem add_len (x y : Str) : (x ++ y).length = x.length + y.length := by
  rw [← len_signs, signs_add, List.length_append, len_signs, len_signs]
def sgT : Str := "0123456789abmnosy+-_.,A"
theorem sgT_ok : ∀ c ∈ signs sgT, c ≠ 32 := by decide +kernel
theorem sgT_len : (signs sgT).length = 23 ∧ sgT.length = 23 := by decide +kernel
def spChanged : Sp := fun vs H Q _ => ∃ (a l : Addr) (ns : List Int) (L : Addr) (ws : List Str), vs = [.ref a, .ref L] ∧ PoolAt H a l ns ∧ L ≠ a ∧ H L = some (.lst (ws.map V.str)) ∧ ws.length ≤ 1300 ∧ (∀ w ∈ ws, WdB 13 w) ∧ ∀ (L' : Addr) (ws' : List Str) (H' : Hp), But a H H' → PoolAt H' a l ns → L' ≠ a → H' L' = some (.lst (ws'.map V.str)) → ws'.length ≤ 1310 → (∀ w ∈ ws', WdB 16 w) → Q (.ref L') H'
section
variable {P : Program} {w : World} {K : PySem.W.Frag} {mg : Str → Option Value} {base : Heap} {file : Str}
theorem ok_changed (T : Txt K mg file) : FnOk P w K mg base CX0 3 T.a_law_changed T.fd_law_changed ["pool", "words"] spChanged := by
  have G_law_draw : FnOk P w K mg base CX0 1 T.a_law_draw T.fd_law_draw ["pool", "size"] spDraw := ok_draw T
  have G_law_menu : FnOk P w K mg base CX0 2 T.a_law_menu T.fd_law_menu ["pool"] spMenu := ok_menu T
  refine T.F_law_changed.ok sc_law_changed (fun vs H Q E h => ?_) (fun cdv A outer s' H vs Q E hr h => ?_)
  · obtain ⟨a, l, ns, L, ws, rfl, _⟩ := h
    rfl
  obtain ⟨a, l, ns, L, ws, rfl, hp, nL, eL, lw, hw, q⟩ := h
  refine ⟨_, (pss_cons (ps_for PassesOwn.never rfl (pi_range1 (by rfl) T.z_range (pa_cons (pe_call G_law_draw (hr.mono (by decide)) rfl T.g_law_draw T.k_law_draw T.b_law_draw .nil pass0 (pa_cons (pv 0) (pa_cons pe_int pa_nil))) pa_nil)) (pg_name (i := 2) sc_law_changed.nd rfl (Or.inl rfl))
      (pss_cons (ps_set (i := 3) sc_law_changed.nd rfl (Or.inl rfl) (pe_call G_law_draw (hr.mono (by decide)) rfl T.g_law_draw T.k_law_draw T.b_law_draw .nil pass0 (pa_cons (pv 0) (pa_cons pe_int pa_nil))))
    (pss_cons (ps_set (i := 4) sc_law_changed.nd rfl (Or.inl rfl) (pe_call G_law_draw (hr.mono (by decide)) rfl T.g_law_draw T.k_law_draw T.b_law_draw .nil pass0 (pa_cons (pv 0) (pa_cons (pe_op op_add (pe_callB call_len_seq (by rfl) T.z_len (by decide +kernel) (pa_cons (pv 1) pa_nil)) pe_int) pa_nil))))
    (pss_cons (ps_set (i := 5) sc_law_changed.nd rfl (Or.inl rfl) (pe_call G_law_draw (hr.mono (by decide)) rfl T.g_law_draw T.k_law_draw T.b_law_draw .nil pass0 (pa_cons (pv 0) (pa_cons (pe_op op_add (pe_callB call_len_seq (by rfl) T.z_len (by decide +kernel) (pa_cons (pv 1) pa_nil)) pe_int) pa_nil))))
    (pss_one (ps_if (pt_cmpR op_eq (pv 3) pe_int (nomark _))
      (pss_one (ps_set (i := 1) sc_law_changed.nd rfl (Or.inl rfl) (pe_op op_cat (pe_slice sl_list (pv 1) po_none (po_some (pv 4))) (pe_slice sl_list (pv 1) (po_some (pe_op op_add (pv 4) pe_int)) po_none))))
      (pss_one (ps_if (pt_cmpR op_eq (pv 3) pe_int (nomark _))
      (pss_one (ps_set (i := 1) sc_law_changed.nd rfl (Or.inl rfl) (pe_op op_cat (pe_op op_cat (pe_slice sl_list (pv 1) po_none (po_some (pv 4))) (pe_lst (pa_cons (pe_call G_law_menu (hr.mono (by decide)) rfl T.g_law_menu T.k_law_menu T.b_law_menu .nil pass0 (pa_cons (pv 0) pa_nil)) pa_nil))) (pe_slice sl_list (pv 1) (po_some (pv 4)) po_none))))
      (pss_one (ps_if (pt_cmpR op_eq (pv 3) pe_int (nomark _))
      (pss_one (ps_set (i := 1) sc_law_changed.nd rfl (Or.inl rfl) (pe_op op_cat (pe_op op_cat (pe_slice sl_list (pv 1) po_none (po_some (pv 4))) (pe_lst (pa_cons (pe_call G_law_menu (hr.mono (by decide)) rfl T.g_law_menu T.k_law_menu T.b_law_menu .nil pass0 (pa_cons (pv 0) pa_nil)) pa_nil))) (pe_slice sl_list (pv 1) (po_some (pe_op op_add (pv 4) pe_int)) po_none))))
      (pss_one (ps_if (pt_cmpR op_eq (pv 3) pe_int (nomark _))
      (pss_one (ps_set (i := 1) sc_law_changed.nd rfl (Or.inl rfl) (pe_op op_cat (pe_op op_cat (pe_slice sl_list (pv 1) po_none (po_some (pv 4))) (pe_slice sl_list (pv 1) (po_some (pv 5)) (po_some (pe_op op_add (pv 5) pe_int)))) (pe_slice sl_list (pv 1) (po_some (pe_op op_add (pv 4) pe_int)) po_none))))
      (pss_one (ps_if (pt_cmpR op_eq (pv 3) pe_int (nomark _))
      (pss_one (ps_set (i := 1) sc_law_changed.nd rfl (Or.inl rfl) (pe_op op_cat (pe_op op_cat (pe_op op_cat (pe_slice sl_list (pv 1) po_none (po_some (pv 4))) (pe_slice sl_list (pv 1) (po_some (pe_op op_add (pv 4) pe_int)) (po_some (pe_op op_add (pv 4) pe_int)))) (pe_slice sl_list (pv 1) (po_some (pv 4)) (po_some (pe_op op_add (pv 4) pe_int)))) (pe_slice sl_list (pv 1) (po_some (pe_op op_add (pv 4) pe_int)) po_none))))
      (pss_cons (ps_set (i := 6) sc_law_changed.nd rfl (Or.inl rfl) (pe_join pe_str (pe_slice sl_list (pv 1) (po_some (pv 4)) (po_some (pe_op op_add (pv 4) pe_int)))))
    (pss_cons (ps_set (i := 7) sc_law_changed.nd rfl (Or.inl rfl) (pe_call G_law_draw (hr.mono (by decide)) rfl T.g_law_draw T.k_law_draw T.b_law_draw .nil pass0 (pa_cons (pv 0) (pa_cons (pe_op op_add (pe_callB call_len_str (by rfl) T.z_len (by decide +kernel) (pa_cons (pv 6) pa_nil)) pe_int) pa_nil))))
    (pss_cons (ps_set (i := 8) sc_law_changed.nd rfl (Or.inl rfl) pe_str)
    (pss_cons (ps_set (i := 6) sc_law_changed.nd rfl (Or.inl rfl) (pe_op op_add_str (pe_op op_add_str (pe_slice sl_str (pv 6) po_none (po_some (pv 7))) (pe_ix ix_str (pv 8) (pe_call G_law_draw (hr.mono (by decide)) rfl T.g_law_draw T.k_law_draw T.b_law_draw .nil pass0 (pa_cons (pv 0) (pa_cons (pe_callB call_len_str (by rfl) T.z_len (by decide +kernel) (pa_cons (pv 8) pa_nil)) pa_nil))) (fun _ _ => rfl))) (pe_slice sl_str (pv 6) (po_some (pe_op op_add (pv 7) (pe_call G_law_draw (hr.mono (by decide)) rfl T.g_law_draw T.k_law_draw T.b_law_draw .nil pass0 (pa_cons (pv 0) (pa_cons pe_int pa_nil))))) po_none)))
    (pss_one (ps_set (i := 1) sc_law_changed.nd rfl (Or.inl rfl) (pe_op op_cat (pe_op op_cat (pe_slice sl_list (pv 1) po_none (po_some (pv 4))) (pe_lst (pa_cons (pv 6) pa_nil))) (pe_slice sl_list (pv 1) (po_some (pe_op op_add (pv 4) pe_int)) po_none))))))))))))))))))))))
    (pss_one (ps_ret (pv 1)))), ?_⟩
  have big : ∀ n : Nat, n ≤ 100000 → n ≤ sizeLine := fun n h => Nat.le_trans h (by decide)
  refine ⟨_, rfl, a, l, ns, 4, rfl, hp, by decide, by decide, fun r H1 r0 r1 b1 p1 => ?_⟩
  obtain ⟨n, en⟩ : ∃ n : Nat, r = (n : Int) := ⟨r.toNat, by omega⟩
  refine ⟨_, rfl, by omega, by omega, ?_⟩
  rw [show r.toNat = n by omega]
  refine for_range (lo := 0) (n := n) (fun t σ H' => ∃ (L : Addr) (ws : List Str) (y2 y3 y4 y5 y6 y7 y8 : Option V), σ = [some (.ref a), some (.ref L), y2, y3, y4, y5, y6, y7, y8] ∧ But a H H' ∧ PoolAt H' a l ns ∧ L ≠ a ∧ H' L = some (.lst (ws.map V.str)) ∧ ws.length ≤ 1300 + t ∧ (∀ w ∈ ws, WdB (13 + t) w)) ⟨L, ws, none, none, none, none, none, none, none, rfl, b1, p1, nL, b1 _ _ eL nL, lw, hw⟩ ?_ ?_
  · clear eL b1 p1 hw lw nL
    rintro t σ H2 ht ⟨L, ws, y2, y3, y4, y5, y6, y7, y8, rfl, b2, p2, nL, e2, lw, hw⟩
    refine ⟨_, rfl, a, l, ns, 6, rfl, p2, by decide, by decide, fun r3 H3 r30 r31 b3 p3 => ?_⟩
    have e3 := b3 _ _ e2 nL
    have ll : (((ws.map V.str).length : Nat) : Int) = (ws.length : Int) := by rw [List.length_map]
    refine ⟨_, rfl, _, rfl, L, _, rfl, .inl (SqL.of e3), _, _, rfl, rfl, a, l, ns, _, rfl, p3, by omega, by omega, fun r4 H4 r40 r41 b4 p4 => ?_⟩
    obtain ⟨pl, epl⟩ : ∃ pl : Nat, r4 = (pl : Int) := ⟨r4.toNat, by omega⟩
    have e4 := b4 _ _ e3 nL
    refine ⟨_, rfl, _, rfl, L, _, rfl, .inl (SqL.of e4), _, _, rfl, rfl, a, l, ns, _, rfl, p4, by omega, by omega, fun r5 H5 r50 r51 b5 p5 => ?_⟩
    obtain ⟨ot, eot⟩ : ∃ ot : Nat, r5 = (ot : Int) := ⟨r5.toNat, by omega⟩
    subst epl eot
    have e5 := b5 _ _ e4 nL
    have b25 := b2.trans (b3.trans (b4.trans b5))
    have ep : (pl : Int) + 1 = ((pl + 1 : Nat) : Int) := by omega
    have eo : (ot : Int) + 1 = ((ot + 1 : Nat) : Int) := by omega
    -- a new list of words
    have fin : ∀ (z6 z7 z8 : Option V) (L' : Addr) (ws' : List Str) (H' : Hp), But a H5 H' → PoolAt H' a l ns → L' ≠ a → H' L' = some (.lst (ws'.map V.str)) → ws'.length ≤ ws.length + 1 → (∀ w ∈ ws', WdB (13 + (t + 1)) w) →
        ∃ (L : Addr) (ws : List Str) (y2 y3 y4 y5 y6 y7 y8 : Option V), ([some (.ref a), some (.ref L'), some (.int (0 + (t : Int))), some (.int r3), some (.int (pl : Int)), some (.int (ot : Int)), z6, z7, z8] : List (Option V)) = [some (.ref a), some (.ref L), y2, y3, y4, y5, y6, y7, y8] ∧ But a H H' ∧ PoolAt H' a l ns ∧ L ≠ a ∧ H' L = some (.lst (ws.map V.str)) ∧ ws.length ≤ 1300 + (t + 1) ∧ (∀ w ∈ ws, WdB (13 + (t + 1)) w) := fun y6 y7 y8 L' ws' H' b p n e le hw' => ⟨L', ws', _, _, _, _, _, _, _, rfl, b25.trans b, p, n, e, by omega, hw'⟩
    have up : ∀ w ∈ ws, WdB (13 + (t + 1)) w := fun w h => (hw w h).mono (by omega)
    clear e2 e3 e4 p2 p3 p4 b2 b3 b4 b5 b25
    refine ⟨_, rfl, rfl, _, rfl, ite2 (fun _ => ?_) (fun _ => ?_)⟩
    · refine ⟨_, rfl, _, rfl, _, rfl, L, _, rfl, SqL.of e5, fun p1 hp1 => ?_⟩
      rw [cut_take]
      have j1 := same_new hp1 (.lst ((ws.map V.str).take pl))
      refine ⟨_, rfl, _, rfl, _, _, rfl, rfl, _, rfl, L, _, rfl, SqL.of (j1 _ _ e5), fun p2 hp2 => ?_⟩
      rw [ep, cut_drop]
      have j2 := same_new hp2 (.lst ((ws.map V.str).drop (pl + 1)))
      refine ⟨p1, p2, _, _, rfl, rfl, j2 _ _ upd_same, upd_same, big _ (by simp only [List.length_take, List.length_drop, List.length_map]; omega), fun p3 hp3 => ?_⟩
      have j3 := (j1.trans j2).trans (same_new hp3 (.lst ((ws.map V.str).take pl ++ (ws.map V.str).drop (pl + 1))))
      refine fin _ _ _ p3 (ws.take pl ++ ws.drop (pl + 1)) _ (But.same j3) (p5.same j3) ((p5.same (j1.trans j2)).ne hp3).1 (by rw [upd_same, List.map_append, List.map_take, List.map_drop]) (by simp only [List.length_append, List.length_take, List.length_drop]; omega) (fun w h => ?_)
      rcases List.mem_append.mp h with h | h
      · exact up w (List.mem_of_mem_take h)
      · exact up w (List.mem_of_mem_drop h)
    refine ⟨_, rfl, rfl, _, rfl, ite2 (fun _ => ?_) (fun _ => ?_)⟩
    · refine ⟨_, rfl, _, rfl, _, rfl, L, _, rfl, SqL.of e5, fun p1 hp1 => ?_⟩
      rw [cut_take]
      have j1 := same_new hp1 (.lst ((ws.map V.str).take pl))
      have n1 := p5.ne hp1
      refine ⟨_, rfl, a, l, ns, rfl, p5.same j1, fun x H6 b6 p6 hx => ?_⟩
      have e16 := b6 _ _ (upd_same (H := H5) (a := p1) (o := .lst ((ws.map V.str).take pl))) n1.1
      have e6 := b6 _ _ (j1 _ _ e5) nL
      have b56 : But a H5 H6 := (But.same j1).trans b6
      refine ⟨big 1 (by decide), fun p2 hp2 => ?_⟩
      have j2 := same_new hp2 (.lst [V.str x])
      refine ⟨p1, p2, _, _, rfl, rfl, j2 _ _ e16, upd_same, big _ (by simp only [List.length_append, List.length_take, List.length_drop, List.length_map, List.length_cons, List.length_nil]; omega), fun p3 hp3 => ?_⟩
      have jA := j2.trans (same_new hp3 (.lst ((ws.map V.str).take pl ++ [V.str x])))
      have eA := e6
      refine ⟨_, rfl, _, rfl, _, rfl, L, _, rfl, SqL.of (jA _ _ eA), fun p5' hp5 => ?_⟩
      rw [cut_drop]
      have jB := jA.trans (same_new hp5 (.lst ((ws.map V.str).drop pl)))
      refine ⟨p3, p5', _, _, rfl, rfl, same_new hp5 _ _ _ upd_same, upd_same, big _ (by simp only [List.length_append, List.length_take, List.length_drop, List.length_map, List.length_cons, List.length_nil]; omega), fun p7 hp7 => ?_⟩
      have jC := jB.trans (same_new hp7 (.lst ((ws.map V.str).take pl ++ [V.str x] ++ (ws.map V.str).drop pl)))
      refine fin _ _ _ p7 (ws.take pl ++ [x] ++ ws.drop pl) _ (b56.trans (But.same jC)) (p6.same jC) ((p6.same jB).ne hp7).1 (by rw [upd_same, List.map_append, List.map_append, List.map_take, List.map_drop]; rfl) (by simp only [List.length_append, List.length_take, List.length_drop, List.length_map, List.length_cons, List.length_nil]; omega) (fun w h => ?_)
      rcases List.mem_append.mp h with h | h
      · rcases List.mem_append.mp h with h | h
        · exact up w (List.mem_of_mem_take h)
        · rw [List.mem_singleton.mp h]; exact hx.mono (by omega)
      · exact up w (List.mem_of_mem_drop h)
    refine ⟨_, rfl, rfl, _, rfl, ite2 (fun _ => ?_) (fun _ => ?_)⟩
    · refine ⟨_, rfl, _, rfl, _, rfl, L, _, rfl, SqL.of e5, fun p1 hp1 => ?_⟩
      rw [cut_take]
      have j1 := same_new hp1 (.lst ((ws.map V.str).take pl))
      have n1 := p5.ne hp1
      refine ⟨_, rfl, a, l, ns, rfl, p5.same j1, fun x H6 b6 p6 hx => ?_⟩
      have e16 := b6 _ _ (upd_same (H := H5) (a := p1) (o := .lst ((ws.map V.str).take pl))) n1.1
      have e6 := b6 _ _ (j1 _ _ e5) nL
      have b56 : But a H5 H6 := (But.same j1).trans b6
      refine ⟨big 1 (by decide), fun p2 hp2 => ?_⟩
      have j2 := same_new hp2 (.lst [V.str x])
      refine ⟨p1, p2, _, _, rfl, rfl, j2 _ _ e16, upd_same, big _ (by simp only [List.length_append, List.length_take, List.length_drop, List.length_map, List.length_cons, List.length_nil]; omega), fun p3 hp3 => ?_⟩
      have jA := j2.trans (same_new hp3 (.lst ((ws.map V.str).take pl ++ [V.str x])))
      have eA := e6
      refine ⟨_, rfl, _, rfl, _, _, rfl, rfl, _, rfl, L, _, rfl, SqL.of (jA _ _ eA), fun p5' hp5 => ?_⟩
      rw [ep, cut_drop]
      have jB := jA.trans (same_new hp5 (.lst ((ws.map V.str).drop (pl + 1))))
      refine ⟨p3, p5', _, _, rfl, rfl, same_new hp5 _ _ _ upd_same, upd_same, big _ (by simp only [List.length_append, List.length_take, List.length_drop, List.length_map, List.length_cons, List.length_nil]; omega), fun p7 hp7 => ?_⟩
      have jC := jB.trans (same_new hp7 (.lst ((ws.map V.str).take pl ++ [V.str x] ++ (ws.map V.str).drop (pl + 1))))
      refine fin _ _ _ p7 (ws.take pl ++ [x] ++ ws.drop (pl + 1)) _ (b56.trans (But.same jC)) (p6.same jC) ((p6.same jB).ne hp7).1 (by rw [upd_same, List.map_append, List.map_append, List.map_take, List.map_drop]; rfl) (by simp only [List.length_append, List.length_take, List.length_drop, List.length_map, List.length_cons, List.length_nil]; omega) (fun w h => ?_)
      rcases List.mem_append.mp h with h | h
      · rcases List.mem_append.mp h with h | h
        · exact up w (List.mem_of_mem_take h)
        · rw [List.mem_singleton.mp h]; exact hx.mono (by omega)
      · exact up w (List.mem_of_mem_drop h)
    refine ⟨_, rfl, rfl, _, rfl, ite2 (fun _ => ?_) (fun _ => ?_)⟩
    · refine ⟨_, rfl, _, rfl, _, rfl, L, _, rfl, SqL.of e5, fun p1 hp1 => ?_⟩
      rw [cut_take]
      have j1 := same_new hp1 (.lst ((ws.map V.str).take pl))
      refine ⟨_, rfl, _, rfl, _, rfl, _, rfl, _, _, rfl, rfl, _, rfl, L, _, rfl, SqL.of (j1 _ _ e5), fun p2 hp2 => ?_⟩
      rw [eo, cut_some]
      have j2 := same_new hp2 (.lst (((ws.map V.str).take (ot + 1)).drop ot))
      refine ⟨p1, p2, _, _, rfl, rfl, j2 _ _ upd_same, upd_same, big _ (by simp only [List.length_append, List.length_take, List.length_drop, List.length_map, List.length_cons, List.length_nil]; omega), fun p3 hp3 => ?_⟩
      have jA := (j1.trans j2).trans (same_new hp3 (.lst ((ws.map V.str).take pl ++ ((ws.map V.str).take (ot + 1)).drop ot)))
      refine ⟨_, rfl, _, rfl, _, _, rfl, rfl, _, rfl, L, _, rfl, SqL.of (jA _ _ e5), fun p5' hp5 => ?_⟩
      rw [ep, cut_drop]
      have jB := jA.trans (same_new hp5 (.lst ((ws.map V.str).drop (pl + 1))))
      refine ⟨p3, p5', _, _, rfl, rfl, same_new hp5 _ _ _ upd_same, upd_same, big _ (by simp only [List.length_append, List.length_take, List.length_drop, List.length_map, List.length_cons, List.length_nil]; omega), fun p7 hp7 => ?_⟩
      have jC := jB.trans (same_new hp7 (.lst ((ws.map V.str).take pl ++ ((ws.map V.str).take (ot + 1)).drop ot ++ (ws.map V.str).drop (pl + 1))))
      refine fin _ _ _ p7 (ws.take pl ++ (ws.take (ot + 1)).drop ot ++ ws.drop (pl + 1)) _ (But.same jC) (p5.same jC) ((p5.same jB).ne hp7).1 (by rw [upd_same, List.map_append, List.map_append, List.map_take, List.map_drop, List.map_drop, List.map_take]) (by simp only [List.length_append, List.length_take, List.length_drop, List.length_map, List.length_cons, List.length_nil]; omega) (fun w h => ?_)
      rcases List.mem_append.mp h with h | h
      · rcases List.mem_append.mp h with h | h
        · exact up w (List.mem_of_mem_take h)
        · exact up w (List.mem_of_mem_take (List.mem_of_mem_drop h))
      · exact up w (List.mem_of_mem_drop h)
    refine ⟨_, rfl, rfl, _, rfl, ite2 (fun _ => ?_) (fun _ => ?_)⟩
    · have ep2 : (pl : Int) + 2 = ((pl + 2 : Nat) : Int) := by omega
      refine ⟨_, rfl, _, rfl, _, rfl, L, _, rfl, SqL.of e5, fun p1 hp1 => ?_⟩
      rw [cut_take]
      have j1 := same_new hp1 (.lst ((ws.map V.str).take pl))
      refine ⟨_, rfl, _, rfl, _, _, rfl, rfl, _, rfl, _, rfl, _, _, rfl, rfl, _, rfl, L, _, rfl, SqL.of (j1 _ _ e5), fun p2 hp2 => ?_⟩
      rw [ep, ep2, cut_some]
      have j2 := j1.trans (same_new hp2 (.lst (((ws.map V.str).take (pl + 2)).drop (pl + 1))))
      refine ⟨p1, p2, _, _, rfl, rfl, same_new hp2 _ _ _ upd_same, upd_same, big _ (by simp only [List.length_append, List.length_take, List.length_drop, List.length_map, List.length_cons, List.length_nil]; omega), fun p3 hp3 => ?_⟩
      have j3 := j2.trans (same_new hp3 (.lst ((ws.map V.str).take pl ++ ((ws.map V.str).take (pl + 2)).drop (pl + 1))))
      refine ⟨_, rfl, _, rfl, _, rfl, _, rfl, _, _, rfl, rfl, _, rfl, L, _, rfl, SqL.of (j3 _ _ e5), fun p4' hp4 => ?_⟩
      rw [ep, cut_some]
      have j4 := j3.trans (same_new hp4 (.lst (((ws.map V.str).take (pl + 1)).drop pl)))
      refine ⟨p3, p4', _, _, rfl, rfl, same_new hp4 _ _ _ upd_same, upd_same, big _ (by simp only [List.length_append, List.length_take, List.length_drop, List.length_map, List.length_cons, List.length_nil]; omega), fun p5' hp5 => ?_⟩
      have j5 := j4.trans (same_new hp5 (.lst ((ws.map V.str).take pl ++ ((ws.map V.str).take (pl + 2)).drop (pl + 1) ++ ((ws.map V.str).take (pl + 1)).drop pl)))
      refine ⟨_, rfl, _, rfl, _, _, rfl, rfl, _, rfl, L, _, rfl, SqL.of (j5 _ _ e5), fun p6' hp6 => ?_⟩
      rw [ep2, cut_drop]
      have j6 := j5.trans (same_new hp6 (.lst ((ws.map V.str).drop (pl + 2))))
      refine ⟨p5', p6', _, _, rfl, rfl, same_new hp6 _ _ _ upd_same, upd_same, big _ (by simp only [List.length_append, List.length_take, List.length_drop, List.length_map, List.length_cons, List.length_nil]; omega), fun p7 hp7 => ?_⟩
      have j7 := j6.trans (same_new hp7 (.lst ((ws.map V.str).take pl ++ ((ws.map V.str).take (pl + 2)).drop (pl + 1) ++ ((ws.map V.str).take (pl + 1)).drop pl ++ (ws.map V.str).drop (pl + 2))))
      refine fin _ _ _ p7 (ws.take pl ++ (ws.take (pl + 2)).drop (pl + 1) ++ (ws.take (pl + 1)).drop pl ++ ws.drop (pl + 2)) _ (But.same j7) (p5.same j7) ((p5.same j6).ne hp7).1 (by rw [upd_same]; simp only [List.map_append, List.map_take, List.map_drop]) (by simp only [List.length_append, List.length_take, List.length_drop, List.length_map, List.length_cons, List.length_nil]; omega) (fun w h => ?_)
      rcases List.mem_append.mp h with h | h
      · rcases List.mem_append.mp h with h | h
        · rcases List.mem_append.mp h with h | h
          · exact up w (List.mem_of_mem_take h)
          · exact up w (List.mem_of_mem_take (List.mem_of_mem_drop h))
        · exact up w (List.mem_of_mem_take (List.mem_of_mem_drop h))
      · exact up w (List.mem_of_mem_drop h)
    obtain ⟨ys, z, ey, sy, ej, hz, ly⟩ := one_word ws pl (13 + t) hw
    refine ⟨⟨_, rfl⟩, _, rfl, _, rfl, _, rfl, _, rfl, _, _, rfl, rfl, _, rfl, L, _, rfl, SqL.of e5, fun p1 hp1 => ?_⟩
    rw [ep, cut_some]
    have j1 := same_new hp1 (.lst (((ws.map V.str).take (pl + 1)).drop pl))
    refine ⟨_, p1, ys, rfl, rfl, .inl (SqL.of (by rw [upd_same, ← ey, List.map_drop, List.map_take])), by rw [show ("" : Str).length = 0 from by decide +kernel, Nat.mul_zero]; omega, ?_⟩
    rw [ej]
    have hz1 := hz.1
    refine ⟨_, rfl, _, rfl, z, rfl, Nat.le_trans (show z.length ≤ 100 by omega) (by decide), _, _, rfl, rfl, a, l, ns, _, rfl, p5.same j1, by omega, by omega, fun r6 H6 r60 r61 b6 p6 => ?_⟩
    obtain ⟨at', eat⟩ : ∃ at' : Nat, r6 = (at' : Int) := ⟨r6.toNat, by omega⟩
    subst eat
    have e6 := b6 _ _ (j1 _ _ e5) nL
    have b56 : But a H5 H6 := (But.same j1).trans b6
    have zl : z.length ≤ sizeLine := Nat.le_trans (show z.length ≤ 100 by omega) (by decide)
    -- the word with one sign more or another one
    refine ⟨_, rfl, _, rfl, _, rfl, z, rfl, zl, ?_⟩
    refine ⟨_, rfl, _, rfl, _, rfl, sgT, rfl, by decide +kernel, a, l, ns, _, rfl, p6, by decide +kernel, by decide +kernel, fun r7 H7 r70 r71 b7 p7 => ?_⟩
    obtain ⟨c, ec, hc⟩ : ∃ c, atI (signs sgT) r7 = some c ∧ c ≠ 32 := by
      have hk : r7.toNat < (signs sgT).length := by rw [sgT_len.1]; have : r7 < ((sgT.length : Nat) : Int) := r71; rw [sgT_len.2] at this; omega
      have h := atI_nat (j := r7.toNat) (List.getElem?_eq_getElem hk)
      rw [show ((r7.toNat : Nat) : Int) = r7 by omega] at h
      exact ⟨(signs sgT)[r7.toNat], h, sgT_ok _ (List.getElem_mem _)⟩
    have c1 := cut_len z none (some (at' : Int))
    refine ⟨sgT, r7, c, rfl, rfl, by decide +kernel, ec, _, _, rfl, rfl, Nat.le_trans (show (cutS z none (some (at' : Int))).length + 1 ≤ 100 by omega) (by decide), ?_⟩
    refine ⟨_, rfl, _, rfl, _, rfl, a, l, ns, 2, rfl, p7, by decide, by decide, fun r8 H8 r80 r81 b8 p8 => ?_⟩
    obtain ⟨d, ed⟩ : ∃ d : Nat, r8 = (d : Int) := ⟨r8.toNat, by omega⟩
    subst ed
    have ead : (at' : Int) + (d : Int) = ((at' + d : Nat) : Int) := by omega
    have hx := sign_word (d := d) hz (show at' ≤ z.length by omega) hc
    have c2 := cut_len z (some ((at' + d : Nat) : Int)) none
    refine ⟨_, _, rfl, rfl, _, rfl, z, rfl, zl, ?_⟩
    dsimp only
    rw [ead]
    refine ⟨_, _, rfl, rfl, Nat.le_trans (show (cutS z none (some (at' : Int)) ++ (⟨#[c]⟩ : Str)).length + (cutS z (some ((at' + d : Nat) : Int)) none).length ≤ 200 by rw [add_len]; show _ + 1 + _ ≤ 200; omega) (by decide), ?_⟩
    generalize cutS z none (some (at' : Int)) ++ (⟨#[c]⟩ : Str) ++ cutS z (some ((at' + d : Nat) : Int)) none = x at hx ⊢
    have e8 := b8 _ _ (b7 _ _ e6 nL) nL
    have b58 := b56.trans (b7.trans b8)
    clear e5 e6 b6 b7 b8 b56
    refine ⟨_, rfl, _, rfl, _, rfl, L, _, rfl, SqL.of e8, fun q1 hq1 => ?_⟩
    rw [cut_take]
    have i1 := same_new hq1 (.lst ((ws.map V.str).take pl))
    refine ⟨_, rfl, big 1 (by decide), fun q2 hq2 => ?_⟩
    have i2 := i1.trans (same_new hq2 (.lst [V.str x]))
    refine ⟨q1, q2, _, _, rfl, rfl, same_new hq2 _ _ _ upd_same, upd_same, big _ (by simp only [List.length_append, List.length_take, List.length_drop, List.length_map, List.length_cons, List.length_nil]; omega), fun q3 hq3 => ?_⟩
    have i3 := i2.trans (same_new hq3 (.lst ((ws.map V.str).take pl ++ [V.str x])))
    refine ⟨_, rfl, _, rfl, _, _, rfl, rfl, _, rfl, L, _, rfl, SqL.of (i3 _ _ e8), fun q5 hq5 => ?_⟩
    rw [ep, cut_drop]
    have i4 := i3.trans (same_new hq5 (.lst ((ws.map V.str).drop (pl + 1))))
    refine ⟨q3, q5, _, _, rfl, rfl, same_new hq5 _ _ _ upd_same, upd_same, big _ (by simp only [List.length_append, List.length_take, List.length_drop, List.length_map, List.length_cons, List.length_nil]; omega), fun q7 hq7 => ?_⟩
    have i5 := i4.trans (same_new hq7 (.lst ((ws.map V.str).take pl ++ [V.str x] ++ (ws.map V.str).drop (pl + 1))))
    refine fin _ _ _ q7 (ws.take pl ++ [x] ++ ws.drop (pl + 1)) _ (b58.trans (But.same i5)) (p8.same i5) ((p8.same i4).ne hq7).1 (by rw [upd_same, List.map_append, List.map_append, List.map_take, List.map_drop]; rfl) (by simp only [List.length_append, List.length_take, List.length_drop, List.length_map, List.length_cons, List.length_nil]; omega) (fun w h => ?_)
    rcases List.mem_append.mp h with h | h
    · rcases List.mem_append.mp h with h | h
      · exact up w (List.mem_of_mem_take h)
      · rw [List.mem_singleton.mp h]; exact hx.mono (by omega)
    · exact up w (List.mem_of_mem_drop h)
  · rintro σ H2 ⟨L, ws, y2, y3, y4, y5, y6, y7, y8, rfl, b2, p2, nL, e2, lw, hw⟩
    exact ⟨_, rfl, q L ws H2 b2 p2 nL e2 (by omega) fun w h => (hw w h).mono (by omega)⟩
end
end Toy
set_option Elab.async false
set_option linter.all false
set_option maxRecDepth 100000
set_option maxHeartbeats 4000000
/-! A def that lets nothing out, called in an except suite whatever is known of the exception: pinned there, nothing else. -/
namespace AnyF
open PySem PySem.Spec PyProof.Rows L2 L2H
/-- what such a def promises -/
structure FnA (P : Program) (w : World) (K : PySem.W.Frag) (mg : Str → Option Value) (base : Heap) (k : Nat) (f : Addr) (fd : FuncData) (ps : List Str) (sp : Sp) : Prop where
  len : ∀ vs H Q E, sp vs H Q E → vs.length = ps.length
  run : ∀ (A : Around) (outer : List Env) (s : Shared) (H : Hp) (args : Args) (us : List Value) (vs : List V) (Q : VK) (E : XK) (p : Addr × Obj), RoomH k A → PinOk outer H s p →
    Env0 P w K mg base A outer s H → BindsTo s fd args (ps.zip us) → Vals vs us → sp vs H Q E → codeAny (model P w) A (.call (.ref f) args) (CR CX0 outer P w H s Q E) s
section
variable {P : Program} {w : World} {K : PySem.W.Frag} {mg : Str → Option Value} {base : Heap} {x qual : Str} {st : Stmt} {f : Addr} {fd : FuncData} {N ps : List Str} {k : Nat} {sp : Sp}
theorem fnA_of (F : Fun K x qual st f fd) (S : FnScope N ps (defScope st)) (len : ∀ vs H Q E, sp vs H Q E → vs.length = ps.length)
    (hbody : ∀ (cd : Value) (A : Around) (outer : List Env) (s : Shared) (H : Hp) (vs : List V) (Q : VK) (E : XK) (p : Addr × Obj), RoomH k (A.deeper (envOfC qual (defScope st) s.heap.objs.size f cd)) → sp vs H Q E →
      ∃ t, PSs (cxH CX0 P w K mg base N qual (defScope st) f cd A outer s H E p) (defBody st) t ∧ t { nx := fun _ H' => Q .non H', rt := Q } (L2.start N vs) H) : FnA P w K mg base (k + 1) f fd ps sp := by
  obtain ⟨oc, od, kV, doc, pm, an, cd, ct, osl, efd, lk, hcode⟩ := F.ex
  subst efd
  constructor
  · exact len
  intro A outer s H args us vs Q E p room pin env bind vals hsp
  have inK : K.In s.heap := env.mod.kin.keeps (fun b o z => And.left (env.bs b o z))
  have free : s.heap.NoLimit := env.mod.nolimit.keeps (fun b o z => And.left (env.bs b o z))
  refine codeAny_call_function room.depth (inK _ _ lk) rfl S.co S.gen rfl (PySem.W.codeRec_of inK hcode) (bind _ _ _ _ ?bound)
  refine wpAny_newFunctionEnv_cells S.kind ?kinds ?body
  case kinds =>
    rintro ⟨n, v⟩ hy
    cases S.par n (List.of_mem_zip hy).1 with
    | inl q => exact Or.inl q
    | inr q => exact Or.inr ⟨q, PySem.W.cellsFrom_some _ _ _ (Or.inl q)⟩
  case body =>
    intro ev he s1 inCall
    subst he
    refine ⟨free.keeps inCall.toInCall.keep, codeAny_func ?inner⟩
    obtain ⟨t, derived, reading⟩ := hbody cd A outer s H vs Q E p (RoomH.deeper room _) hsp
    refine wpAny_mono (derived.run [] s1 (L2.start N vs) H _ (inv_startH S pin env (len _ _ _ _ hsp) vals inCall) reading) (fun fl s' hs => ?out) (fun _ _ z => z)
    match fl, hs with
    | .ret u, ⟨v, σ', H', J, rv, q⟩ => exact (⟨v, H', J.os, J.bare, J.base, J.hok, rv, q⟩ : CE outer P w H s Q u s')
    | .next, ⟨σ', H', J, q⟩ => exact (⟨V.non, H', J.os, J.bare, J.base, J.hok, rfl, q⟩ : CE outer P w H s Q Value.none s')
    | .brk, ⟨_, _, _, q⟩ => exact q.elim
    | .cont, ⟨_, _, _, q⟩ => exact q.elim
end
section
variable {X : Cx} {k : Nat} {f : Addr} {fd : FuncData} {ps : List Str} {sp : Sp} {x : Str} {q pos : Pos} {e : Expr} {es : List Expr} {t : TA}
/-- f(e, ..) where something is pinned -/
theorem pe_callA (F : FnA X.prog X.w X.K X.mg X.base k f fd ps sp) (room : RoomH k X.A) (pinned : ∃ p, p ∈ X.pn) (hg : Gl X x) (hm : X.mg x = some (.ref f)) (hk : PySem.W.keepIn X.K (.ref f) = true) (bs : Binds X.K fd ps [])
    (ha : PA X (e :: es) t) (hdb : (x == ("__debug__" : Str)) = false := by decide) (h1 : starEach (e :: es) X.env = (false, eval e X.env) :: starEach es X.env := by rfl) (h2 : (backTo pos (starEach es X.env)).any (·.1) = false := by rfl) :
    PE X (.Call (.Name x q) (e :: es) [] pos) (tCall sp [] E0 t) := by
  constructor
  intro pins s σ H Q I h
  refine wpAny_Call_Name_kw (ld_glob I hg hm ?_ hdb)
  refine PySem.W.callWith_K (h₀ := X.base) I.ok.mod.kin hk (thn (ha.run pos pins s σ H _ I h) ?_) h1 h2
  rintro us s1 ⟨vs, H1, J, r, z⟩
  rw [List.append_nil] at z
  refine ⟨J.kIn, ?_⟩
  obtain ⟨p, hp⟩ := pinned
  obtain ⟨p1, p2, p3, p4⟩ := J.pin p (List.mem_append_left _ hp)
  have same : us.length = ps.length := r.length.symm.trans (F.len _ _ _ _ z)
  have bound := bs s1 us J.kIn (by rw [List.append_nil]; exact same)
  rw [List.append_nil] at bound
  have pin : PinOk X.stack H1 s1 p := ⟨p1, p2, fun m => Or.elim (List.mem_cons.mp (J.stkSub p.1 m)) p3 p4.1, p4.2⟩
  refine wpAny_call (codeAny_mono (F.run X.A X.stack s1 H1 ⟨us, []⟩ us vs Q E0 p room pin J.env0 bound r z) (fun out s' w => ?_))
  match out, w with
  | .error _, w => exact w.elim
  | .ok (.ret u), w => exact J.after w
  | .ok .next, w => exact w.elim
  | .ok .brk, w => exact w.elim
  | .ok .cont, w => exact w.elim
end
end AnyF
set_option Elab.async false
set_option linter.all false
set_option maxRecDepth 100000
set_option maxHeartbeats 4000000
namespace Toy
open PySem L2 NdefX Gm Pz
open Mine hiding same_new
def spSame : Sp := fun vs H Q _ => (∃ i j : Int, vs = [.int i, .int j] ∧ Q (.bl (decide (i = j))) H) ∨ (∃ a b : Str, vs = [.str a, .str b] ∧ Q (.bl (decide (a = b))) H)
theorem isi_rd {K : PySem.W.Frag} {σ : L2.St} {H : Hp} {i : Nat} {n t : String} {x : V} {b : Bool} {Q : Bool → Hp → Prop} (e : σ[i]? = some (some x)) (ty : TyX K H x (.type t)) (k : kitB t n = some b) (q : Q b H) :
    tB (tCB (rIsi K) (tCons (tVar i) (tCons (tC (.ty n)) tNil))) σ H Q := ⟨x, e, x, .ty n, .type t, .type n, b, rfl, .ty n, ty, kit_ty k, b, rfl, q⟩
theorem isi_rv {K : PySem.W.Frag} {σ : L2.St} {H : Hp} {i : Nat} {n t : String} {x : V} {b : Bool} {Q : VK} (e : σ[i]? = some (some x)) (ty : TyX K H x (.type t)) (k : kitB t n = some b) (q : Q (.bl b) H) :
    tCB (rIsi K) (tCons (tVar i) (tCons (tC (.ty n)) tNil)) σ H Q := ⟨x, e, x, .ty n, .type t, .type n, b, rfl, .ty n, ty, kit_ty k, q⟩
def rIN : R2 := fun x y H Q => y = .non ∧ Q (.bl (decide (x = .non))) H
def tSameB (K : PySem.W.Frag) : TS := tSeq (tIfS (tOr (tB (tCB (rIsi K) (tCons (tVar 1) (tCons (tC (.ty "tuple")) tNil)))) (tB (tCB (rIsi K) (tCons (tVar 1) (tCons (tC (.ty "list")) tNil))))) tNever tNext)
  (tSeq (tIfS (tOr (tTest (tOp rIN (tVar 1) (tC .non))) (tB (tCB (rIsi K) (tCons (tVar 1) (tCons (tC (.ty "bool")) tNil)))))
    (tRet (tAndV (tOp rEq (tOp rIN (tVar 0) (tC .non)) (tOp rIN (tVar 1) (tC .non))) (tAndV (tOrV (tOp rIN (tVar 1) (tC .non)) (tCB (rIsi K) (tCons (tVar 0) (tCons (tC (.ty "bool")) tNil)))) (tOp rEq (tVar 0) (tVar 1))))) tNext)
  (tSeq (tIfS (tB (tCB (rIsi K) (tCons (tVar 1) (tCons (tC (.ty "int")) tNil)))) (tRet (tAndV (tCB (rIsi K) (tCons (tVar 0) (tCons (tC (.ty "int")) tNil))) (tAndV (tNotV (tCB (rIsi K) (tCons (tVar 0) (tCons (tC (.ty "bool")) tNil)))) (tOp rEq (tVar 0) (tVar 1))))) tNext)
  (tRet (tAndV (tCB (rIsi K) (tCons (tVar 0) (tCons (tC (.ty "str")) tNil))) (tOp rEq (tVar 0) (tVar 1))))))
theorem pure_same {K : PySem.W.Frag} {vs : List V} {H : Hp} {Q : VK} {E : XK} (h : spSame vs H Q E) : tSameB K { nx := fun _ H' => Q .non H', rt := Q } (L2.start ["actual", "due", "k"] vs) H := by
  rcases h with ⟨i, j, rfl, q⟩ | ⟨i, j, rfl, q⟩
  · have j' : TyX K H (.int j) (.type "int") := .base (.int j)
    have i' : TyX K H (.int i) (.type "int") := .base (.int i)
    refine isi_rd rfl j' (by decide +kernel) (iteF (isi_rd rfl j' (by decide +kernel) (iteF ?_)))
    refine ⟨_, rfl, rfl, _, rfl, ite_no (by simp) (isi_rd rfl j' (by decide +kernel) (iteF ?_))⟩
    refine isi_rd rfl j' (by decide +kernel) (iteT ?_)
    refine isi_rv (b := true) rfl i' (by decide +kernel) ⟨_, rfl, iteT (isi_rv (b := false) rfl i' (by decide +kernel) ⟨_, rfl, ⟨_, rfl, iteT ⟨_, rfl, _, rfl, rfl, ?_⟩⟩⟩)⟩
    rw [show decide (V.int i = V.int j) = decide (i = j) by simp]
    exact q
  · have j' : TyX K H (.str j) (.type "str") := .base (.str j)
    have i' : TyX K H (.str i) (.type "str") := .base (.str i)
    refine isi_rd rfl j' (by decide +kernel) (iteF (isi_rd rfl j' (by decide +kernel) (iteF ?_)))
    refine ⟨_, rfl, rfl, _, rfl, ite_no (by simp) (isi_rd rfl j' (by decide +kernel) (iteF ?_))⟩
    refine isi_rd rfl j' (by decide +kernel) (iteF ?_)
    refine isi_rv (b := true) rfl i' (by decide +kernel) ⟨_, rfl, iteT ⟨_, rfl, _, rfl, rfl, ?_⟩⟩
    rw [show decide (V.str i = V.str j) = decide (i = j) by simp]
    exact q
section
variable {P : Program} {w : World} {K : PySem.W.Frag} {mg : Str → Option Value} {base : Heap} {file : Str}
theorem ok_same (T : Txt K mg file) : FnOk P w K mg base CX0 1 T.a_law_same T.fd_law_same ["actual", "due"] spSame := by
  refine T.F_law_same.ok sc_law_same (fun vs H Q E h => ?_) (fun cdv A outer s H vs Q E hr h => ⟨_, (pss_cons (ps_if (PW.pt (pw_or (pt_val (pe_callB call_isi (by rfl) T.z_isinstance (by decide +kernel) (pa_cons (pv 1) (pa_cons (pe_bltn (v := .ty "tuple") (by rfl) T.z_tuple (by decide +kernel) rfl) pa_nil)))) (pw_or1 (pt_val (pe_callB call_isi (by rfl) T.z_isinstance (by decide +kernel) (pa_cons (pv 1) (pa_cons (pe_bltn (v := .ty "list") (by rfl) T.z_list (by decide +kernel) rfl) pa_nil))))))) pss_never pss_nil)
    (pss_cons (ps_if (PW.pt (pw_or (pt_cmpR op_isN (pv 1) pe_non (nomark _)) (pw_or1 (pt_val (pe_callB call_isi (by rfl) T.z_isinstance (by decide +kernel) (pa_cons (pv 1) (pa_cons (pe_bltn (v := .ty "bool") (by rfl) T.z_bool (by decide +kernel) rfl) pa_nil)))))))
      (pss_one (ps_ret (pe_and (pe_cmpR op_eq (pe_cmpR op_isN (pv 0) pe_non (nomark _)) (pe_cmpR op_isN (pv 1) pe_non (nomark _)) (nomark _)) (pe_and (pe_or (pe_cmpR op_isN (pv 1) pe_non (nomark _)) (pe_one (pe_callB call_isi (by rfl) T.z_isinstance (by decide +kernel) (pa_cons (pv 0) (pa_cons (pe_bltn (v := .ty "bool") (by rfl) T.z_bool (by decide +kernel) rfl) pa_nil))))) (pe_one (pe_cmpR op_eq (pv 0) (pv 1) (nomark _)))))))
      pss_nil)
    (pss_cons (ps_if (pt_val (pe_callB call_isi (by rfl) T.z_isinstance (by decide +kernel) (pa_cons (pv 1) (pa_cons (pe_bltn (v := .ty "int") (by rfl) T.z_int (by decide +kernel) rfl) pa_nil))))
      (pss_one (ps_ret (pe_and (pe_callB call_isi (by rfl) T.z_isinstance (by decide +kernel) (pa_cons (pv 0) (pa_cons (pe_bltn (v := .ty "int") (by rfl) T.z_int (by decide +kernel) rfl) pa_nil))) (pe_and (pe_not (pe_callB call_isi (by rfl) T.z_isinstance (by decide +kernel) (pa_cons (pv 0) (pa_cons (pe_bltn (v := .ty "bool") (by rfl) T.z_bool (by decide +kernel) rfl) pa_nil)))) (pe_one (pe_cmpR op_eq (pv 0) (pv 1) (nomark _)))))))
      pss_nil)
    (pss_one (ps_ret (pe_and (pe_callB call_isi (by rfl) T.z_isinstance (by decide +kernel) (pa_cons (pv 0) (pa_cons (pe_bltn (v := .ty "str") (by rfl) T.z_str (by decide +kernel) rfl) pa_nil))) (pe_one (pe_cmpR op_eq (pv 0) (pv 1) (nomark _))))))))), pure_same h⟩)
  rcases h with ⟨i, j, rfl, _⟩ | ⟨i, j, rfl, _⟩ <;> rfl
theorem ok_sameA (T : Txt K mg file) : AnyF.FnA P w K mg base 1 T.a_law_same T.fd_law_same ["actual", "due"] spSame := by
  refine AnyF.fnA_of T.F_law_same sc_law_same (fun vs H Q E h => ?_) (fun cdv A outer s H vs Q E p hr h => ⟨_, (pss_cons (ps_if (PW.pt (pw_or (pt_val (pe_callB call_isi (by rfl) T.z_isinstance (by decide +kernel) (pa_cons (pv 1) (pa_cons (pe_bltn (v := .ty "tuple") (by rfl) T.z_tuple (by decide +kernel) rfl) pa_nil)))) (pw_or1 (pt_val (pe_callB call_isi (by rfl) T.z_isinstance (by decide +kernel) (pa_cons (pv 1) (pa_cons (pe_bltn (v := .ty "list") (by rfl) T.z_list (by decide +kernel) rfl) pa_nil))))))) pss_never pss_nil)
    (pss_cons (ps_if (PW.pt (pw_or (pt_cmpR op_isN (pv 1) pe_non (nomark _)) (pw_or1 (pt_val (pe_callB call_isi (by rfl) T.z_isinstance (by decide +kernel) (pa_cons (pv 1) (pa_cons (pe_bltn (v := .ty "bool") (by rfl) T.z_bool (by decide +kernel) rfl) pa_nil)))))))
      (pss_one (ps_ret (pe_and (pe_cmpR op_eq (pe_cmpR op_isN (pv 0) pe_non (nomark _)) (pe_cmpR op_isN (pv 1) pe_non (nomark _)) (nomark _)) (pe_and (pe_or (pe_cmpR op_isN (pv 1) pe_non (nomark _)) (pe_one (pe_callB call_isi (by rfl) T.z_isinstance (by decide +kernel) (pa_cons (pv 0) (pa_cons (pe_bltn (v := .ty "bool") (by rfl) T.z_bool (by decide +kernel) rfl) pa_nil))))) (pe_one (pe_cmpR op_eq (pv 0) (pv 1) (nomark _)))))))
      pss_nil)
    (pss_cons (ps_if (pt_val (pe_callB call_isi (by rfl) T.z_isinstance (by decide +kernel) (pa_cons (pv 1) (pa_cons (pe_bltn (v := .ty "int") (by rfl) T.z_int (by decide +kernel) rfl) pa_nil))))
      (pss_one (ps_ret (pe_and (pe_callB call_isi (by rfl) T.z_isinstance (by decide +kernel) (pa_cons (pv 0) (pa_cons (pe_bltn (v := .ty "int") (by rfl) T.z_int (by decide +kernel) rfl) pa_nil))) (pe_and (pe_not (pe_callB call_isi (by rfl) T.z_isinstance (by decide +kernel) (pa_cons (pv 0) (pa_cons (pe_bltn (v := .ty "bool") (by rfl) T.z_bool (by decide +kernel) rfl) pa_nil)))) (pe_one (pe_cmpR op_eq (pv 0) (pv 1) (nomark _)))))))
      pss_nil)
    (pss_one (ps_ret (pe_and (pe_callB call_isi (by rfl) T.z_isinstance (by decide +kernel) (pa_cons (pv 0) (pa_cons (pe_bltn (v := .ty "str") (by rfl) T.z_str (by decide +kernel) rfl) pa_nil))) (pe_one (pe_cmpR op_eq (pv 0) (pv 1) (nomark _))))))))), pure_same h⟩)
  rcases h with ⟨i, j, rfl, _⟩ | ⟨i, j, rfl, _⟩ <;> rfl
end
end Toy
set_option Elab.async false
set_option linter.all false
set_option maxRecDepth 100000
set_option maxHeartbeats 4000000
namespace Toy
open PySem L2 NdefX Gm Pz
open Mine hiding same_new
structure WsOk (ws : List Str) : Prop where
  n : ws.length ≤ 10000
  w : ∀ w ∈ ws, w.length ≤ 20
  s : ∀ w ∈ ws, 32 ∉ signs w
  e : ws ≠ [("" : Str)]
def wsOkB (ws : List Str) : Bool := decide (ws.length ≤ 10000) && ws.all (fun w => decide (w.length ≤ 20) && !(signs w).any (fun c => decide (c = 32))) && decide (ws ≠ [("" : Str)])
theorem wsOkB_ok {ws : List Str} (h : wsOkB ws = true) : WsOk ws := by
  unfold wsOkB at h
  rw [Bool.and_eq_true, Bool.and_eq_true] at h
  have h2 := List.all_eq_true.mp h.1.2
  refine ⟨of_decide_eq_true h.1.1, fun w hw => ?_, fun w hw => ?_, of_decide_eq_true h.2⟩
  · have := h2 w hw
    rw [Bool.and_eq_true] at this
    exact of_decide_eq_true this.1
  · have := h2 w hw
    rw [Bool.and_eq_true, Bool.not_eq_true'] at this
    intro z
    have := List.any_eq_false.mp this.2 32 z
    simp at this
theorem sum_le : ∀ {ws : List Str}, (∀ w ∈ ws, w.length ≤ 20) → (ws.map (·.length)).sum ≤ 20 * ws.length
  | [], _ => Nat.le_refl _
  | w :: ws, h => by
    have h1 := h w (List.mem_cons_self ..)
    have h2 := sum_le fun x hx => h x (List.mem_cons_of_mem _ hx)
    simp only [List.map_cons, List.sum_cons, List.length_cons]
    omega
theorem joinL_len {S : List Nat} (hS : S.length = 1) : ∀ ps : List (List Nat), (TL.joinL S ps).length + 1 ≤ (ps.map (·.length)).sum + ps.length + 1 ∧ (ps = [] ∨ (TL.joinL S ps).length + 1 = (ps.map (·.length)).sum + ps.length)
  | [] => ⟨by simp [TL.joinL], .inl rfl⟩
  | [p] => by
    refine ⟨?_, .inr ?_⟩ <;> simp [TL.joinL]
  | p :: q :: r => by
    have ih := joinL_len hS (q :: r)
    have ih2 := ih.2.resolve_left (List.cons_ne_nil _ _)
    have e : (TL.joinL S (p :: q :: r)).length = p.length + (1 + (TL.joinL S (q :: r)).length) := by
      show (p ++ (S ++ TL.joinL S (q :: r))).length = _
      rw [List.length_append, List.length_append, hS]
    refine ⟨?_, .inr ?_⟩ <;> (rw [e]; simp only [List.map_cons, List.sum_cons, List.length_cons] at *; omega)
theorem lens_tl (ws : List Str) : ((ws.map TL.tl).map (·.length)).sum = (ws.map (·.length)).sum := by
  rw [List.map_map]
  refine congrArg List.sum (List.map_congr_left fun w _ => ?_)
  exact (TL.len_tl w).symm
theorem join_len (ws : List Str) : (Txt.join " " ws).length ≤ (ws.map (·.length)).sum + ws.length ∧ (ws = [] ∨ (Txt.join " " ws).length + 1 = (ws.map (·.length)).sum + ws.length) := by
  have h := joinL_len (S := TL.tl " ") (by decide +kernel) (ws.map TL.tl)
  rw [lens_tl, List.length_map] at h
  rw [TL.len_tl, TL.join_eq, TL.tl_join]
  refine ⟨by omega, ?_⟩
  rcases h.2 with z | z
  · exact .inl (List.map_eq_nil_iff.mp z)
  · exact .inr z
theorem toWords_join {ws : List Str} (h : WsOk ws) : toWords (Txt.join " " ws) = ws := by
  unfold toWords
  by_cases c : ws = []
  · rw [c]
    decide +kernel
  have hl := (join_len ws).2.resolve_left c
  have hn : (Txt.join " " ws).length ≠ 0 := by
    intro z
    rw [z] at hl
    have hlen : ws.length = 1 := by
      have : 0 < ws.length := Nat.pos_of_ne_zero fun z => c (List.length_eq_zero_iff.mp z)
      omega
    match ws, hlen with
    | [w], _ =>
      have hw : w.length = 0 := by simpa using hl
      have : w = "" := by
        refine str_ext' ?_
        have := len_signs w
        rw [hw] at this
        rw [List.length_eq_zero_iff.mp this]
        decide +kernel
      exact h.e (by rw [this])
  rw [if_neg hn]
  exact TL.split_join (s := 32) (S := []) (by decide +kernel) (by decide +kernel) c h.s
theorem WsOk.len {ws : List Str} (h : WsOk ws) : (Txt.join " " ws).length ≤ 210000 := by
  have := (join_len ws).1
  have := sum_le h.w
  have := h.n
  omega
theorem join_small {ws : List Str} (h : WsOk ws) : (ws.map (·.length)).sum + ws.length * (" " : Str).length ≤ 16777216 := by
  have := sum_le h.w
  have := h.n
  rw [show (" " : Str).length = 1 from by decide +kernel, Nat.mul_one]
  omega
def refs : List Addr → TA
  | [] => tNil
  | a :: r => tCons (tC (.ref a)) (refs r)
def spC (p t : Addr) : Addr → Sp → Prop := fun f sp => (f = p ∧ sp = spWords 1200) ∨ (f = t ∧ sp = spWords 1200)
def tb_law (C B : Addr) (K : PySem.W.Frag) : WX → TS := fun W => tIfS (tTest (tOp rEq (tVar 2) (tC (.int 0))))
  (tAsg (tCall (spPText K 8) [] E0 (tCons (tCallS (spRead B K) (WE W) (tCons (tVar 4) tNil)) tNil)) (gName 6))
  (tAsg (tCall (spTText C K) [] E0 (tCons (tCallS (spTac C B K) (WE W) (tCons (tVar 4) tNil)) tNil)) (gName 6))
def rNN : R2 := fun x y H Q => y = V.non ∧ Q (V.bl (!decide (x = V.non))) H
def ts_law (K : PySem.W.Frag) (B : Addr) (Es : List Addr) : Addr → Value → Option Addr → TS := fun a cls d =>
  tSeq (tIfS (tOr (tNot (tB (tCB (IsD.rIsE2 K B a cls d) (tCons (tVar 7) (tCons (tC (.ref B)) tNil))))) (tB (tCB (IsD.rIsET2 K B a cls d) (tCons (tVar 7) (tCons (tTup (refs Es)) tNil))))) (tRet (tC (.bl false))) tNext)
    (tRet (tAndV (tOp rNN (tVar 5) (tC .non)) (tCall spSame [] E0 (tCons (tXf a cls d B "at" (tVar 7)) (tCons (tVar 5) tNil)))))
def spLaw (K : PySem.W.Frag) : Sp := fun vs H Q _ => ∃ (a : Addr) (ns : List Int), vs = [.ref a] ∧ SqL K H a (ns.map V.int) ∧ ns.length ≤ 63 ∧ ∀ H', Q (.bl true) H'
section
variable {P : Program} {w : World} {K : PySem.W.Frag} {mg : Str → Option Value} {base : Heap} {file : Str}
theorem ok_law (hP : PrF P file) (T : Txt K mg file) : FnOk P w K mg base CX0 60 T.a_law T.fd_law ["script"] (spLaw K) := by
  have G_law_pool : FnOk P w K mg base CX0 1 T.a_law_pool T.fd_law_pool ["script", "budget"] (spPool K) := ok_pool T
  have G_law_draw : FnOk P w K mg base CX0 1 T.a_law_draw T.fd_law_draw ["pool", "size"] spDraw := ok_draw T
  have G_law_walked : FnOk P w K mg base CX0 4 T.a_law_walked T.fd_law_walked ["pool", "way"] spWalked := ok_walked T
  have G_law_changed : FnOk P w K mg base CX0 3 T.a_law_changed T.fd_law_changed ["pool", "words"] spChanged := ok_changed T
  have G_law_wrong : FnOk P w K mg base CX0 3 T.a_law_wrong T.fd_law_wrong ["way", "words"] (spWrong K) := ok_wrong T
  have G_law_same : FnOk P w K mg base CX0 1 T.a_law_same T.fd_law_same ["actual", "due"] spSame := ok_same T
  have G_law_sameA : AnyF.FnA P w K mg base 1 T.a_law_same T.fd_law_same ["actual", "due"] spSame := ok_sameA T
  have G_read_player : FnOk P w K mg base (L2.CX P w) 30 T.a_read_player T.fd_read_player ["text"] (spRead T.C_BadText K) := ok_read hP T
  have G_player_text : FnOk P w K mg base CX0 11 T.a_player_text T.fd_player_text ["player"] (spPText K 8) := ok_ptext T
  have G_read_tactic : FnOk P w K mg base (L2.CX P w) 16 T.a_read_tactic T.fd_read_tactic ["text"] (spTac T.C_Tactic T.C_BadText K) := tac_read hP T
  have G_tactic_text : FnOk P w K mg base CX0 11 T.a_tactic_text T.fd_tactic_text ["tactic"] (spTText T.C_Tactic K) := ok_text T
  have hC : ∀ f sp, spC T.a_law_chain T.a_law_rules f sp → ∃ fd ps, FnOk P w K mg base CX0 3 f fd ps sp ∧ PySem.W.keepIn K (.ref f) = true ∧ L2.Binds K fd ps [] := by
    rintro f sp (⟨rfl, rfl⟩ | ⟨rfl, rfl⟩)
    · exact ⟨_, _, ok_chain T, T.k_law_chain, T.b_law_chain⟩
    · exact ⟨_, _, ok_rules T, T.k_law_rules, T.b_law_rules⟩
  refine T.F_law.ok sc_law (fun vs H Q E h => ?_) (fun cdv A outer s H vs Q E hr h => ?_)
  · obtain ⟨a, ns, rfl, _⟩ := h
    rfl
  obtain ⟨sa, ns, rfl, hS, hn63, q⟩ := h
  refine ⟨_, (pss_cons (ps_set (i := 1) sc_law.nd rfl (Or.inl rfl) (pe_call G_law_pool (hr.mono (by decide)) rfl T.g_law_pool T.k_law_pool T.b_law_pool .nil pass0 (pa_cons (pv 0) (pa_cons pe_int pa_nil))))
    (pss_cons (ps_set (i := 2) sc_law.nd rfl (Or.inl rfl) (pe_call G_law_draw (hr.mono (by decide)) rfl T.g_law_draw T.k_law_draw T.b_law_draw .nil pass0 (pa_cons (pv 1) (pa_cons pe_int pa_nil))))
    (pss_cons (ps_if (pt_cmpR op_eq (pe_call G_law_draw (hr.mono (by decide)) rfl T.g_law_draw T.k_law_draw T.b_law_draw .nil pass0 (pa_cons (pv 1) (pa_cons pe_int pa_nil))) pe_int (nomark _))
      (pss_one (ps_set (i := 3) sc_law.nd rfl (Or.inl rfl) (pe_call G_law_walked (hr.mono (by decide)) rfl T.g_law_walked T.k_law_walked T.b_law_walked .nil pass0 (pa_cons (pv 1) (pa_cons (pv 2) pa_nil)))))
      (pss_one (ps_set (i := 3) sc_law.nd rfl (Or.inl rfl) (pe_call G_law_changed (hr.mono (by decide)) rfl T.g_law_changed T.k_law_changed T.b_law_changed .nil pass0 (pa_cons (pv 1) (pa_cons (CaF.pe_callF (k := 3) (S := spC T.a_law_chain T.a_law_rules) hC (hr.mono (show 3 ≤ 59 by decide)) (pe_ix ix_tup (pe_tup (pa_cons (pe_glob (v := .ref T.a_law_chain) rfl T.g_law_chain rfl) (pa_cons (pe_glob (v := .ref T.a_law_rules) rfl T.g_law_rules rfl) pa_nil))) (pv 2) (fun _ _ => rfl)) (pa_cons (pv 1) pa_nil)) pa_nil))))))
    (pss_cons (ps_if (PW.pt (pw_and (pt_cmpR op_eq (pe_callB call_len_seq (by rfl) T.z_len (by decide +kernel) (pa_cons (pv 3) pa_nil)) pe_int (nomark _)) (pw_and1 (pt_cmpR op_eq (pe_ix ix_list (pv 3) pe_int (fun _ _ => rfl)) pe_str (nomark _)))))
      (pss_one (ps_set (i := 3) sc_law.nd rfl (Or.inl rfl) (pe_lst pa_nil)))
      pss_nil)
    (pss_cons (ps_set (i := 4) sc_law.nd rfl (Or.inl rfl) (pe_join pe_str (pv 3)))
    (pss_cons (ps_set (i := 5) sc_law.nd rfl (Or.inl rfl) (pe_call G_law_wrong (hr.mono (by decide)) rfl T.g_law_wrong T.k_law_wrong T.b_law_wrong .nil pass0 (pa_cons (pv 2) (pa_cons (pv 3) pa_nil))))
    (pss_cons (ps_try_as (i := 7) (tb := tb_law T.C_Tactic T.C_BadText K) (ts := ts_law K T.C_BadText [T.C_BadBound, T.C_BadCall, T.C_BadPaper, T.C_BadPlayer, T.C_BadStep, T.C_TooLarge]) (Wout := fun _ _ _ _ => False) rfl rfl sc_law.nd rfl rfl ⟨rfl, by decide, Or.inl T.g_PlayError⟩ takes0
      (fun W pn xe tk _ => by exact (pss_one (ps_if (pt_cmpR op_eq (pv 2) pe_int (nomark _))
      (pss_one (ps_set (i := 6) sc_law.nd rfl (Or.inl rfl) (pe_call G_player_text (hr.mono (by decide)) rfl T.g_player_text T.k_player_text T.b_player_text .nil pass0 (pa_cons (pe_callS G_read_player (hr.mono (by decide)) rfl T.g_read_player T.k_read_player T.b_read_player (fun σ => passAt tk σ) (pa_cons (pv 4) pa_nil)) pa_nil))))
      (pss_one (ps_set (i := 6) sc_law.nd rfl (Or.inl rfl) (pe_call G_tactic_text (hr.mono (by decide)) rfl T.g_tactic_text T.k_tactic_text T.b_tactic_text .nil pass0 (pa_cons (pe_callS G_read_tactic (hr.mono (by decide)) rfl T.g_read_tactic T.k_read_tactic T.b_read_tactic (fun σ => passAt tk σ) (pa_cons (pv 4) pa_nil)) pa_nil)))))))
      (fun a oe cls d pn hz hf => by exact (pss_cons (ps_if (PW.pt (pw_or (pt_not (pt_val (pe_callB (IsD.call_isE2 T.ec_BadText hz hf) (by rfl) T.z_isinstance (by decide +kernel) (pa_cons (pv 7) (pa_cons (pe_glob (v := .ref T.C_BadText) rfl T.g_BadText rfl) pa_nil))))) (pw_or1 (pt_val (pe_callB (IsD.call_isET2 T.ec_BadText hz hf) (by rfl) T.z_isinstance (by decide +kernel) (pa_cons (pv 7) (pa_cons (pe_tup (pa_cons (pe_glob (v := .ref T.C_BadBound) rfl T.g_BadBound rfl) (pa_cons (pe_glob (v := .ref T.C_BadCall) rfl T.g_BadCall rfl) (pa_cons (pe_glob (v := .ref T.C_BadPaper) rfl T.g_BadPaper rfl) (pa_cons (pe_glob (v := .ref T.C_BadPlayer) rfl T.g_BadPlayer rfl) (pa_cons (pe_glob (v := .ref T.C_BadStep) rfl T.g_BadStep rfl) (pa_cons (pe_glob (v := .ref T.C_TooLarge) rfl T.g_TooLarge rfl) pa_nil))))))) pa_nil)))))))
      (pss_one (ps_ret pe_bl))
      pss_nil)
    (pss_one (ps_ret (pe_and (pe_cmpR op_notN (pv 5) pe_non (nomark _)) (pe_one (AnyF.pe_callA G_law_sameA (L2H.RoomH.mono (k := 59) ⟨hr.dp, hr.un⟩ (by decide)) ⟨_, List.mem_cons_self ..⟩ rfl T.g_law_same T.k_law_same T.b_law_same (pa_cons (pe_xf ⟨T.xga_BadText, T.xgg_BadText, T.xb_BadText, T.xd_BadText⟩ T.E_BadText.no hz hf (pv 7)) (pa_cons (pv 5) pa_nil))))))))))
    (pss_one (ps_ret (pe_and (pe_cmpR op_isN (pv 5) pe_non (nomark _)) (pe_one (pe_call G_law_same (hr.mono (by decide)) rfl T.g_law_same T.k_law_same T.b_law_same .nil pass0 (pa_cons (pv 6) (pa_cons (pv 4) pa_nil)))))))))))))), ?_⟩
  have big : ∀ n : Nat, n ≤ 100000 → n ≤ sizeLine := fun n h => Nat.le_trans h (by decide)
  refine ⟨_, rfl, sa, ns, 0, rfl, hS, fun a l H1 m1 na p1 => ?_⟩
  refine ⟨_, rfl, a, l, ns, 2, rfl, p1, by decide, by decide, fun r H2 r0 r1 b2 p2 => ?_⟩
  obtain ⟨way, ew⟩ : ∃ way : Bool, r = (if way = true then 1 else 0) := by
    by_cases c : r = 0
    · exact ⟨false, by rw [c]; rfl⟩
    · exact ⟨true, by show r = 1; omega⟩
  subst ew
  clear b2 m1 na
  unfold gName
  dsimp only
  refine seq_k (fun σ H' => ∃ (L : Addr) (ws : List Str), σ = [some (.ref sa), some (.ref a), some (.int (if way = true then 1 else 0)), some (.ref L), none, none, none, none] ∧ H' L = some (.lst (ws.map V.str)) ∧ ws.length ≤ 1310 ∧ (∀ w ∈ ws, WdB 16 w)) ?_ (fun k => ?_)
  rotate_left
  · refine ⟨_, rfl, a, l, ns, 3, rfl, p2, by decide, by decide, fun r3 H3 r30 r31 b3 p3 => ⟨rfl, _, rfl, ite2 (fun _ => ?_) (fun _ => ?_)⟩⟩
    · refine ⟨_, rfl, _, rfl, a, l, ns, way, rfl, p3, fun L ws H4 b4 p4 nL eL lw hw => ?_⟩
      exact k _ _ ⟨L, ws, rfl, eL, by omega, fun w h => (hw w h).mono (by decide)⟩
    · refine ⟨_, rfl, big 2 (by decide), fun t ht => ?_⟩
      have j1 := same_new ht (.tup [V.ref T.a_law_chain, V.ref T.a_law_rules])
      have p4 := p3.same j1
      have nt := p3.ne ht
      obtain ⟨f, sp, ef, hf, hsp⟩ : ∃ (f : Addr) (sp : Sp), atI [V.ref T.a_law_chain, V.ref T.a_law_rules] (if way = true then 1 else 0) = some (.ref f) ∧ spC T.a_law_chain T.a_law_rules f sp ∧ sp = spWords 1200 := by
        cases way
        · exact ⟨_, _, rfl, .inl ⟨rfl, rfl⟩, rfl⟩
        · exact ⟨_, _, rfl, .inr ⟨rfl, rfl⟩, rfl⟩
      subst hsp
      refine ⟨_, rfl, t, _, _, _, rfl, rfl, SqT.of upd_same, ef, f, _, rfl, hf, _, rfl, a, l, ns, rfl, p4, fun L ws H5 b5 p5 nL eL lw hw => ?_⟩
      refine ⟨a, l, ns, L, ws, rfl, p5, fun z => ?_, eL, by omega, hw, fun L' ws' H6 b6 p6 nL' eL' lw' hw' => ?_⟩
      · obtain ⟨_, _, _, _, _, e, _⟩ := p4
        rw [z, e] at nL
        cases nL
      · exact k _ _ ⟨L', ws', rfl, eL', lw', hw'⟩
  clear p2
  rintro σ H3 ⟨L, ws, rfl, eL, lw, hw⟩
  refine seq_k (fun σ H' => ∃ (L : Addr) (ws : List Str), σ = [some (.ref sa), some (.ref a), some (.int (if way = true then 1 else 0)), some (.ref L), none, none, none, none] ∧ H' L = some (.lst (ws.map V.str)) ∧ WsOk ws) ?_ (fun k => ?_)
  rotate_left
  · have wsok : ws ≠ [("" : Str)] → WsOk ws := fun z => ⟨by omega, fun w h => Nat.le_trans (hw w h).1 (by decide), fun w h => (hw w h).2, z⟩
    refine ⟨_, rfl, L, _, rfl, .inl (SqL.of eL), rfl, _, rfl, ite2 (fun z => ?_) (fun z => iteF (k _ _ ⟨L, ws, rfl, eL, wsok fun y => z (by rw [y]; rfl)⟩))⟩
    have z := V.int.inj (of_decide_eq_true z)
    match ws, z with
    | [x], _ =>
    refine ⟨_, rfl, L, _, 0, _, rfl, rfl, SqL.of eL, atI_nat (j := 0) rfl, rfl, _, rfl, ite2 (fun y => ?_) (fun y => k _ _ ⟨L, [x], rfl, eL, wsok fun u => y (by rw [(List.cons.inj u).1]; rfl)⟩)⟩
    refine ⟨big 0 (by decide), fun L2 hL2 => k _ _ ⟨L2, [], rfl, upd_same, ⟨by decide, (fun w h => nomatch h), (fun w h => nomatch h), (fun z => nomatch z)⟩⟩⟩
  clear eL lw hw
  rintro σ H4 ⟨L, ws, rfl, eL, ok⟩
  have hj := join_small ok
  refine ⟨⟨_, rfl⟩, _, rfl, _, L, ws, rfl, rfl, .inl (SqL.of eL), hj, ?_⟩
  refine ⟨_, rfl, _, rfl, way, L, ws, rfl, SqL.of eL, ok.n, fun w h => Nat.le_trans (ok.w w h) (by decide), fun H5 m5 => ?_⟩
  dsimp only
  have hlen : ((ws.map (·.length)).sum : Nat) ≤ 10000000 := by
    have := sum_le ok.w
    have := ok.n
    omega
  have fin : ∀ (H : Hp) (x : Str), x = Txt.join " " ws → tAndV (tOp (fun x y H Q => y = V.non ∧ Q (V.bl (decide (x = V.non))) H) (tVar 5) (tC V.non)) (tCall spSame [] E0 (tCons (tVar 6) (tCons (tVar 4) tNil))) [some (V.ref sa), some (V.ref a), some (V.int (if way = true then 1 else 0)), some (V.ref L), some (V.str (Txt.join " " ws)), some V.non, some (V.str x), none] H Q := by
    rintro H x rfl
    refine ⟨_, rfl, rfl, _, rfl, ite_yes (by simp) ⟨_, rfl, _, rfl, .inr ⟨_, _, rfl, ?_⟩⟩⟩
    rw [decide_eq_true rfl]
    exact q _
  have bad : ∀ (j : Nat) (d : Addr) (H' : Hp), H' d = some (.xd [("at", .int j)]) → ∀ (a' : Addr) (D : Ends), (D.rt = Q) → ts_law K T.C_BadText [T.C_BadBound, T.C_BadCall, T.C_BadPaper, T.C_BadPlayer, T.C_BadStep, T.C_TooLarge] a' (.ref T.C_BadText) (some d) D [some (V.ref sa), some (V.ref a), some (V.int (if way = true then 1 else 0)), some (V.ref L), some (V.str (Txt.join " " ws)), some (V.int j), none, some (V.ref a')] H' := by
    rintro j d H' hd a' D hD
    refine ⟨_, rfl, _, _, true, d, _, rfl, rfl, rfl, hd, fun u r => r, T.ki_tt, true, rfl, iteF ?_⟩
    refine ⟨_, rfl, by show 6 ≤ sizeLine; decide, fun t ht => ?_⟩
    have m2 := same_new ht (.tup [V.ref T.C_BadBound, V.ref T.C_BadCall, V.ref T.C_BadPaper, V.ref T.C_BadPlayer, V.ref T.C_BadStep, V.ref T.C_TooLarge])
    have hd2 := m2 _ _ hd
    refine ⟨t, _, _, false, d, _, rfl, rfl, rfl, hd2, upd_same, ?_, T.ki_e, false, rfl, iteF ?_⟩
    · exact .cons (.own _) (.cons (.own _) (.cons (.own _) (.cons (.own _) (.cons (.own _) (.cons (.own _) .nil)))))
    refine ⟨_, rfl, rfl, _, rfl, ite_yes (by simp) ⟨_, rfl, rfl, rfl, d, _, _, rfl, hd2, rfl, _, rfl, .inl ⟨_, _, rfl, ?_⟩⟩⟩
    rw [decide_eq_true rfl]
    show D.rt _ _
    rw [hD]
    exact q _
  cases way with
  | false =>
    rw [show goM [startT false] 0 ws = _ from play_go]
    refine ⟨_, rfl, rfl, _, rfl, ite_yes (by simp) ?_⟩
    refine ⟨_, rfl, _, rfl, Nat.le_trans ok.len (by decide), ?_, ?_, ?_⟩
    · rw [toWords_join ok]
      have := ok.n
      omega
    · rw [toWords_join ok]
      intro w hw
      have := ok.w w hw
      omega
    rw [toWords_join ok]
    cases hp : pPlayer ws with
    | error j =>
      intro d H' sm hd
      refine ⟨true, PySem.W.exm_ref T.xb_PlayError T.xd_PlayError T.xt_PlayError T.sub_tp, fun _ a' na => ?_, fun z => Bool.noConfusion z⟩
      exact bad j d H' hd a' _ rfl
    | ok p =>
      obtain ⟨e1, e2⟩ := player_back hp
      intro v H' sm hg
      refine ⟨v, p, rfl, hg, e2, by rw [e1]; have := ok.n; omega, by rw [e1]; exact hlen, fun H2 m2 => ?_⟩
      exact fin H2 _ (by unfold plText; rw [e1])
  | true =>
    rw [show goM [startT true] 0 ws = _ from tac_go]
    refine ⟨_, rfl, rfl, _, rfl, ite_no (by simp) ?_⟩
    refine ⟨_, rfl, _, rfl, Nat.le_trans ok.len (by decide), ?_, ?_, ?_⟩
    · rw [toWords_join ok]
      have := ok.n
      omega
    · rw [toWords_join ok]
      intro w hw
      have := ok.w w hw
      omega
    rw [toWords_join ok]
    cases hp : pTac ws with
    | error j =>
      intro d H' sm hd
      refine ⟨true, PySem.W.exm_ref T.xb_PlayError T.xd_PlayError T.xt_PlayError T.sub_tp, fun _ a' na => ?_, fun z => Bool.noConfusion z⟩
      exact bad j d H' hd a' _ rfl
    | ok rs =>
      obtain ⟨bw, bg, bl⟩ := tac_back hp
      intro r H' sm hg
      refine ⟨r, rs, rfl, hg, bg, by rw [bw]; have := ok.n; omega, by rw [bw]; exact hlen, fun H2 s2 => ?_⟩
      exact fin H2 _ (by unfold rsText; rw [bw])
end
end Toy
set_option Elab.async false
set_option linter.all false
set_option maxRecDepth 100000
set_option maxHeartbeats 4000000
namespace Toy
open PySem L2 NdefX Gm
open Mine hiding same_new
open Pz hiding Tok
/-! ### the program's top -/
theorem all_mk {l : PySem.W.OpenLaw} {w : World} {K : PySem.W.Frag} {h : Heap} {mg : Str → Option Value} {fa : Addr} (X : K.In h) (G : h.Ns mainGlobals mg) (hfa : mg "law" = some (.ref fa))
    {C_Words : Addr}
    {C_Tactic : Addr}
    {od_is_name an_is_name : Option Addr} {sl_is_name : Array (Option Value)} {oc_is_name kV_is_name dc_is_name pm_is_name cd_is_name ct_is_name : Value} {a_is_name : Addr}
    {od_is_number an_is_number : Option Addr} {sl_is_number : Array (Option Value)} {oc_is_number kV_is_number dc_is_number pm_is_number cd_is_number ct_is_number : Value} {a_is_number : Addr}
    {od_Words_init an_Words_init : Option Addr} {sl_Words_init : Array (Option Value)} {oc_Words_init kV_Words_init dc_Words_init pm_Words_init cd_Words_init ct_Words_init : Value} {a_Words_init : Addr}
    {od_Words_ended an_Words_ended : Option Addr} {sl_Words_ended : Array (Option Value)} {oc_Words_ended kV_Words_ended dc_Words_ended pm_Words_ended cd_Words_ended ct_Words_ended : Value} {a_Words_ended : Addr}
    {od_Words_ahead an_Words_ahead : Option Addr} {sl_Words_ahead : Array (Option Value)} {oc_Words_ahead kV_Words_ahead dc_Words_ahead pm_Words_ahead cd_Words_ahead ct_Words_ahead : Value} {a_Words_ahead : Addr}
    {od_Words_refuse an_Words_refuse : Option Addr} {sl_Words_refuse : Array (Option Value)} {oc_Words_refuse kV_Words_refuse dc_Words_refuse pm_Words_refuse cd_Words_refuse ct_Words_refuse : Value} {a_Words_refuse : Addr}
    {od_Words_take an_Words_take : Option Addr} {sl_Words_take : Array (Option Value)} {oc_Words_take kV_Words_take dc_Words_take pm_Words_take cd_Words_take ct_Words_take : Value} {a_Words_take : Addr}
    {od_Words_one_of an_Words_one_of : Option Addr} {sl_Words_one_of : Array (Option Value)} {oc_Words_one_of kV_Words_one_of dc_Words_one_of pm_Words_one_of cd_Words_one_of ct_Words_one_of : Value} {a_Words_one_of : Addr}
    {od_Words_name an_Words_name : Option Addr} {sl_Words_name : Array (Option Value)} {oc_Words_name kV_Words_name dc_Words_name pm_Words_name cd_Words_name ct_Words_name : Value} {a_Words_name : Addr} {dT_Words_name : Addr} {dc2_Words_name : Value} {dd2_Words_name : Option Addr} {dn_Words_name : Nat} {dsl_Words_name : Array (Option Value)} {te0_Words_name : Addr} {teo0_Words_name : Option Addr} {ten0_Words_name : Nat} {tes0_Words_name : Array (Option Value)}
    {od_Words_number an_Words_number : Option Addr} {sl_Words_number : Array (Option Value)} {oc_Words_number kV_Words_number dc_Words_number pm_Words_number cd_Words_number ct_Words_number : Value} {a_Words_number : Addr}
    {od_Words_finish an_Words_finish : Option Addr} {sl_Words_finish : Array (Option Value)} {oc_Words_finish kV_Words_finish dc_Words_finish pm_Words_finish cd_Words_finish ct_Words_finish : Value} {a_Words_finish : Addr}
    {od_read_expression an_read_expression : Option Addr} {sl_read_expression : Array (Option Value)} {oc_read_expression kV_read_expression dc_read_expression pm_read_expression cd_read_expression ct_read_expression : Value} {a_read_expression : Addr} {dT_read_expression : Addr} {dc2_read_expression : Value} {dd2_read_expression : Option Addr} {dn_read_expression : Nat} {dsl_read_expression : Array (Option Value)} {tk0_read_expression : PySem.Tok}
    {od_expression_words an_expression_words : Option Addr} {sl_expression_words : Array (Option Value)} {oc_expression_words kV_expression_words dc_expression_words pm_expression_words cd_expression_words ct_expression_words : Value} {a_expression_words : Addr}
    {od_Tactic_init an_Tactic_init : Option Addr} {sl_Tactic_init : Array (Option Value)} {oc_Tactic_init kV_Tactic_init dc_Tactic_init pm_Tactic_init cd_Tactic_init ct_Tactic_init : Value} {a_Tactic_init : Addr}
    {od_Tactic_eq an_Tactic_eq : Option Addr} {sl_Tactic_eq : Array (Option Value)} {oc_Tactic_eq kV_Tactic_eq dc_Tactic_eq pm_Tactic_eq cd_Tactic_eq ct_Tactic_eq : Value} {a_Tactic_eq : Addr}
    {od_read_tactic an_read_tactic : Option Addr} {sl_read_tactic : Array (Option Value)} {oc_read_tactic kV_read_tactic dc_read_tactic pm_read_tactic cd_read_tactic ct_read_tactic : Value} {a_read_tactic : Addr}
    {od_read_rule an_read_rule : Option Addr} {sl_read_rule : Array (Option Value)} {oc_read_rule kV_read_rule dc_read_rule pm_read_rule cd_read_rule ct_read_rule : Value} {a_read_rule : Addr}
    {od_read_part an_read_part : Option Addr} {sl_read_part : Array (Option Value)} {oc_read_part kV_read_part dc_read_part pm_read_part cd_read_part ct_read_part : Value} {a_read_part : Addr}
    {od_tactic_text an_tactic_text : Option Addr} {sl_tactic_text : Array (Option Value)} {oc_tactic_text kV_tactic_text dc_tactic_text pm_tactic_text cd_tactic_text ct_tactic_text : Value} {a_tactic_text : Addr}
    {od_read_player an_read_player : Option Addr} {sl_read_player : Array (Option Value)} {oc_read_player kV_read_player dc_read_player pm_read_player cd_read_player ct_read_player : Value} {a_read_player : Addr}
    {od_read_below an_read_below : Option Addr} {sl_read_below : Array (Option Value)} {oc_read_below kV_read_below dc_read_below pm_read_below cd_read_below ct_read_below : Value} {a_read_below : Addr}
    {od_read_parts an_read_parts : Option Addr} {sl_read_parts : Array (Option Value)} {oc_read_parts kV_read_parts dc_read_parts pm_read_parts cd_read_parts ct_read_parts : Value} {a_read_parts : Addr}
    {od_player_text an_player_text : Option Addr} {sl_player_text : Array (Option Value)} {oc_player_text kV_player_text dc_player_text pm_player_text cd_player_text ct_player_text : Value} {a_player_text : Addr}
    {od_player_words an_player_words : Option Addr} {sl_player_words : Array (Option Value)} {oc_player_words kV_player_words dc_player_words pm_player_words cd_player_words ct_player_words : Value} {a_player_words : Addr}
    {od_law_pool an_law_pool : Option Addr} {sl_law_pool : Array (Option Value)} {oc_law_pool kV_law_pool dc_law_pool pm_law_pool cd_law_pool ct_law_pool : Value} {a_law_pool : Addr}
    {od_law_draw an_law_draw : Option Addr} {sl_law_draw : Array (Option Value)} {oc_law_draw kV_law_draw dc_law_draw pm_law_draw cd_law_draw ct_law_draw : Value} {a_law_draw : Addr}
    {od_law_same an_law_same : Option Addr} {sl_law_same : Array (Option Value)} {oc_law_same kV_law_same dc_law_same pm_law_same cd_law_same ct_law_same : Value} {a_law_same : Addr}
    {od_law_is_number an_law_is_number : Option Addr} {sl_law_is_number : Array (Option Value)} {oc_law_is_number kV_law_is_number dc_law_is_number pm_law_is_number cd_law_is_number ct_law_is_number : Value} {a_law_is_number : Addr}
    {od_law_is_name an_law_is_name : Option Addr} {sl_law_is_name : Array (Option Value)} {oc_law_is_name kV_law_is_name dc_law_is_name pm_law_is_name cd_law_is_name ct_law_is_name : Value} {a_law_is_name : Addr}
    {od_law_player an_law_player : Option Addr} {sl_law_player : Array (Option Value)} {oc_law_player kV_law_player dc_law_player pm_law_player cd_law_player ct_law_player : Value} {a_law_player : Addr}
    {od_law_tactic an_law_tactic : Option Addr} {sl_law_tactic : Array (Option Value)} {oc_law_tactic kV_law_tactic dc_law_tactic pm_law_tactic cd_law_tactic ct_law_tactic : Value} {a_law_tactic : Addr}
    {od_law_wrong an_law_wrong : Option Addr} {sl_law_wrong : Array (Option Value)} {oc_law_wrong kV_law_wrong dc_law_wrong pm_law_wrong cd_law_wrong ct_law_wrong : Value} {a_law_wrong : Addr}
    {od_law_menu an_law_menu : Option Addr} {sl_law_menu : Array (Option Value)} {oc_law_menu kV_law_menu dc_law_menu pm_law_menu cd_law_menu ct_law_menu : Value} {a_law_menu : Addr}
    {od_law_value an_law_value : Option Addr} {sl_law_value : Array (Option Value)} {oc_law_value kV_law_value dc_law_value pm_law_value cd_law_value ct_law_value : Value} {a_law_value : Addr}
    {od_law_chain an_law_chain : Option Addr} {sl_law_chain : Array (Option Value)} {oc_law_chain kV_law_chain dc_law_chain pm_law_chain cd_law_chain ct_law_chain : Value} {a_law_chain : Addr}
    {od_law_rules an_law_rules : Option Addr} {sl_law_rules : Array (Option Value)} {oc_law_rules kV_law_rules dc_law_rules pm_law_rules cd_law_rules ct_law_rules : Value} {a_law_rules : Addr}
    {od_law_walked an_law_walked : Option Addr} {sl_law_walked : Array (Option Value)} {oc_law_walked kV_law_walked dc_law_walked pm_law_walked cd_law_walked ct_law_walked : Value} {a_law_walked : Addr}
    {od_law_changed an_law_changed : Option Addr} {sl_law_changed : Array (Option Value)} {oc_law_changed kV_law_changed dc_law_changed pm_law_changed cd_law_changed ct_law_changed : Value} {a_law_changed : Addr}
    {od_law an_law : Option Addr} {sl_law : Array (Option Value)} {oc_law kV_law dc_law pm_law cd_law ct_law : Value} {a_law : Addr}
    {C_BadText : Addr}
    {od_BadText_init an_BadText_init : Option Addr} {sl_BadText_init : Array (Option Value)} {oc_BadText_init kV_BadText_init dc_BadText_init pm_BadText_init ct_BadText_init : Value} {a_BadText_init cda_BadText_init cc_BadText_init : Addr} {ccl_BadText_init cl_BadText_init : Value} {cdd_BadText_init cld_BadText_init : Option Addr} {ccs_BadText_init csl_BadText_init : Array (Option Value)} {vs_BadText_init : Array Value} {tf_BadText_init : PySem.Tok}
    {nm_BadText_init q_BadText_init : Str} {N_BadText_init : Addr} {bs_BadText_init bm_BadText_init : List Value} {sn_BadText_init : List Str} {sub_BadText_init : List Value} {ab_BadText_init : Bool} {col_BadText_init : Option Bool} {dd_BadText_init : Option Addr} {k0_BadText_init k1_BadText_init k2_BadText_init k3_BadText_init k5_BadText_init : Option Value}
    {file : Str}
    {C_PlayError : Addr}
    {C_BadBound : Addr}
    {C_BadCall : Addr}
    {C_BadPaper : Addr}
    {C_BadPlayer : Addr}
    {C_BadStep : Addr}
    {C_TooLarge : Addr}
    {tk_LONGEST_NAME : PySem.Tok}
    {tk_LONGEST_NUMBER : PySem.Tok}
    {tk_GREATEST_NUMBER : PySem.Tok}
    {tk_LETTERS : PySem.Tok}
    {tk_DIGITS : PySem.Tok}
    {a_KEY_WORDS : Addr} {od_KEY_WORDS : Option Addr} {n_KEY_WORDS : Nat} {sl_KEY_WORDS : Array (Option Value)} {t0_KEY_WORDS t1_KEY_WORDS t2_KEY_WORDS t3_KEY_WORDS t4_KEY_WORDS t5_KEY_WORDS t6_KEY_WORDS t7_KEY_WORDS t8_KEY_WORDS t9_KEY_WORDS t10_KEY_WORDS t11_KEY_WORDS t12_KEY_WORDS t13_KEY_WORDS t14_KEY_WORDS t15_KEY_WORDS t16_KEY_WORDS t17_KEY_WORDS t18_KEY_WORDS t19_KEY_WORDS : PySem.Tok}
    {tk_DEEPEST_PLAYER : PySem.Tok}
    {tk_MOST_TOSSED : PySem.Tok}
    {tk_MOST_PARTS : PySem.Tok}
    {a_OPERATORS : Addr} {od_OPERATORS : Option Addr} {n_OPERATORS : Nat} {sl_OPERATORS : Array (Option Value)} {t0_OPERATORS t1_OPERATORS t2_OPERATORS t3_OPERATORS t4_OPERATORS t5_OPERATORS t6_OPERATORS : PySem.Tok}
    {a_LOOKS : Addr} {od_LOOKS : Option Addr} {n_LOOKS : Nat} {sl_LOOKS : Array (Option Value)} {t0_LOOKS t1_LOOKS : PySem.Tok}
    {tk_DEEPEST_EXPRESSION : PySem.Tok}
    {tk_MOST_RULES : PySem.Tok}
    {a_KNOWN : Addr} {od_KNOWN : Option Addr} {n_KNOWN : Nat} {sl_KNOWN : Array (Option Value)} {t0_KNOWN t1_KNOWN t2_KNOWN : PySem.Tok}
    (o_n : PySem.W.specialIn K (.builtin "object.__class__") "__get__" = some (some (.builtin "getset_descriptor.__get__")))
    (o_t : PySem.W.takesIn K (.builtin "object.__class__") = some true)
    (hC_Words : PySem.W.nsIn K mainGlobals "Words" = some (some (.ref C_Words)))
    (pg_Words : PySem.W.plainGet K C_Words Str.empty = true)
    (hd_Words : PySem.W.hasDictIn K C_Words = true)
    (po_Words : PySem.W.plainOver K C_Words = true)
    (sa_Words : PySem.W.findIn K (.ref C_Words) "__setattr__" = some (some (.builtin "object.__setattr__")))
    (mk_Words : PySem.W.makesIn K C_Words = true)
    (kc_Words : PySem.W.keepIn K (.ref C_Words) = true)
    (sf_Words : PySem.W.selfFirst K C_Words = true)
    (na_Words_words : PySem.W.findIn K (.ref C_Words) "words" = some none)
    (na_Words_at : PySem.W.findIn K (.ref C_Words) "at" = some none)
    (hC_Tactic : PySem.W.nsIn K mainGlobals "Tactic" = some (some (.ref C_Tactic)))
    (pg_Tactic : PySem.W.plainGet K C_Tactic Str.empty = true)
    (hd_Tactic : PySem.W.hasDictIn K C_Tactic = true)
    (po_Tactic : PySem.W.plainOver K C_Tactic = true)
    (sa_Tactic : PySem.W.findIn K (.ref C_Tactic) "__setattr__" = some (some (.builtin "object.__setattr__")))
    (mk_Tactic : PySem.W.makesIn K C_Tactic = true)
    (kc_Tactic : PySem.W.keepIn K (.ref C_Tactic) = true)
    (sf_Tactic : PySem.W.selfFirst K C_Tactic = true)
    (na_Tactic_rules : PySem.W.findIn K (.ref C_Tactic) "rules" = some none)
    (ia_Tactic : PySem.W.findIn K (.ref C_Tactic) "__class__" = some (some (.builtin "object.__class__")))
    (im_Tactic : PySem.W.mroIn K C_Tactic (.type "object") = some true)
    (ik_Tactic : PySem.W.kitOne K (.ref C_Tactic) (.ref C_Tactic) = some true)
    (h_is_name : PySem.W.nsIn K mainGlobals "is_name" = some (some (.ref a_is_name)))
    (l_is_name : K.lookup a_is_name = some ⟨oc_is_name, od_is_name, .func (PySem.W.fnOf "is_name" "is_name" (defArgs s_is_name) (defBody s_is_name) (defScope s_is_name) .none kV_is_name dc_is_name pm_is_name an_is_name cd_is_name ct_is_name), sl_is_name⟩)
    (c_is_name : PySem.W.codeIn K cd_is_name "is_name" = true)
    (k_is_name : PySem.W.keepIn K (.ref a_is_name) = true)
    (h_is_number : PySem.W.nsIn K mainGlobals "is_number" = some (some (.ref a_is_number)))
    (l_is_number : K.lookup a_is_number = some ⟨oc_is_number, od_is_number, .func (PySem.W.fnOf "is_number" "is_number" (defArgs s_is_number) (defBody s_is_number) (defScope s_is_number) .none kV_is_number dc_is_number pm_is_number an_is_number cd_is_number ct_is_number), sl_is_number⟩)
    (c_is_number : PySem.W.codeIn K cd_is_number "is_number" = true)
    (k_is_number : PySem.W.keepIn K (.ref a_is_number) = true)
    (h_Words_init : PySem.W.findIn K (.ref C_Words) "__init__" = some (some (.ref a_Words_init)))
    (i_Words_init : PySem.W.isFn K (.ref a_Words_init) = true)
    (l_Words_init : K.lookup a_Words_init = some ⟨oc_Words_init, od_Words_init, .func (PySem.W.fnOf "__init__" "Words.__init__" (defArgs s_Words_init) (defBody s_Words_init) (defScope s_Words_init) .none kV_Words_init dc_Words_init pm_Words_init an_Words_init cd_Words_init ct_Words_init), sl_Words_init⟩)
    (c_Words_init : PySem.W.codeIn K cd_Words_init "Words.__init__" = true)
    (k_Words_init : PySem.W.keepIn K (.ref a_Words_init) = true)
    (h_Words_ended : PySem.W.findIn K (.ref C_Words) "ended" = some (some (.ref a_Words_ended)))
    (i_Words_ended : PySem.W.isFn K (.ref a_Words_ended) = true)
    (l_Words_ended : K.lookup a_Words_ended = some ⟨oc_Words_ended, od_Words_ended, .func (PySem.W.fnOf "ended" "Words.ended" (defArgs s_Words_ended) (defBody s_Words_ended) (defScope s_Words_ended) .none kV_Words_ended dc_Words_ended pm_Words_ended an_Words_ended cd_Words_ended ct_Words_ended), sl_Words_ended⟩)
    (c_Words_ended : PySem.W.codeIn K cd_Words_ended "Words.ended" = true)
    (k_Words_ended : PySem.W.keepIn K (.ref a_Words_ended) = true)
    (h_Words_ahead : PySem.W.findIn K (.ref C_Words) "ahead" = some (some (.ref a_Words_ahead)))
    (i_Words_ahead : PySem.W.isFn K (.ref a_Words_ahead) = true)
    (l_Words_ahead : K.lookup a_Words_ahead = some ⟨oc_Words_ahead, od_Words_ahead, .func (PySem.W.fnOf "ahead" "Words.ahead" (defArgs s_Words_ahead) (defBody s_Words_ahead) (defScope s_Words_ahead) .none kV_Words_ahead dc_Words_ahead pm_Words_ahead an_Words_ahead cd_Words_ahead ct_Words_ahead), sl_Words_ahead⟩)
    (c_Words_ahead : PySem.W.codeIn K cd_Words_ahead "Words.ahead" = true)
    (k_Words_ahead : PySem.W.keepIn K (.ref a_Words_ahead) = true)
    (h_Words_refuse : PySem.W.findIn K (.ref C_Words) "refuse" = some (some (.ref a_Words_refuse)))
    (i_Words_refuse : PySem.W.isFn K (.ref a_Words_refuse) = true)
    (l_Words_refuse : K.lookup a_Words_refuse = some ⟨oc_Words_refuse, od_Words_refuse, .func (PySem.W.fnOf "refuse" "Words.refuse" (defArgs s_Words_refuse) (defBody s_Words_refuse) (defScope s_Words_refuse) .none kV_Words_refuse dc_Words_refuse pm_Words_refuse an_Words_refuse cd_Words_refuse ct_Words_refuse), sl_Words_refuse⟩)
    (c_Words_refuse : PySem.W.codeIn K cd_Words_refuse "Words.refuse" = true)
    (k_Words_refuse : PySem.W.keepIn K (.ref a_Words_refuse) = true)
    (h_Words_take : PySem.W.findIn K (.ref C_Words) "take" = some (some (.ref a_Words_take)))
    (i_Words_take : PySem.W.isFn K (.ref a_Words_take) = true)
    (l_Words_take : K.lookup a_Words_take = some ⟨oc_Words_take, od_Words_take, .func (PySem.W.fnOf "take" "Words.take" (defArgs s_Words_take) (defBody s_Words_take) (defScope s_Words_take) .none kV_Words_take dc_Words_take pm_Words_take an_Words_take cd_Words_take ct_Words_take), sl_Words_take⟩)
    (c_Words_take : PySem.W.codeIn K cd_Words_take "Words.take" = true)
    (k_Words_take : PySem.W.keepIn K (.ref a_Words_take) = true)
    (h_Words_one_of : PySem.W.findIn K (.ref C_Words) "one_of" = some (some (.ref a_Words_one_of)))
    (i_Words_one_of : PySem.W.isFn K (.ref a_Words_one_of) = true)
    (l_Words_one_of : K.lookup a_Words_one_of = some ⟨oc_Words_one_of, od_Words_one_of, .func (PySem.W.fnOf "one_of" "Words.one_of" (defArgs s_Words_one_of) (defBody s_Words_one_of) (defScope s_Words_one_of) .none kV_Words_one_of dc_Words_one_of pm_Words_one_of an_Words_one_of cd_Words_one_of ct_Words_one_of), sl_Words_one_of⟩)
    (c_Words_one_of : PySem.W.codeIn K cd_Words_one_of "Words.one_of" = true)
    (k_Words_one_of : PySem.W.keepIn K (.ref a_Words_one_of) = true)
    (h_Words_name : PySem.W.findIn K (.ref C_Words) "name" = some (some (.ref a_Words_name)))
    (i_Words_name : PySem.W.isFn K (.ref a_Words_name) = true)
    (l_Words_name : K.lookup a_Words_name = some ⟨oc_Words_name, od_Words_name, .func (PySem.W.fnOf "name" "Words.name" (defArgs s_Words_name) (defBody s_Words_name) (defScope s_Words_name) (.ref dT_Words_name) kV_Words_name dc_Words_name pm_Words_name an_Words_name cd_Words_name ct_Words_name), sl_Words_name⟩)
    (dl_Words_name : K.lookup dT_Words_name = some ⟨dc2_Words_name, dd2_Words_name, .seq #[.ref te0_Words_name] dn_Words_name, dsl_Words_name⟩)
    (lt0_Words_name : K.lookup te0_Words_name = some ⟨.type "tuple", teo0_Words_name, .seq #[] ten0_Words_name, tes0_Words_name⟩)
    (c_Words_name : PySem.W.codeIn K cd_Words_name "Words.name" = true)
    (k_Words_name : PySem.W.keepIn K (.ref a_Words_name) = true)
    (h_Words_number : PySem.W.findIn K (.ref C_Words) "number" = some (some (.ref a_Words_number)))
    (i_Words_number : PySem.W.isFn K (.ref a_Words_number) = true)
    (l_Words_number : K.lookup a_Words_number = some ⟨oc_Words_number, od_Words_number, .func (PySem.W.fnOf "number" "Words.number" (defArgs s_Words_number) (defBody s_Words_number) (defScope s_Words_number) .none kV_Words_number dc_Words_number pm_Words_number an_Words_number cd_Words_number ct_Words_number), sl_Words_number⟩)
    (c_Words_number : PySem.W.codeIn K cd_Words_number "Words.number" = true)
    (k_Words_number : PySem.W.keepIn K (.ref a_Words_number) = true)
    (h_Words_finish : PySem.W.findIn K (.ref C_Words) "finish" = some (some (.ref a_Words_finish)))
    (i_Words_finish : PySem.W.isFn K (.ref a_Words_finish) = true)
    (l_Words_finish : K.lookup a_Words_finish = some ⟨oc_Words_finish, od_Words_finish, .func (PySem.W.fnOf "finish" "Words.finish" (defArgs s_Words_finish) (defBody s_Words_finish) (defScope s_Words_finish) .none kV_Words_finish dc_Words_finish pm_Words_finish an_Words_finish cd_Words_finish ct_Words_finish), sl_Words_finish⟩)
    (c_Words_finish : PySem.W.codeIn K cd_Words_finish "Words.finish" = true)
    (k_Words_finish : PySem.W.keepIn K (.ref a_Words_finish) = true)
    (h_read_expression : PySem.W.nsIn K mainGlobals "read_expression" = some (some (.ref a_read_expression)))
    (l_read_expression : K.lookup a_read_expression = some ⟨oc_read_expression, od_read_expression, .func (PySem.W.fnOf "read_expression" "read_expression" (defArgs s_read_expression) (defBody s_read_expression) (defScope s_read_expression) (.ref dT_read_expression) kV_read_expression dc_read_expression pm_read_expression an_read_expression cd_read_expression ct_read_expression), sl_read_expression⟩)
    (dl_read_expression : K.lookup dT_read_expression = some ⟨dc2_read_expression, dd2_read_expression, .seq #[.int 1 tk0_read_expression] dn_read_expression, dsl_read_expression⟩)
    (c_read_expression : PySem.W.codeIn K cd_read_expression "read_expression" = true)
    (k_read_expression : PySem.W.keepIn K (.ref a_read_expression) = true)
    (h_expression_words : PySem.W.nsIn K mainGlobals "expression_words" = some (some (.ref a_expression_words)))
    (l_expression_words : K.lookup a_expression_words = some ⟨oc_expression_words, od_expression_words, .func (PySem.W.fnOf "expression_words" "expression_words" (defArgs s_expression_words) (defBody s_expression_words) (defScope s_expression_words) .none kV_expression_words dc_expression_words pm_expression_words an_expression_words cd_expression_words ct_expression_words), sl_expression_words⟩)
    (c_expression_words : PySem.W.codeIn K cd_expression_words "expression_words" = true)
    (k_expression_words : PySem.W.keepIn K (.ref a_expression_words) = true)
    (h_Tactic_init : PySem.W.findIn K (.ref C_Tactic) "__init__" = some (some (.ref a_Tactic_init)))
    (i_Tactic_init : PySem.W.isFn K (.ref a_Tactic_init) = true)
    (l_Tactic_init : K.lookup a_Tactic_init = some ⟨oc_Tactic_init, od_Tactic_init, .func (PySem.W.fnOf "__init__" "Tactic.__init__" (defArgs s_Tactic_init) (defBody s_Tactic_init) (defScope s_Tactic_init) .none kV_Tactic_init dc_Tactic_init pm_Tactic_init an_Tactic_init cd_Tactic_init ct_Tactic_init), sl_Tactic_init⟩)
    (c_Tactic_init : PySem.W.codeIn K cd_Tactic_init "Tactic.__init__" = true)
    (k_Tactic_init : PySem.W.keepIn K (.ref a_Tactic_init) = true)
    (h_Tactic_eq : PySem.W.findIn K (.ref C_Tactic) "__eq__" = some (some (.ref a_Tactic_eq)))
    (i_Tactic_eq : PySem.W.isFn K (.ref a_Tactic_eq) = true)
    (l_Tactic_eq : K.lookup a_Tactic_eq = some ⟨oc_Tactic_eq, od_Tactic_eq, .func (PySem.W.fnOf "__eq__" "Tactic.__eq__" (defArgs s_Tactic_eq) (defBody s_Tactic_eq) (defScope s_Tactic_eq) .none kV_Tactic_eq dc_Tactic_eq pm_Tactic_eq an_Tactic_eq cd_Tactic_eq ct_Tactic_eq), sl_Tactic_eq⟩)
    (c_Tactic_eq : PySem.W.codeIn K cd_Tactic_eq "Tactic.__eq__" = true)
    (k_Tactic_eq : PySem.W.keepIn K (.ref a_Tactic_eq) = true)
    (h_read_tactic : PySem.W.nsIn K mainGlobals "read_tactic" = some (some (.ref a_read_tactic)))
    (l_read_tactic : K.lookup a_read_tactic = some ⟨oc_read_tactic, od_read_tactic, .func (PySem.W.fnOf "read_tactic" "read_tactic" (defArgs s_read_tactic) (defBody s_read_tactic) (defScope s_read_tactic) .none kV_read_tactic dc_read_tactic pm_read_tactic an_read_tactic cd_read_tactic ct_read_tactic), sl_read_tactic⟩)
    (c_read_tactic : PySem.W.codeIn K cd_read_tactic "read_tactic" = true)
    (k_read_tactic : PySem.W.keepIn K (.ref a_read_tactic) = true)
    (h_read_rule : PySem.W.nsIn K mainGlobals "read_rule" = some (some (.ref a_read_rule)))
    (l_read_rule : K.lookup a_read_rule = some ⟨oc_read_rule, od_read_rule, .func (PySem.W.fnOf "read_rule" "read_rule" (defArgs s_read_rule) (defBody s_read_rule) (defScope s_read_rule) .none kV_read_rule dc_read_rule pm_read_rule an_read_rule cd_read_rule ct_read_rule), sl_read_rule⟩)
    (c_read_rule : PySem.W.codeIn K cd_read_rule "read_rule" = true)
    (k_read_rule : PySem.W.keepIn K (.ref a_read_rule) = true)
    (h_read_part : PySem.W.nsIn K mainGlobals "read_part" = some (some (.ref a_read_part)))
    (l_read_part : K.lookup a_read_part = some ⟨oc_read_part, od_read_part, .func (PySem.W.fnOf "read_part" "read_part" (defArgs s_read_part) (defBody s_read_part) (defScope s_read_part) .none kV_read_part dc_read_part pm_read_part an_read_part cd_read_part ct_read_part), sl_read_part⟩)
    (c_read_part : PySem.W.codeIn K cd_read_part "read_part" = true)
    (k_read_part : PySem.W.keepIn K (.ref a_read_part) = true)
    (h_tactic_text : PySem.W.nsIn K mainGlobals "tactic_text" = some (some (.ref a_tactic_text)))
    (l_tactic_text : K.lookup a_tactic_text = some ⟨oc_tactic_text, od_tactic_text, .func (PySem.W.fnOf "tactic_text" "tactic_text" (defArgs s_tactic_text) (defBody s_tactic_text) (defScope s_tactic_text) .none kV_tactic_text dc_tactic_text pm_tactic_text an_tactic_text cd_tactic_text ct_tactic_text), sl_tactic_text⟩)
    (c_tactic_text : PySem.W.codeIn K cd_tactic_text "tactic_text" = true)
    (k_tactic_text : PySem.W.keepIn K (.ref a_tactic_text) = true)
    (h_read_player : PySem.W.nsIn K mainGlobals "read_player" = some (some (.ref a_read_player)))
    (l_read_player : K.lookup a_read_player = some ⟨oc_read_player, od_read_player, .func (PySem.W.fnOf "read_player" "read_player" (defArgs s_read_player) (defBody s_read_player) (defScope s_read_player) .none kV_read_player dc_read_player pm_read_player an_read_player cd_read_player ct_read_player), sl_read_player⟩)
    (c_read_player : PySem.W.codeIn K cd_read_player "read_player" = true)
    (k_read_player : PySem.W.keepIn K (.ref a_read_player) = true)
    (h_read_below : PySem.W.nsIn K mainGlobals "read_below" = some (some (.ref a_read_below)))
    (l_read_below : K.lookup a_read_below = some ⟨oc_read_below, od_read_below, .func (PySem.W.fnOf "read_below" "read_below" (defArgs s_read_below) (defBody s_read_below) (defScope s_read_below) .none kV_read_below dc_read_below pm_read_below an_read_below cd_read_below ct_read_below), sl_read_below⟩)
    (c_read_below : PySem.W.codeIn K cd_read_below "read_below" = true)
    (k_read_below : PySem.W.keepIn K (.ref a_read_below) = true)
    (h_read_parts : PySem.W.nsIn K mainGlobals "read_parts" = some (some (.ref a_read_parts)))
    (l_read_parts : K.lookup a_read_parts = some ⟨oc_read_parts, od_read_parts, .func (PySem.W.fnOf "read_parts" "read_parts" (defArgs s_read_parts) (defBody s_read_parts) (defScope s_read_parts) .none kV_read_parts dc_read_parts pm_read_parts an_read_parts cd_read_parts ct_read_parts), sl_read_parts⟩)
    (c_read_parts : PySem.W.codeIn K cd_read_parts "read_parts" = true)
    (k_read_parts : PySem.W.keepIn K (.ref a_read_parts) = true)
    (h_player_text : PySem.W.nsIn K mainGlobals "player_text" = some (some (.ref a_player_text)))
    (l_player_text : K.lookup a_player_text = some ⟨oc_player_text, od_player_text, .func (PySem.W.fnOf "player_text" "player_text" (defArgs s_player_text) (defBody s_player_text) (defScope s_player_text) .none kV_player_text dc_player_text pm_player_text an_player_text cd_player_text ct_player_text), sl_player_text⟩)
    (c_player_text : PySem.W.codeIn K cd_player_text "player_text" = true)
    (k_player_text : PySem.W.keepIn K (.ref a_player_text) = true)
    (h_player_words : PySem.W.nsIn K mainGlobals "player_words" = some (some (.ref a_player_words)))
    (l_player_words : K.lookup a_player_words = some ⟨oc_player_words, od_player_words, .func (PySem.W.fnOf "player_words" "player_words" (defArgs s_player_words) (defBody s_player_words) (defScope s_player_words) .none kV_player_words dc_player_words pm_player_words an_player_words cd_player_words ct_player_words), sl_player_words⟩)
    (c_player_words : PySem.W.codeIn K cd_player_words "player_words" = true)
    (k_player_words : PySem.W.keepIn K (.ref a_player_words) = true)
    (h_law_pool : PySem.W.nsIn K mainGlobals "_law_pool" = some (some (.ref a_law_pool)))
    (l_law_pool : K.lookup a_law_pool = some ⟨oc_law_pool, od_law_pool, .func (PySem.W.fnOf "_law_pool" "_law_pool" (defArgs s_law_pool) (defBody s_law_pool) (defScope s_law_pool) .none kV_law_pool dc_law_pool pm_law_pool an_law_pool cd_law_pool ct_law_pool), sl_law_pool⟩)
    (c_law_pool : PySem.W.codeIn K cd_law_pool "_law_pool" = true)
    (k_law_pool : PySem.W.keepIn K (.ref a_law_pool) = true)
    (h_law_draw : PySem.W.nsIn K mainGlobals "_law_draw" = some (some (.ref a_law_draw)))
    (l_law_draw : K.lookup a_law_draw = some ⟨oc_law_draw, od_law_draw, .func (PySem.W.fnOf "_law_draw" "_law_draw" (defArgs s_law_draw) (defBody s_law_draw) (defScope s_law_draw) .none kV_law_draw dc_law_draw pm_law_draw an_law_draw cd_law_draw ct_law_draw), sl_law_draw⟩)
    (c_law_draw : PySem.W.codeIn K cd_law_draw "_law_draw" = true)
    (k_law_draw : PySem.W.keepIn K (.ref a_law_draw) = true)
    (h_law_same : PySem.W.nsIn K mainGlobals "_law_same" = some (some (.ref a_law_same)))
    (l_law_same : K.lookup a_law_same = some ⟨oc_law_same, od_law_same, .func (PySem.W.fnOf "_law_same" "_law_same" (defArgs s_law_same) (defBody s_law_same) (defScope s_law_same) .none kV_law_same dc_law_same pm_law_same an_law_same cd_law_same ct_law_same), sl_law_same⟩)
    (c_law_same : PySem.W.codeIn K cd_law_same "_law_same" = true)
    (k_law_same : PySem.W.keepIn K (.ref a_law_same) = true)
    (h_law_is_number : PySem.W.nsIn K mainGlobals "_law_is_number" = some (some (.ref a_law_is_number)))
    (l_law_is_number : K.lookup a_law_is_number = some ⟨oc_law_is_number, od_law_is_number, .func (PySem.W.fnOf "_law_is_number" "_law_is_number" (defArgs s_law_is_number) (defBody s_law_is_number) (defScope s_law_is_number) .none kV_law_is_number dc_law_is_number pm_law_is_number an_law_is_number cd_law_is_number ct_law_is_number), sl_law_is_number⟩)
    (c_law_is_number : PySem.W.codeIn K cd_law_is_number "_law_is_number" = true)
    (k_law_is_number : PySem.W.keepIn K (.ref a_law_is_number) = true)
    (h_law_is_name : PySem.W.nsIn K mainGlobals "_law_is_name" = some (some (.ref a_law_is_name)))
    (l_law_is_name : K.lookup a_law_is_name = some ⟨oc_law_is_name, od_law_is_name, .func (PySem.W.fnOf "_law_is_name" "_law_is_name" (defArgs s_law_is_name) (defBody s_law_is_name) (defScope s_law_is_name) .none kV_law_is_name dc_law_is_name pm_law_is_name an_law_is_name cd_law_is_name ct_law_is_name), sl_law_is_name⟩)
    (c_law_is_name : PySem.W.codeIn K cd_law_is_name "_law_is_name" = true)
    (k_law_is_name : PySem.W.keepIn K (.ref a_law_is_name) = true)
    (h_law_player : PySem.W.nsIn K mainGlobals "_law_player" = some (some (.ref a_law_player)))
    (l_law_player : K.lookup a_law_player = some ⟨oc_law_player, od_law_player, .func (PySem.W.fnOf "_law_player" "_law_player" (defArgs s_law_player) (defBody s_law_player) (defScope s_law_player) .none kV_law_player dc_law_player pm_law_player an_law_player cd_law_player ct_law_player), sl_law_player⟩)
    (c_law_player : PySem.W.codeIn K cd_law_player "_law_player" = true)
    (k_law_player : PySem.W.keepIn K (.ref a_law_player) = true)
    (h_law_tactic : PySem.W.nsIn K mainGlobals "_law_tactic" = some (some (.ref a_law_tactic)))
    (l_law_tactic : K.lookup a_law_tactic = some ⟨oc_law_tactic, od_law_tactic, .func (PySem.W.fnOf "_law_tactic" "_law_tactic" (defArgs s_law_tactic) (defBody s_law_tactic) (defScope s_law_tactic) .none kV_law_tactic dc_law_tactic pm_law_tactic an_law_tactic cd_law_tactic ct_law_tactic), sl_law_tactic⟩)
    (c_law_tactic : PySem.W.codeIn K cd_law_tactic "_law_tactic" = true)
    (k_law_tactic : PySem.W.keepIn K (.ref a_law_tactic) = true)
    (h_law_wrong : PySem.W.nsIn K mainGlobals "_law_wrong" = some (some (.ref a_law_wrong)))
    (l_law_wrong : K.lookup a_law_wrong = some ⟨oc_law_wrong, od_law_wrong, .func (PySem.W.fnOf "_law_wrong" "_law_wrong" (defArgs s_law_wrong) (defBody s_law_wrong) (defScope s_law_wrong) .none kV_law_wrong dc_law_wrong pm_law_wrong an_law_wrong cd_law_wrong ct_law_wrong), sl_law_wrong⟩)
    (c_law_wrong : PySem.W.codeIn K cd_law_wrong "_law_wrong" = true)
    (k_law_wrong : PySem.W.keepIn K (.ref a_law_wrong) = true)
    (h_law_menu : PySem.W.nsIn K mainGlobals "_law_menu" = some (some (.ref a_law_menu)))
    (l_law_menu : K.lookup a_law_menu = some ⟨oc_law_menu, od_law_menu, .func (PySem.W.fnOf "_law_menu" "_law_menu" (defArgs s_law_menu) (defBody s_law_menu) (defScope s_law_menu) .none kV_law_menu dc_law_menu pm_law_menu an_law_menu cd_law_menu ct_law_menu), sl_law_menu⟩)
    (c_law_menu : PySem.W.codeIn K cd_law_menu "_law_menu" = true)
    (k_law_menu : PySem.W.keepIn K (.ref a_law_menu) = true)
    (h_law_value : PySem.W.nsIn K mainGlobals "_law_value" = some (some (.ref a_law_value)))
    (l_law_value : K.lookup a_law_value = some ⟨oc_law_value, od_law_value, .func (PySem.W.fnOf "_law_value" "_law_value" (defArgs s_law_value) (defBody s_law_value) (defScope s_law_value) .none kV_law_value dc_law_value pm_law_value an_law_value cd_law_value ct_law_value), sl_law_value⟩)
    (c_law_value : PySem.W.codeIn K cd_law_value "_law_value" = true)
    (k_law_value : PySem.W.keepIn K (.ref a_law_value) = true)
    (h_law_chain : PySem.W.nsIn K mainGlobals "_law_chain" = some (some (.ref a_law_chain)))
    (l_law_chain : K.lookup a_law_chain = some ⟨oc_law_chain, od_law_chain, .func (PySem.W.fnOf "_law_chain" "_law_chain" (defArgs s_law_chain) (defBody s_law_chain) (defScope s_law_chain) .none kV_law_chain dc_law_chain pm_law_chain an_law_chain cd_law_chain ct_law_chain), sl_law_chain⟩)
    (c_law_chain : PySem.W.codeIn K cd_law_chain "_law_chain" = true)
    (k_law_chain : PySem.W.keepIn K (.ref a_law_chain) = true)
    (h_law_rules : PySem.W.nsIn K mainGlobals "_law_rules" = some (some (.ref a_law_rules)))
    (l_law_rules : K.lookup a_law_rules = some ⟨oc_law_rules, od_law_rules, .func (PySem.W.fnOf "_law_rules" "_law_rules" (defArgs s_law_rules) (defBody s_law_rules) (defScope s_law_rules) .none kV_law_rules dc_law_rules pm_law_rules an_law_rules cd_law_rules ct_law_rules), sl_law_rules⟩)
    (c_law_rules : PySem.W.codeIn K cd_law_rules "_law_rules" = true)
    (k_law_rules : PySem.W.keepIn K (.ref a_law_rules) = true)
    (h_law_walked : PySem.W.nsIn K mainGlobals "_law_walked" = some (some (.ref a_law_walked)))
    (l_law_walked : K.lookup a_law_walked = some ⟨oc_law_walked, od_law_walked, .func (PySem.W.fnOf "_law_walked" "_law_walked" (defArgs s_law_walked) (defBody s_law_walked) (defScope s_law_walked) .none kV_law_walked dc_law_walked pm_law_walked an_law_walked cd_law_walked ct_law_walked), sl_law_walked⟩)
    (c_law_walked : PySem.W.codeIn K cd_law_walked "_law_walked" = true)
    (k_law_walked : PySem.W.keepIn K (.ref a_law_walked) = true)
    (h_law_changed : PySem.W.nsIn K mainGlobals "_law_changed" = some (some (.ref a_law_changed)))
    (l_law_changed : K.lookup a_law_changed = some ⟨oc_law_changed, od_law_changed, .func (PySem.W.fnOf "_law_changed" "_law_changed" (defArgs s_law_changed) (defBody s_law_changed) (defScope s_law_changed) .none kV_law_changed dc_law_changed pm_law_changed an_law_changed cd_law_changed ct_law_changed), sl_law_changed⟩)
    (c_law_changed : PySem.W.codeIn K cd_law_changed "_law_changed" = true)
    (k_law_changed : PySem.W.keepIn K (.ref a_law_changed) = true)
    (h_law : PySem.W.nsIn K mainGlobals "law" = some (some (.ref a_law)))
    (l_law : K.lookup a_law = some ⟨oc_law, od_law, .func (PySem.W.fnOf "law" "law" (defArgs s_law) (defBody s_law) (defScope s_law) .none kV_law dc_law pm_law an_law cd_law ct_law), sl_law⟩)
    (c_law : PySem.W.codeIn K cd_law "law" = true)
    (k_law : PySem.W.keepIn K (.ref a_law) = true)
    (hC_BadText : PySem.W.nsIn K mainGlobals "BadText" = some (some (.ref C_BadText)))
    (kc_BadText : PySem.W.keepIn K (.ref C_BadText) = true)
    (xb_BadText : PySem.W.subIn K (.ref C_BadText) (.type "BaseException") = some true)
    (xt_BadText : PySem.W.typeIn K (.ref C_BadText) = some (.type "type"))
    (xd_BadText : PySem.W.hasDictIn K C_BadText = true)
    (any_ : PySem.W.nsIn K cStatics "thirdparty.any" = some none)
    (zn_super : PySem.W.nsIn K mainGlobals "super" = some none)
    (hi_BadText_init : PySem.W.findIn K (.ref C_BadText) "__init__" = some (some (.ref a_BadText_init)))
    (ti_BadText_init : PySem.W.typeIn K (.ref a_BadText_init) = some (.type "function"))
    (li_BadText_init : K.lookup a_BadText_init = some ⟨oc_BadText_init, od_BadText_init, .func (PySem.W.ksFn "__init__" "BadText.__init__" (defArgs s_BadText_init) (defBody s_BadText_init) (defScope s_BadText_init) .none kV_BadText_init dc_BadText_init pm_BadText_init an_BadText_init (.ref cda_BadText_init) ct_BadText_init cc_BadText_init), sl_BadText_init⟩)
    (ci_BadText_init : PySem.W.codeIn K (.ref cda_BadText_init) "BadText.__init__" = true)
    (di_BadText_init : K.lookup cda_BadText_init = some ⟨ccl_BadText_init, cdd_BadText_init, .fields vs_BadText_init, ccs_BadText_init⟩)
    (vi_BadText_init : vs_BadText_init[2]? = some (.str file tf_BadText_init))
    (xi_BadText_init : K.lookup cc_BadText_init = some ⟨cl_BadText_init, cld_BadText_init, .cell (some (.ref C_BadText)), csl_BadText_init⟩)
    (si_BadText_init : PySem.W.ks_superIn K C_BadText C_BadText "__init__" = some (some (.builtin "ValueError.__init__")))
    (ui_BadText_init : PySem.W.subIn K (.ref C_BadText) (.type "ValueError") = some true)
    (mi_BadText_init : PySem.W.mroIn K C_BadText (.ref C_BadText) = some true)
    (lc_BadText_init : K.lookup C_BadText = some (excClassObj nm_BadText_init q_BadText_init C_BadText N_BadText_init bs_BadText_init bm_BadText_init true sn_BadText_init sub_BadText_init ab_BadText_init col_BadText_init dd_BadText_init k0_BadText_init k1_BadText_init k2_BadText_init k3_BadText_init k5_BadText_init "ValueError.__new__"))
    (rm_BadText_init : PySem.HandSPX.refsVE bm_BadText_init = true)
    (sa_BadText_init : PySem.W.findIn K (.ref C_BadText) "__setattr__" = some (some (.builtin "object.__setattr__")))
    (no_BadText_init : PySem.W.findIn K (.ref C_BadText) "at" = some none)
    (hC_PlayError : PySem.W.nsIn K mainGlobals "PlayError" = some (some (.ref C_PlayError)))
    (kc_PlayError : PySem.W.keepIn K (.ref C_PlayError) = true)
    (xb_PlayError : PySem.W.subIn K (.ref C_PlayError) (.type "BaseException") = some true)
    (xt_PlayError : PySem.W.typeIn K (.ref C_PlayError) = some (.type "type"))
    (xd_PlayError : PySem.W.hasDictIn K C_PlayError = true)
    (hC_BadBound : PySem.W.nsIn K mainGlobals "BadBound" = some (some (.ref C_BadBound)))
    (hC_BadCall : PySem.W.nsIn K mainGlobals "BadCall" = some (some (.ref C_BadCall)))
    (hC_BadPaper : PySem.W.nsIn K mainGlobals "BadPaper" = some (some (.ref C_BadPaper)))
    (hC_BadPlayer : PySem.W.nsIn K mainGlobals "BadPlayer" = some (some (.ref C_BadPlayer)))
    (hC_BadStep : PySem.W.nsIn K mainGlobals "BadStep" = some (some (.ref C_BadStep)))
    (hC_TooLarge : PySem.W.nsIn K mainGlobals "TooLarge" = some (some (.ref C_TooLarge)))
    (eg_BadText : PySem.W.findIn K (.ref C_BadText) "__getattribute__" = some (some (.builtin "BaseException.__getattribute__")))
    (ek_BadText : PySem.W.findIn K (.ref C_BadText) "__getattr__" = some none)
    (ea_BadText : PySem.W.findIn K (.ref C_BadText) "__class__" = some (some (.builtin "object.__class__")))
    (em_BadText : PySem.W.mroIn K C_BadText (.type "object") = some true)
    (hg_LONGEST_NAME : PySem.W.nsIn K mainGlobals "LONGEST_NAME" = some (some (.int 12 tk_LONGEST_NAME)))
    (hg_LONGEST_NUMBER : PySem.W.nsIn K mainGlobals "LONGEST_NUMBER" = some (some (.int 5 tk_LONGEST_NUMBER)))
    (hg_GREATEST_NUMBER : PySem.W.nsIn K mainGlobals "GREATEST_NUMBER" = some (some (.int 65535 tk_GREATEST_NUMBER)))
    (hg_LETTERS : PySem.W.nsIn K mainGlobals "LETTERS" = some (some (.str "abcdefghijklmnopqrstuvwxyz" tk_LETTERS)))
    (hg_DIGITS : PySem.W.nsIn K mainGlobals "DIGITS" = some (some (.str "0123456789" tk_DIGITS)))
    (hg_KEY_WORDS : PySem.W.nsIn K mainGlobals "KEY_WORDS" = some (some (.ref a_KEY_WORDS)))
    (lq_KEY_WORDS : K.lookup a_KEY_WORDS = some ⟨.type "tuple", od_KEY_WORDS, .seq #[.str "var" t0_KEY_WORDS, .str "table" t1_KEY_WORDS, .str "lots" t2_KEY_WORDS, .str "proc" t3_KEY_WORDS, .str "local" t4_KEY_WORDS, .str "set" t5_KEY_WORDS, .str "let" t6_KEY_WORDS, .str "draw" t7_KEY_WORDS, .str "put" t8_KEY_WORDS, .str "lot" t9_KEY_WORDS, .str "ask" t10_KEY_WORDS, .str "if" t11_KEY_WORDS, .str "else" t12_KEY_WORDS, .str "end" t13_KEY_WORDS, .str "bad" t14_KEY_WORDS, .str "after" t15_KEY_WORDS, .str "answer" t16_KEY_WORDS, .str "has" t17_KEY_WORDS, .str "cell" t18_KEY_WORDS, .str "mod" t19_KEY_WORDS] n_KEY_WORDS, sl_KEY_WORDS⟩)
    (hg_DEEPEST_PLAYER : PySem.W.nsIn K mainGlobals "DEEPEST_PLAYER" = some (some (.int 8 tk_DEEPEST_PLAYER)))
    (hg_MOST_TOSSED : PySem.W.nsIn K mainGlobals "MOST_TOSSED" = some (some (.int 16 tk_MOST_TOSSED)))
    (hg_MOST_PARTS : PySem.W.nsIn K mainGlobals "MOST_PARTS" = some (some (.int 64 tk_MOST_PARTS)))
    (hg_OPERATORS : PySem.W.nsIn K mainGlobals "OPERATORS" = some (some (.ref a_OPERATORS)))
    (lq_OPERATORS : K.lookup a_OPERATORS = some ⟨.type "tuple", od_OPERATORS, .seq #[.str "+" t0_OPERATORS, .str "-" t1_OPERATORS, .str "*" t2_OPERATORS, .str "/" t3_OPERATORS, .str "mod" t4_OPERATORS, .str "<" t5_OPERATORS, .str "=" t6_OPERATORS] n_OPERATORS, sl_OPERATORS⟩)
    (hg_LOOKS : PySem.W.nsIn K mainGlobals "LOOKS" = some (some (.ref a_LOOKS)))
    (lq_LOOKS : K.lookup a_LOOKS = some ⟨.type "tuple", od_LOOKS, .seq #[.str "has" t0_LOOKS, .str "cell" t1_LOOKS] n_LOOKS, sl_LOOKS⟩)
    (hg_DEEPEST_EXPRESSION : PySem.W.nsIn K mainGlobals "DEEPEST_EXPRESSION" = some (some (.int 8 tk_DEEPEST_EXPRESSION)))
    (hg_MOST_RULES : PySem.W.nsIn K mainGlobals "MOST_RULES" = some (some (.int 20 tk_MOST_RULES)))
    (hg_KNOWN : PySem.W.nsIn K mainGlobals "KNOWN" = some (some (.ref a_KNOWN)))
    (lq_KNOWN : K.lookup a_KNOWN = some ⟨.type "tuple", od_KNOWN, .seq #[.str "last" t0_KNOWN, .str "made" t1_KNOWN, .str "kept" t2_KNOWN] n_KNOWN, sl_KNOWN⟩)
    (zn_len : PySem.W.nsIn K mainGlobals "len" = some none)
    (zn_all : PySem.W.nsIn K mainGlobals "all" = some none)
    (zn_int : PySem.W.nsIn K mainGlobals "int" = some none)
    (zn_str : PySem.W.nsIn K mainGlobals "str" = some none)
    (zn_tuple : PySem.W.nsIn K mainGlobals "tuple" = some none)
    (zn_list : PySem.W.nsIn K mainGlobals "list" = some none)
    (zn_range : PySem.W.nsIn K mainGlobals "range" = some none)
    (zn_isinstance : PySem.W.nsIn K mainGlobals "isinstance" = some none)
    (zn_abs : PySem.W.nsIn K mainGlobals "abs" = some none)
    (zn_bool : PySem.W.nsIn K mainGlobals "bool" = some none)
    (xga_BadText : PySem.W.findIn K (.ref C_BadText) "__getattribute__" = some (some (.builtin "BaseException.__getattribute__")))
    (xgg_BadText : PySem.W.findIn K (.ref C_BadText) "__getattr__" = some none)
    (sub_tp : PySem.W.subIn K (.ref C_BadText) (.ref C_PlayError) = some true)
    (ki_tt : PySem.W.kitOne K (.ref C_BadText) (.ref C_BadText) = some true)
    (ki_e : PySem.W.kitAny K (.ref C_BadText) [.ref C_BadBound, .ref C_BadCall, .ref C_BadPaper, .ref C_BadPlayer, .ref C_BadStep, .ref C_TooLarge] = some false)
    (hP_ : PrF l.prog file) :
    ∃ fd : FuncData, (∀ (s : Shared) (v : Value), BindsTo s fd ⟨[v], []⟩ [("script", v)]) ∧ ∀ base : Heap, K.In base → base.Ns mainGlobals mg → FnOk l.prog w K mg base CX0 60 fa fd ["script"] (spLaw K) := by
  have e := hfa.symm.trans (PySem.W.mg_of X G h_law)
  cases e
  have F_is_name := fun_mk (st := s_is_name) l_is_name c_is_name k_is_name
  have b_is_name := F_is_name.binds (ps := ["word"]) fun _ _ _ _ _ _ us hl => match us, hl with | [_], _ => rfl
  have F_is_number := fun_mk (st := s_is_number) l_is_number c_is_number k_is_number
  have b_is_number := F_is_number.binds (ps := ["word"]) fun _ _ _ _ _ _ us hl => match us, hl with | [_], _ => rfl
  have F_Words_init := fun_mk (st := s_Words_init) l_Words_init c_Words_init k_Words_init
  have b_Words_init := F_Words_init.binds (ps := ["self", "text"]) fun _ _ _ _ _ _ us hl => match us, hl with | [_, _], _ => rfl
  have F_Words_ended := fun_mk (st := s_Words_ended) l_Words_ended c_Words_ended k_Words_ended
  have b_Words_ended := F_Words_ended.binds (ps := ["self"]) fun _ _ _ _ _ _ us hl => match us, hl with | [_], _ => rfl
  have F_Words_ahead := fun_mk (st := s_Words_ahead) l_Words_ahead c_Words_ahead k_Words_ahead
  have b_Words_ahead := F_Words_ahead.binds (ps := ["self"]) fun _ _ _ _ _ _ us hl => match us, hl with | [_], _ => rfl
  have F_Words_refuse := fun_mk (st := s_Words_refuse) l_Words_refuse c_Words_refuse k_Words_refuse
  have b_Words_refuse := F_Words_refuse.binds (ps := ["self"]) fun _ _ _ _ _ _ us hl => match us, hl with | [_], _ => rfl
  have F_Words_take := fun_mk (st := s_Words_take) l_Words_take c_Words_take k_Words_take
  have b_Words_take := F_Words_take.binds (ps := ["self"]) fun _ _ _ _ _ _ us hl => match us, hl with | [_], _ => rfl
  have F_Words_one_of := fun_mk (st := s_Words_one_of) l_Words_one_of c_Words_one_of k_Words_one_of
  have b_Words_one_of := F_Words_one_of.binds (ps := ["self", "choices"]) fun _ _ _ _ _ _ us hl => match us, hl with | [_, _], _ => rfl
  have F_Words_name : FunD K "name" "Words.name" (defArgs s_Words_name) (defBody s_Words_name) (defScope s_Words_name) [.ref te0_Words_name] [] a_Words_name (PySem.W.fnOf "name" "Words.name" (defArgs s_Words_name) (defBody s_Words_name) (defScope s_Words_name) (.ref dT_Words_name) kV_Words_name dc_Words_name pm_Words_name an_Words_name cd_Words_name ct_Words_name) := ⟨⟨_, _, _, _, _, _, _, _, _, _, rfl, l_Words_name, c_Words_name, .inr ⟨List.cons_ne_nil _ _, _, _, _, _, rfl, dl_Words_name, rfl, (.cons rfl .nil)⟩, .inl rfl⟩, k_Words_name⟩
  obtain ⟨ds0_Words_name, dv0_Words_name, db0_Words_name⟩ := F_Words_name.binds1 (ps := ["self", "taken"]) 1 0 (List.cons_ne_nil _ _) rfl fun _ _ _ _ _ _ _ us its hl hi => match us, its, hl, hi with | [_], [_], _, _ => ⟨_, rfl, rfl⟩
  obtain ⟨ds1_Words_name, dv1_Words_name, db1_Words_name⟩ := F_Words_name.binds1 (ps := ["self", "taken"]) 2 1 (List.cons_ne_nil _ _) rfl fun _ _ _ _ _ _ _ us its hl hi => match us, its, hl, hi with | [_, _], [_], _, _ => ⟨_, rfl, rfl⟩
  have b_Words_name : L2.Binds K (PySem.W.fnOf "name" "Words.name" (defArgs s_Words_name) (defBody s_Words_name) (defScope s_Words_name) (.ref dT_Words_name) kV_Words_name dc_Words_name pm_Words_name an_Words_name cd_Words_name ct_Words_name) ["self", "taken"] [] := by cases dv1_Words_name; exact db1_Words_name
  have F_Words_number := fun_mk (st := s_Words_number) l_Words_number c_Words_number k_Words_number
  have b_Words_number := F_Words_number.binds (ps := ["self", "least", "greatest"]) fun _ _ _ _ _ _ us hl => match us, hl with | [_, _, _], _ => rfl
  have F_Words_finish := fun_mk (st := s_Words_finish) l_Words_finish c_Words_finish k_Words_finish
  have b_Words_finish := F_Words_finish.binds (ps := ["self"]) fun _ _ _ _ _ _ us hl => match us, hl with | [_], _ => rfl
  have F_read_expression : FunD K "read_expression" "read_expression" (defArgs s_read_expression) (defBody s_read_expression) (defScope s_read_expression) [.int 1] [] a_read_expression (PySem.W.fnOf "read_expression" "read_expression" (defArgs s_read_expression) (defBody s_read_expression) (defScope s_read_expression) (.ref dT_read_expression) kV_read_expression dc_read_expression pm_read_expression an_read_expression cd_read_expression ct_read_expression) := ⟨⟨_, _, _, _, _, _, _, _, _, _, rfl, l_read_expression, c_read_expression, .inr ⟨List.cons_ne_nil _ _, _, _, _, _, rfl, dl_read_expression, rfl, (.cons ⟨_, rfl⟩ .nil)⟩, .inl rfl⟩, k_read_expression⟩
  obtain ⟨ds0_read_expression, dv0_read_expression, db0_read_expression⟩ := F_read_expression.binds1 (ps := ["words", "meanings", "tables", "depth"]) 3 0 (List.cons_ne_nil _ _) rfl fun _ _ _ _ _ _ _ us its hl hi => match us, its, hl, hi with | [_, _, _], [_], _, _ => ⟨_, rfl, rfl⟩
  obtain ⟨ds1_read_expression, dv1_read_expression, db1_read_expression⟩ := F_read_expression.binds1 (ps := ["words", "meanings", "tables", "depth"]) 4 1 (List.cons_ne_nil _ _) rfl fun _ _ _ _ _ _ _ us its hl hi => match us, its, hl, hi with | [_, _, _, _], [_], _, _ => ⟨_, rfl, rfl⟩
  have b_read_expression : L2.Binds K (PySem.W.fnOf "read_expression" "read_expression" (defArgs s_read_expression) (defBody s_read_expression) (defScope s_read_expression) (.ref dT_read_expression) kV_read_expression dc_read_expression pm_read_expression an_read_expression cd_read_expression ct_read_expression) ["words", "meanings", "tables", "depth"] [] := by cases dv1_read_expression; exact db1_read_expression
  have F_expression_words := fun_mk (st := s_expression_words) l_expression_words c_expression_words k_expression_words
  have b_expression_words := F_expression_words.binds (ps := ["expression"]) fun _ _ _ _ _ _ us hl => match us, hl with | [_], _ => rfl
  have F_Tactic_init := fun_mk (st := s_Tactic_init) l_Tactic_init c_Tactic_init k_Tactic_init
  have b_Tactic_init := F_Tactic_init.binds (ps := ["self", "rules"]) fun _ _ _ _ _ _ us hl => match us, hl with | [_, _], _ => rfl
  have F_Tactic_eq := fun_mk (st := s_Tactic_eq) l_Tactic_eq c_Tactic_eq k_Tactic_eq
  have b_Tactic_eq := F_Tactic_eq.binds (ps := ["self", "other"]) fun _ _ _ _ _ _ us hl => match us, hl with | [_, _], _ => rfl
  have F_read_tactic := fun_mk (st := s_read_tactic) l_read_tactic c_read_tactic k_read_tactic
  have b_read_tactic := F_read_tactic.binds (ps := ["text"]) fun _ _ _ _ _ _ us hl => match us, hl with | [_], _ => rfl
  have F_read_rule := fun_mk (st := s_read_rule) l_read_rule c_read_rule k_read_rule
  have b_read_rule := F_read_rule.binds (ps := ["words"]) fun _ _ _ _ _ _ us hl => match us, hl with | [_], _ => rfl
  have F_read_part := fun_mk (st := s_read_part) l_read_part c_read_part k_read_part
  have b_read_part := F_read_part.binds (ps := ["words"]) fun _ _ _ _ _ _ us hl => match us, hl with | [_], _ => rfl
  have F_tactic_text := fun_mk (st := s_tactic_text) l_tactic_text c_tactic_text k_tactic_text
  have b_tactic_text := F_tactic_text.binds (ps := ["tactic"]) fun _ _ _ _ _ _ us hl => match us, hl with | [_], _ => rfl
  have F_read_player := fun_mk (st := s_read_player) l_read_player c_read_player k_read_player
  have b_read_player := F_read_player.binds (ps := ["text"]) fun _ _ _ _ _ _ us hl => match us, hl with | [_], _ => rfl
  have F_read_below := fun_mk (st := s_read_below) l_read_below c_read_below k_read_below
  have b_read_below := F_read_below.binds (ps := ["words", "left"]) fun _ _ _ _ _ _ us hl => match us, hl with | [_, _], _ => rfl
  have F_read_parts := fun_mk (st := s_read_parts) l_read_parts c_read_parts k_read_parts
  have b_read_parts := F_read_parts.binds (ps := ["words", "left"]) fun _ _ _ _ _ _ us hl => match us, hl with | [_, _], _ => rfl
  have F_player_text := fun_mk (st := s_player_text) l_player_text c_player_text k_player_text
  have b_player_text := F_player_text.binds (ps := ["player"]) fun _ _ _ _ _ _ us hl => match us, hl with | [_], _ => rfl
  have F_player_words := fun_mk (st := s_player_words) l_player_words c_player_words k_player_words
  have b_player_words := F_player_words.binds (ps := ["player"]) fun _ _ _ _ _ _ us hl => match us, hl with | [_], _ => rfl
  have F_law_pool := fun_mk (st := s_law_pool) l_law_pool c_law_pool k_law_pool
  have b_law_pool := F_law_pool.binds (ps := ["script", "budget"]) fun _ _ _ _ _ _ us hl => match us, hl with | [_, _], _ => rfl
  have F_law_draw := fun_mk (st := s_law_draw) l_law_draw c_law_draw k_law_draw
  have b_law_draw := F_law_draw.binds (ps := ["pool", "size"]) fun _ _ _ _ _ _ us hl => match us, hl with | [_, _], _ => rfl
  have F_law_same := fun_mk (st := s_law_same) l_law_same c_law_same k_law_same
  have b_law_same := F_law_same.binds (ps := ["actual", "due"]) fun _ _ _ _ _ _ us hl => match us, hl with | [_, _], _ => rfl
  have F_law_is_number := fun_mk (st := s_law_is_number) l_law_is_number c_law_is_number k_law_is_number
  have b_law_is_number := F_law_is_number.binds (ps := ["word", "least", "most"]) fun _ _ _ _ _ _ us hl => match us, hl with | [_, _, _], _ => rfl
  have F_law_is_name := fun_mk (st := s_law_is_name) l_law_is_name c_law_is_name k_law_is_name
  have b_law_is_name := F_law_is_name.binds (ps := ["word"]) fun _ _ _ _ _ _ us hl => match us, hl with | [_], _ => rfl
  have F_law_player := fun_mk (st := s_law_player) l_law_player c_law_player k_law_player
  have b_law_player := F_law_player.binds (ps := ["stack", "top", "word"]) fun _ _ _ _ _ _ us hl => match us, hl with | [_, _, _], _ => rfl
  have F_law_tactic := fun_mk (st := s_law_tactic) l_law_tactic c_law_tactic k_law_tactic
  have b_law_tactic := F_law_tactic.binds (ps := ["stack", "top", "word"]) fun _ _ _ _ _ _ us hl => match us, hl with | [_, _, _], _ => rfl
  have F_law_wrong := fun_mk (st := s_law_wrong) l_law_wrong c_law_wrong k_law_wrong
  have b_law_wrong := F_law_wrong.binds (ps := ["way", "words"]) fun _ _ _ _ _ _ us hl => match us, hl with | [_, _], _ => rfl
  have F_law_menu := fun_mk (st := s_law_menu) l_law_menu c_law_menu k_law_menu
  have b_law_menu := F_law_menu.binds (ps := ["pool"]) fun _ _ _ _ _ _ us hl => match us, hl with | [_], _ => rfl
  have F_law_value := fun_mk (st := s_law_value) l_law_value c_law_value k_law_value
  have b_law_value := F_law_value.binds (ps := ["pool", "deep"]) fun _ _ _ _ _ _ us hl => match us, hl with | [_, _], _ => rfl
  have F_law_chain := fun_mk (st := s_law_chain) l_law_chain c_law_chain k_law_chain
  have b_law_chain := F_law_chain.binds (ps := ["pool"]) fun _ _ _ _ _ _ us hl => match us, hl with | [_], _ => rfl
  have F_law_rules := fun_mk (st := s_law_rules) l_law_rules c_law_rules k_law_rules
  have b_law_rules := F_law_rules.binds (ps := ["pool"]) fun _ _ _ _ _ _ us hl => match us, hl with | [_], _ => rfl
  have F_law_walked := fun_mk (st := s_law_walked) l_law_walked c_law_walked k_law_walked
  have b_law_walked := F_law_walked.binds (ps := ["pool", "way"]) fun _ _ _ _ _ _ us hl => match us, hl with | [_, _], _ => rfl
  have F_law_changed := fun_mk (st := s_law_changed) l_law_changed c_law_changed k_law_changed
  have b_law_changed := F_law_changed.binds (ps := ["pool", "words"]) fun _ _ _ _ _ _ us hl => match us, hl with | [_, _], _ => rfl
  have F_law := fun_mk (st := s_law) l_law c_law k_law
  have b_law := F_law.binds (ps := ["script"]) fun _ _ _ _ _ _ us hl => match us, hl with | [_], _ => rfl
  refine ⟨PySem.W.fnOf "law" "law" (defArgs s_law) (defBody s_law) (defScope s_law) .none kV_law dc_law pm_law an_law cd_law ct_law, fun s v => .of_eq rfl, fun base _ _ => ?_⟩
  exact ok_law hP_ (mg := mg) (K := K) {
    a_BadText_init := _
    fd_BadText_init := _
    a_is_name := _
    fd_is_name := _
    a_is_number := _
    fd_is_number := _
    a_Words_init := _
    fd_Words_init := _
    a_Words_ended := _
    fd_Words_ended := _
    a_Words_ahead := _
    fd_Words_ahead := _
    a_Words_refuse := _
    fd_Words_refuse := _
    a_Words_take := _
    fd_Words_take := _
    a_Words_one_of := _
    fd_Words_one_of := _
    a_Words_name := _
    fd_Words_name := _
    a_Words_number := _
    fd_Words_number := _
    a_Words_finish := _
    fd_Words_finish := _
    a_read_expression := _
    fd_read_expression := _
    a_expression_words := _
    fd_expression_words := _
    a_Tactic_init := _
    fd_Tactic_init := _
    a_Tactic_eq := _
    fd_Tactic_eq := _
    a_read_tactic := _
    fd_read_tactic := _
    a_read_rule := _
    fd_read_rule := _
    a_read_part := _
    fd_read_part := _
    a_tactic_text := _
    fd_tactic_text := _
    a_read_player := _
    fd_read_player := _
    a_read_below := _
    fd_read_below := _
    a_read_parts := _
    fd_read_parts := _
    a_player_text := _
    fd_player_text := _
    a_player_words := _
    fd_player_words := _
    a_law_pool := _
    fd_law_pool := _
    a_law_draw := _
    fd_law_draw := _
    a_law_same := _
    fd_law_same := _
    a_law_is_number := _
    fd_law_is_number := _
    a_law_is_name := _
    fd_law_is_name := _
    a_law_player := _
    fd_law_player := _
    a_law_tactic := _
    fd_law_tactic := _
    a_law_wrong := _
    fd_law_wrong := _
    a_law_menu := _
    fd_law_menu := _
    a_law_value := _
    fd_law_value := _
    a_law_chain := _
    fd_law_chain := _
    a_law_rules := _
    fd_law_rules := _
    a_law_walked := _
    fd_law_walked := _
    a_law_changed := _
    fd_law_changed := _
    a_law := _
    fd_law := _
    C_Words := _
    C_Tactic := _
    C_BadText := _
    C_PlayError := _
    C_BadBound := _
    C_BadCall := _
    C_BadPaper := _
    C_BadPlayer := _
    C_BadStep := _
    C_TooLarge := _
    o_n := o_n
    o_t := o_t
    g_Words := PySem.W.mg_of X G hC_Words
    cl_Words := ⟨pg_Words, hd_Words, po_Words, sa_Words⟩
    sf_Words := sf_Words
    na_Words_words := na_Words_words
    na_Words_at := na_Words_at
    g_Tactic := PySem.W.mg_of X G hC_Tactic
    cl_Tactic := ⟨pg_Tactic, hd_Tactic, po_Tactic, sa_Tactic⟩
    sf_Tactic := sf_Tactic
    na_Tactic_rules := na_Tactic_rules
    ia_Tactic := ia_Tactic
    im_Tactic := im_Tactic
    ik_Tactic := ik_Tactic
    F_is_name := F_is_name
    b_is_name := b_is_name
    k_is_name := k_is_name
    g_is_name := PySem.W.mg_of X G h_is_name
    F_is_number := F_is_number
    b_is_number := b_is_number
    k_is_number := k_is_number
    g_is_number := PySem.W.mg_of X G h_is_number
    F_Words_init := F_Words_init
    b_Words_init := b_Words_init
    k_Words_init := k_Words_init
    m_Words_init := ⟨h_Words_init, i_Words_init, k_Words_init⟩
    F_Words_ended := F_Words_ended
    b_Words_ended := b_Words_ended
    k_Words_ended := k_Words_ended
    m_Words_ended := ⟨h_Words_ended, i_Words_ended, k_Words_ended⟩
    F_Words_ahead := F_Words_ahead
    b_Words_ahead := b_Words_ahead
    k_Words_ahead := k_Words_ahead
    m_Words_ahead := ⟨h_Words_ahead, i_Words_ahead, k_Words_ahead⟩
    F_Words_refuse := F_Words_refuse
    b_Words_refuse := b_Words_refuse
    k_Words_refuse := k_Words_refuse
    m_Words_refuse := ⟨h_Words_refuse, i_Words_refuse, k_Words_refuse⟩
    F_Words_take := F_Words_take
    b_Words_take := b_Words_take
    k_Words_take := k_Words_take
    m_Words_take := ⟨h_Words_take, i_Words_take, k_Words_take⟩
    F_Words_one_of := F_Words_one_of
    b_Words_one_of := b_Words_one_of
    k_Words_one_of := k_Words_one_of
    m_Words_one_of := ⟨h_Words_one_of, i_Words_one_of, k_Words_one_of⟩
    te0_Words_name := _
    qe0_Words_name := fun H => .inr ⟨_, _, _, lt0_Words_name, rfl, rfl, (by decide), .nil⟩
    F_Words_name := F_Words_name
    ds0_Words_name := ds0_Words_name
    dv0_Words_name := dv0_Words_name
    db0_Words_name := db0_Words_name
    b_Words_name := b_Words_name
    k_Words_name := k_Words_name
    m_Words_name := ⟨h_Words_name, i_Words_name, k_Words_name⟩
    F_Words_number := F_Words_number
    b_Words_number := b_Words_number
    k_Words_number := k_Words_number
    m_Words_number := ⟨h_Words_number, i_Words_number, k_Words_number⟩
    F_Words_finish := F_Words_finish
    b_Words_finish := b_Words_finish
    k_Words_finish := k_Words_finish
    m_Words_finish := ⟨h_Words_finish, i_Words_finish, k_Words_finish⟩
    F_read_expression := F_read_expression
    ds0_read_expression := ds0_read_expression
    dv0_read_expression := dv0_read_expression
    db0_read_expression := db0_read_expression
    b_read_expression := b_read_expression
    k_read_expression := k_read_expression
    g_read_expression := PySem.W.mg_of X G h_read_expression
    F_expression_words := F_expression_words
    b_expression_words := b_expression_words
    k_expression_words := k_expression_words
    g_expression_words := PySem.W.mg_of X G h_expression_words
    F_Tactic_init := F_Tactic_init
    b_Tactic_init := b_Tactic_init
    k_Tactic_init := k_Tactic_init
    m_Tactic_init := ⟨h_Tactic_init, i_Tactic_init, k_Tactic_init⟩
    F_Tactic_eq := F_Tactic_eq
    b_Tactic_eq := b_Tactic_eq
    k_Tactic_eq := k_Tactic_eq
    m_Tactic_eq := ⟨h_Tactic_eq, i_Tactic_eq, k_Tactic_eq⟩
    F_read_tactic := F_read_tactic
    b_read_tactic := b_read_tactic
    k_read_tactic := k_read_tactic
    g_read_tactic := PySem.W.mg_of X G h_read_tactic
    F_read_rule := F_read_rule
    b_read_rule := b_read_rule
    k_read_rule := k_read_rule
    g_read_rule := PySem.W.mg_of X G h_read_rule
    F_read_part := F_read_part
    b_read_part := b_read_part
    k_read_part := k_read_part
    g_read_part := PySem.W.mg_of X G h_read_part
    F_tactic_text := F_tactic_text
    b_tactic_text := b_tactic_text
    k_tactic_text := k_tactic_text
    g_tactic_text := PySem.W.mg_of X G h_tactic_text
    F_read_player := F_read_player
    b_read_player := b_read_player
    k_read_player := k_read_player
    g_read_player := PySem.W.mg_of X G h_read_player
    F_read_below := F_read_below
    b_read_below := b_read_below
    k_read_below := k_read_below
    g_read_below := PySem.W.mg_of X G h_read_below
    F_read_parts := F_read_parts
    b_read_parts := b_read_parts
    k_read_parts := k_read_parts
    g_read_parts := PySem.W.mg_of X G h_read_parts
    F_player_text := F_player_text
    b_player_text := b_player_text
    k_player_text := k_player_text
    g_player_text := PySem.W.mg_of X G h_player_text
    F_player_words := F_player_words
    b_player_words := b_player_words
    k_player_words := k_player_words
    g_player_words := PySem.W.mg_of X G h_player_words
    F_law_pool := F_law_pool
    b_law_pool := b_law_pool
    k_law_pool := k_law_pool
    g_law_pool := PySem.W.mg_of X G h_law_pool
    F_law_draw := F_law_draw
    b_law_draw := b_law_draw
    k_law_draw := k_law_draw
    g_law_draw := PySem.W.mg_of X G h_law_draw
    F_law_same := F_law_same
    b_law_same := b_law_same
    k_law_same := k_law_same
    g_law_same := PySem.W.mg_of X G h_law_same
    F_law_is_number := F_law_is_number
    b_law_is_number := b_law_is_number
    k_law_is_number := k_law_is_number
    g_law_is_number := PySem.W.mg_of X G h_law_is_number
    F_law_is_name := F_law_is_name
    b_law_is_name := b_law_is_name
    k_law_is_name := k_law_is_name
    g_law_is_name := PySem.W.mg_of X G h_law_is_name
    F_law_player := F_law_player
    b_law_player := b_law_player
    k_law_player := k_law_player
    g_law_player := PySem.W.mg_of X G h_law_player
    F_law_tactic := F_law_tactic
    b_law_tactic := b_law_tactic
    k_law_tactic := k_law_tactic
    g_law_tactic := PySem.W.mg_of X G h_law_tactic
    F_law_wrong := F_law_wrong
    b_law_wrong := b_law_wrong
    k_law_wrong := k_law_wrong
    g_law_wrong := PySem.W.mg_of X G h_law_wrong
    F_law_menu := F_law_menu
    b_law_menu := b_law_menu
    k_law_menu := k_law_menu
    g_law_menu := PySem.W.mg_of X G h_law_menu
    F_law_value := F_law_value
    b_law_value := b_law_value
    k_law_value := k_law_value
    g_law_value := PySem.W.mg_of X G h_law_value
    F_law_chain := F_law_chain
    b_law_chain := b_law_chain
    k_law_chain := k_law_chain
    g_law_chain := PySem.W.mg_of X G h_law_chain
    F_law_rules := F_law_rules
    b_law_rules := b_law_rules
    k_law_rules := k_law_rules
    g_law_rules := PySem.W.mg_of X G h_law_rules
    F_law_walked := F_law_walked
    b_law_walked := b_law_walked
    k_law_walked := k_law_walked
    g_law_walked := PySem.W.mg_of X G h_law_walked
    F_law_changed := F_law_changed
    b_law_changed := b_law_changed
    k_law_changed := k_law_changed
    g_law_changed := PySem.W.mg_of X G h_law_changed
    F_law := F_law
    b_law := b_law
    k_law := k_law
    g_law := PySem.W.mg_of X G h_law
    mk_Words := ⟨mk_Words, h_Words_init, i_Words_init, kc_Words⟩
    mk_Tactic := ⟨mk_Tactic, h_Tactic_init, i_Tactic_init, kc_Tactic⟩
    g_BadText := PySem.W.mg_of X G hC_BadText
    kc_BadText := kc_BadText
    xb_BadText := xb_BadText
    xt_BadText := xt_BadText
    xd_BadText := xd_BadText
    z_super := PySem.W.mg_none_of X G zn_super
    E_BadText := { ex := ⟨_, _, _, _, _, _, _, _, _, _, _, _, _, _, _, _, _, _, _, rfl, li_BadText_init, ci_BadText_init, di_BadText_init, vi_BadText_init, xi_BadText_init⟩, any := any_, sup := si_BadText_init, subV := ui_BadText_init, mro := mi_BadText_init, T := ⟨⟨_, _, _, _, _, _, _, _, _, _, _, _, _, _, _, lc_BadText_init, rm_BadText_init⟩, sa_BadText_init, xb_BadText, xt_BadText, kc_BadText⟩, iC := hi_BadText_init, tI := ti_BadText_init, no := no_BadText_init, z := PySem.W.mg_none_of X G zn_super }
    b_BadText_init := (.all fun us hl => match us, hl with | [_, _], _ => rfl)
    g_PlayError := PySem.W.mg_of X G hC_PlayError
    kc_PlayError := kc_PlayError
    xb_PlayError := xb_PlayError
    xt_PlayError := xt_PlayError
    xd_PlayError := xd_PlayError
    g_BadBound := PySem.W.mg_of X G hC_BadBound
    g_BadCall := PySem.W.mg_of X G hC_BadCall
    g_BadPaper := PySem.W.mg_of X G hC_BadPaper
    g_BadPlayer := PySem.W.mg_of X G hC_BadPlayer
    g_BadStep := PySem.W.mg_of X G hC_BadStep
    g_TooLarge := PySem.W.mg_of X G hC_TooLarge
    ec_BadText := ⟨eg_BadText, ek_BadText, xb_BadText, xd_BadText, ea_BadText, o_n, o_t, em_BadText⟩
    g_LONGEST_NAME := ⟨_, PySem.W.mg_of X G hg_LONGEST_NAME⟩
    g_LONGEST_NUMBER := ⟨_, PySem.W.mg_of X G hg_LONGEST_NUMBER⟩
    g_GREATEST_NUMBER := ⟨_, PySem.W.mg_of X G hg_GREATEST_NUMBER⟩
    g_LETTERS := ⟨_, PySem.W.mg_of X G hg_LETTERS⟩
    g_DIGITS := ⟨_, PySem.W.mg_of X G hg_DIGITS⟩
    a_KEY_WORDS := _
    g_KEY_WORDS := PySem.W.mg_of X G hg_KEY_WORDS
    q_KEY_WORDS := fun H => .inr ⟨_, _, _, lq_KEY_WORDS, rfl, rfl, (by show 20 ≤ sizeLine; decide), (.cons ⟨_, rfl⟩ (.cons ⟨_, rfl⟩ (.cons ⟨_, rfl⟩ (.cons ⟨_, rfl⟩ (.cons ⟨_, rfl⟩ (.cons ⟨_, rfl⟩ (.cons ⟨_, rfl⟩ (.cons ⟨_, rfl⟩ (.cons ⟨_, rfl⟩ (.cons ⟨_, rfl⟩ (.cons ⟨_, rfl⟩ (.cons ⟨_, rfl⟩ (.cons ⟨_, rfl⟩ (.cons ⟨_, rfl⟩ (.cons ⟨_, rfl⟩ (.cons ⟨_, rfl⟩ (.cons ⟨_, rfl⟩ (.cons ⟨_, rfl⟩ (.cons ⟨_, rfl⟩ (.cons ⟨_, rfl⟩ .nil))))))))))))))))))))⟩
    g_DEEPEST_PLAYER := ⟨_, PySem.W.mg_of X G hg_DEEPEST_PLAYER⟩
    g_MOST_TOSSED := ⟨_, PySem.W.mg_of X G hg_MOST_TOSSED⟩
    g_MOST_PARTS := ⟨_, PySem.W.mg_of X G hg_MOST_PARTS⟩
    a_OPERATORS := _
    g_OPERATORS := PySem.W.mg_of X G hg_OPERATORS
    q_OPERATORS := fun H => .inr ⟨_, _, _, lq_OPERATORS, rfl, rfl, (by show 7 ≤ sizeLine; decide), (.cons ⟨_, rfl⟩ (.cons ⟨_, rfl⟩ (.cons ⟨_, rfl⟩ (.cons ⟨_, rfl⟩ (.cons ⟨_, rfl⟩ (.cons ⟨_, rfl⟩ (.cons ⟨_, rfl⟩ .nil)))))))⟩
    a_LOOKS := _
    g_LOOKS := PySem.W.mg_of X G hg_LOOKS
    q_LOOKS := fun H => .inr ⟨_, _, _, lq_LOOKS, rfl, rfl, (by show 2 ≤ sizeLine; decide), (.cons ⟨_, rfl⟩ (.cons ⟨_, rfl⟩ .nil))⟩
    g_DEEPEST_EXPRESSION := ⟨_, PySem.W.mg_of X G hg_DEEPEST_EXPRESSION⟩
    g_MOST_RULES := ⟨_, PySem.W.mg_of X G hg_MOST_RULES⟩
    a_KNOWN := _
    g_KNOWN := PySem.W.mg_of X G hg_KNOWN
    q_KNOWN := fun H => .inr ⟨_, _, _, lq_KNOWN, rfl, rfl, (by show 3 ≤ sizeLine; decide), (.cons ⟨_, rfl⟩ (.cons ⟨_, rfl⟩ (.cons ⟨_, rfl⟩ .nil)))⟩
    z_len := PySem.W.mg_none_of X G zn_len
    z_all := PySem.W.mg_none_of X G zn_all
    z_int := PySem.W.mg_none_of X G zn_int
    z_str := PySem.W.mg_none_of X G zn_str
    z_tuple := PySem.W.mg_none_of X G zn_tuple
    z_list := PySem.W.mg_none_of X G zn_list
    z_range := PySem.W.mg_none_of X G zn_range
    z_isinstance := PySem.W.mg_none_of X G zn_isinstance
    z_abs := PySem.W.mg_none_of X G zn_abs
    z_bool := PySem.W.mg_none_of X G zn_bool
    xga_BadText := xga_BadText
    xgg_BadText := xgg_BadText
    sub_tp := sub_tp
    ki_tt := ki_tt
    ki_e := ki_e }
theorem walk {l : PySem.W.OpenLaw} {q : Program} {loose : List Str} {XP : (Str → Option Value) → Heap → Prop} {YP : World → Heap → Prop} {d : DefRec} {K : Params → PySem.W.Frag} (hn : l.most = some 63) (hdf : d.params.defaults = [])
    (hY : ∀ (w : World) (h : Heap), YP w h → (K w.params).In h)
    (F : ∀ (w : World) (mg : Str → Option Value) (fa : Addr) (h : Heap), (K w.params).In h → h.Ns mainGlobals mg → mg d.name = some (.ref fa) →
      ∃ fd : FuncData, (∀ (s : Shared) (u : Value), BindsTo s fd ⟨[u], []⟩ [("script", u)]) ∧ ∀ base : Heap, (K w.params).In base → base.Ns mainGlobals mg → FnOk l.prog w (K w.params) mg base CX0 60 fa fd ["script"] (spLaw (K w.params))) :
    PySem.W.WalkO q loose XP YP l.row.toRowW d [] (fun f vs => PySem.call f vs) :=
  L2.walk_of (n := 63) (k := 60) (x := "script") (CX := fun _ => CX0) (sp := fun w => spLaw (K w.params)) hn (by decide) hdf ⟨rfl, by decide, by decide⟩ hY F (fun _ _ a ns hl _ hS => ⟨a, ns, rfl, hS, hl, fun _ => rfl⟩) fun _ _ _ _ _ z => z
end Toy
set_option Elab.async false
open PySem PySem.W PyProof.Rows
set_option maxRecDepth 100000 in
set_option maxHeartbeats 0 in
theorem PySem.Challenge.cw_tellsnone_k78_whole_texts_of_players_and_holds : PySem.Challenge.rw_tellsnone_k78_whole_texts_of_players_and.Holds := by
  w_on; o_law; k_head; (case hw => w_witness2)
  k_fill
  refine Toy.walk (l := PySem.Challenge.rw_tellsnone_k78_whole_texts_of_players_and) rfl rfl (fun w h Y => PySem.W.kIn_of Y) ?F
  case F =>
    intro w mg fa h KX G hmg
    refine' Toy.all_mk KX G hmg ?o_n ?o_t ?hC_Words ?pg_Words ?hd_Words ?po_Words ?sa_Words ?mk_Words ?kc_Words ?sf_Words ?na_Words_words ?na_Words_at ?hC_Tactic ?pg_Tactic ?hd_Tactic ?po_Tactic ?sa_Tactic ?mk_Tactic ?kc_Tactic ?sf_Tactic ?na_Tactic_rules ?ia_Tactic ?im_Tactic ?ik_Tactic ?h_is_name ?l_is_name ?c_is_name ?k_is_name ?h_is_number ?l_is_number ?c_is_number ?k_is_number ?h_Words_init ?i_Words_init ?l_Words_init ?c_Words_init ?k_Words_init ?h_Words_ended ?i_Words_ended ?l_Words_ended ?c_Words_ended ?k_Words_ended ?h_Words_ahead ?i_Words_ahead ?l_Words_ahead ?c_Words_ahead ?k_Words_ahead ?h_Words_refuse ?i_Words_refuse ?l_Words_refuse ?c_Words_refuse ?k_Words_refuse ?h_Words_take ?i_Words_take ?l_Words_take ?c_Words_take ?k_Words_take ?h_Words_one_of ?i_Words_one_of ?l_Words_one_of ?c_Words_one_of ?k_Words_one_of ?h_Words_name ?i_Words_name ?l_Words_name ?dl_Words_name ?lt0_Words_name ?c_Words_name ?k_Words_name ?h_Words_number ?i_Words_number ?l_Words_number ?c_Words_number ?k_Words_number ?h_Words_finish ?i_Words_finish ?l_Words_finish ?c_Words_finish ?k_Words_finish ?h_read_expression ?l_read_expression ?dl_read_expression ?c_read_expression ?k_read_expression ?h_expression_words ?l_expression_words ?c_expression_words ?k_expression_words ?h_Tactic_init ?i_Tactic_init ?l_Tactic_init ?c_Tactic_init ?k_Tactic_init ?h_Tactic_eq ?i_Tactic_eq ?l_Tactic_eq ?c_Tactic_eq ?k_Tactic_eq ?h_read_tactic ?l_read_tactic ?c_read_tactic ?k_read_tactic ?h_read_rule ?l_read_rule ?c_read_rule ?k_read_rule ?h_read_part ?l_read_part ?c_read_part ?k_read_part ?h_tactic_text ?l_tactic_text ?c_tactic_text ?k_tactic_text ?h_read_player ?l_read_player ?c_read_player ?k_read_player ?h_read_below ?l_read_below ?c_read_below ?k_read_below ?h_read_parts ?l_read_parts ?c_read_parts ?k_read_parts ?h_player_text ?l_player_text ?c_player_text ?k_player_text ?h_player_words ?l_player_words ?c_player_words ?k_player_words ?h_law_pool ?l_law_pool ?c_law_pool ?k_law_pool ?h_law_draw ?l_law_draw ?c_law_draw ?k_law_draw ?h_law_same ?l_law_same ?c_law_same ?k_law_same ?h_law_is_number ?l_law_is_number ?c_law_is_number ?k_law_is_number ?h_law_is_name ?l_law_is_name ?c_law_is_name ?k_law_is_name ?h_law_player ?l_law_player ?c_law_player ?k_law_player ?h_law_tactic ?l_law_tactic ?c_law_tactic ?k_law_tactic ?h_law_wrong ?l_law_wrong ?c_law_wrong ?k_law_wrong ?h_law_menu ?l_law_menu ?c_law_menu ?k_law_menu ?h_law_value ?l_law_value ?c_law_value ?k_law_value ?h_law_chain ?l_law_chain ?c_law_chain ?k_law_chain ?h_law_rules ?l_law_rules ?c_law_rules ?k_law_rules ?h_law_walked ?l_law_walked ?c_law_walked ?k_law_walked ?h_law_changed ?l_law_changed ?c_law_changed ?k_law_changed ?h_law ?l_law ?c_law ?k_law ?hC_BadText ?kc_BadText ?xb_BadText ?xt_BadText ?xd_BadText ?any_ ?zn_super ?hi_BadText_init ?ti_BadText_init ?li_BadText_init ?ci_BadText_init ?di_BadText_init ?vi_BadText_init ?xi_BadText_init ?si_BadText_init ?ui_BadText_init ?mi_BadText_init ?lc_BadText_init ?rm_BadText_init ?sa_BadText_init ?no_BadText_init ?hC_PlayError ?kc_PlayError ?xb_PlayError ?xt_PlayError ?xd_PlayError ?hC_BadBound ?hC_BadCall ?hC_BadPaper ?hC_BadPlayer ?hC_BadStep ?hC_TooLarge ?eg_BadText ?ek_BadText ?ea_BadText ?em_BadText ?hg_LONGEST_NAME ?hg_LONGEST_NUMBER ?hg_GREATEST_NUMBER ?hg_LETTERS ?hg_DIGITS ?hg_KEY_WORDS ?lq_KEY_WORDS ?hg_DEEPEST_PLAYER ?hg_MOST_TOSSED ?hg_MOST_PARTS ?hg_OPERATORS ?lq_OPERATORS ?hg_LOOKS ?lq_LOOKS ?hg_DEEPEST_EXPRESSION ?hg_MOST_RULES ?hg_KNOWN ?lq_KNOWN ?zn_len ?zn_all ?zn_int ?zn_str ?zn_tuple ?zn_list ?zn_range ?zn_isinstance ?zn_abs ?zn_bool ?xga_BadText ?xgg_BadText ?sub_tp ?ki_tt ?ki_e ?hP_
    (case o_n => first | k_is | k_exc | kit_is)
    (case o_t => first | k_is | k_exc | kit_is)
    (case hC_Words => first | k_is | k_exc | kit_is)
    (case pg_Words => first | k_is | k_exc | kit_is)
    (case hd_Words => first | k_is | k_exc | kit_is)
    (case po_Words => first | k_is | k_exc | kit_is)
    (case sa_Words => first | k_is | k_exc | kit_is)
    (case mk_Words => first | k_is | k_exc | kit_is)
    (case kc_Words => first | k_is | k_exc | kit_is)
    (case sf_Words => first | k_is | k_exc | kit_is)
    (case na_Words_words => first | k_is | k_exc | kit_is)
    (case na_Words_at => first | k_is | k_exc | kit_is)
    (case hC_Tactic => first | k_is | k_exc | kit_is)
    (case pg_Tactic => first | k_is | k_exc | kit_is)
    (case hd_Tactic => first | k_is | k_exc | kit_is)
    (case po_Tactic => first | k_is | k_exc | kit_is)
    (case sa_Tactic => first | k_is | k_exc | kit_is)
    (case mk_Tactic => first | k_is | k_exc | kit_is)
    (case kc_Tactic => first | k_is | k_exc | kit_is)
    (case sf_Tactic => first | k_is | k_exc | kit_is)
    (case na_Tactic_rules => first | k_is | k_exc | kit_is)
    (case ia_Tactic => first | k_is | k_exc | kit_is)
    (case im_Tactic => first | k_is | k_exc | kit_is)
    (case ik_Tactic => first | k_is | k_exc | kit_is)
    (case h_is_name => first | k_is | k_exc | kit_is)
    (case l_is_name => first | k_is | k_exc | kit_is)
    (case c_is_name => first | k_is | k_exc | kit_is)
    (case k_is_name => first | k_is | k_exc | kit_is)
    (case h_is_number => first | k_is | k_exc | kit_is)
    (case l_is_number => first | k_is | k_exc | kit_is)
    (case c_is_number => first | k_is | k_exc | kit_is)
    (case k_is_number => first | k_is | k_exc | kit_is)
    (case h_Words_init => first | k_is | k_exc | kit_is)
    (case i_Words_init => first | k_is | k_exc | kit_is)
    (case l_Words_init => first | k_is | k_exc | kit_is)
    (case c_Words_init => first | k_is | k_exc | kit_is)
    (case k_Words_init => first | k_is | k_exc | kit_is)
    (case h_Words_ended => first | k_is | k_exc | kit_is)
    (case i_Words_ended => first | k_is | k_exc | kit_is)
    (case l_Words_ended => first | k_is | k_exc | kit_is)
    (case c_Words_ended => first | k_is | k_exc | kit_is)
    (case k_Words_ended => first | k_is | k_exc | kit_is)
    (case h_Words_ahead => first | k_is | k_exc | kit_is)
    (case i_Words_ahead => first | k_is | k_exc | kit_is)
    (case l_Words_ahead => first | k_is | k_exc | kit_is)
    (case c_Words_ahead => first | k_is | k_exc | kit_is)
    (case k_Words_ahead => first | k_is | k_exc | kit_is)
    (case h_Words_refuse => first | k_is | k_exc | kit_is)
    (case i_Words_refuse => first | k_is | k_exc | kit_is)
    (case l_Words_refuse => first | k_is | k_exc | kit_is)
    (case c_Words_refuse => first | k_is | k_exc | kit_is)
    (case k_Words_refuse => first | k_is | k_exc | kit_is)
    (case h_Words_take => first | k_is | k_exc | kit_is)
    (case i_Words_take => first | k_is | k_exc | kit_is)
    (case l_Words_take => first | k_is | k_exc | kit_is)
    (case c_Words_take => first | k_is | k_exc | kit_is)
    (case k_Words_take => first | k_is | k_exc | kit_is)
    (case h_Words_one_of => first | k_is | k_exc | kit_is)
    (case i_Words_one_of => first | k_is | k_exc | kit_is)
    (case l_Words_one_of => first | k_is | k_exc | kit_is)
    (case c_Words_one_of => first | k_is | k_exc | kit_is)
    (case k_Words_one_of => first | k_is | k_exc | kit_is)
    (case h_Words_name => first | k_is | k_exc | kit_is)
    (case i_Words_name => first | k_is | k_exc | kit_is)
    (case l_Words_name => first | k_is | k_exc | kit_is)
    (case dl_Words_name => first | k_is | k_exc | kit_is)
    (case lt0_Words_name => first | k_is | k_exc | kit_is)
    (case c_Words_name => first | k_is | k_exc | kit_is)
    (case k_Words_name => first | k_is | k_exc | kit_is)
    (case h_Words_number => first | k_is | k_exc | kit_is)
    (case i_Words_number => first | k_is | k_exc | kit_is)
    (case l_Words_number => first | k_is | k_exc | kit_is)
    (case c_Words_number => first | k_is | k_exc | kit_is)
    (case k_Words_number => first | k_is | k_exc | kit_is)
    (case h_Words_finish => first | k_is | k_exc | kit_is)
    (case i_Words_finish => first | k_is | k_exc | kit_is)
    (case l_Words_finish => first | k_is | k_exc | kit_is)
    (case c_Words_finish => first | k_is | k_exc | kit_is)
    (case k_Words_finish => first | k_is | k_exc | kit_is)
    (case h_read_expression => first | k_is | k_exc | kit_is)
    (case l_read_expression => first | k_is | k_exc | kit_is)
    (case dl_read_expression => first | k_is | k_exc | kit_is)
    (case c_read_expression => first | k_is | k_exc | kit_is)
    (case k_read_expression => first | k_is | k_exc | kit_is)
    (case h_expression_words => first | k_is | k_exc | kit_is)
    (case l_expression_words => first | k_is | k_exc | kit_is)
    (case c_expression_words => first | k_is | k_exc | kit_is)
    (case k_expression_words => first | k_is | k_exc | kit_is)
    (case h_Tactic_init => first | k_is | k_exc | kit_is)
    (case i_Tactic_init => first | k_is | k_exc | kit_is)
    (case l_Tactic_init => first | k_is | k_exc | kit_is)
    (case c_Tactic_init => first | k_is | k_exc | kit_is)
    (case k_Tactic_init => first | k_is | k_exc | kit_is)
    (case h_Tactic_eq => first | k_is | k_exc | kit_is)
    (case i_Tactic_eq => first | k_is | k_exc | kit_is)
    (case l_Tactic_eq => first | k_is | k_exc | kit_is)
    (case c_Tactic_eq => first | k_is | k_exc | kit_is)
    (case k_Tactic_eq => first | k_is | k_exc | kit_is)
    (case h_read_tactic => first | k_is | k_exc | kit_is)
    (case l_read_tactic => first | k_is | k_exc | kit_is)
    (case c_read_tactic => first | k_is | k_exc | kit_is)
    (case k_read_tactic => first | k_is | k_exc | kit_is)
    (case h_read_rule => first | k_is | k_exc | kit_is)
    (case l_read_rule => first | k_is | k_exc | kit_is)
    (case c_read_rule => first | k_is | k_exc | kit_is)
    (case k_read_rule => first | k_is | k_exc | kit_is)
    (case h_read_part => first | k_is | k_exc | kit_is)
    (case l_read_part => first | k_is | k_exc | kit_is)
    (case c_read_part => first | k_is | k_exc | kit_is)
    (case k_read_part => first | k_is | k_exc | kit_is)
    (case h_tactic_text => first | k_is | k_exc | kit_is)
    (case l_tactic_text => first | k_is | k_exc | kit_is)
    (case c_tactic_text => first | k_is | k_exc | kit_is)
    (case k_tactic_text => first | k_is | k_exc | kit_is)
    (case h_read_player => first | k_is | k_exc | kit_is)
    (case l_read_player => first | k_is | k_exc | kit_is)
    (case c_read_player => first | k_is | k_exc | kit_is)
    (case k_read_player => first | k_is | k_exc | kit_is)
    (case h_read_below => first | k_is | k_exc | kit_is)
    (case l_read_below => first | k_is | k_exc | kit_is)
    (case c_read_below => first | k_is | k_exc | kit_is)
    (case k_read_below => first | k_is | k_exc | kit_is)
    (case h_read_parts => first | k_is | k_exc | kit_is)
    (case l_read_parts => first | k_is | k_exc | kit_is)
    (case c_read_parts => first | k_is | k_exc | kit_is)
    (case k_read_parts => first | k_is | k_exc | kit_is)
    (case h_player_text => first | k_is | k_exc | kit_is)
    (case l_player_text => first | k_is | k_exc | kit_is)
    (case c_player_text => first | k_is | k_exc | kit_is)
    (case k_player_text => first | k_is | k_exc | kit_is)
    (case h_player_words => first | k_is | k_exc | kit_is)
    (case l_player_words => first | k_is | k_exc | kit_is)
    (case c_player_words => first | k_is | k_exc | kit_is)
    (case k_player_words => first | k_is | k_exc | kit_is)
    (case h_law_pool => first | k_is | k_exc | kit_is)
    (case l_law_pool => first | k_is | k_exc | kit_is)
    (case c_law_pool => first | k_is | k_exc | kit_is)
    (case k_law_pool => first | k_is | k_exc | kit_is)
    (case h_law_draw => first | k_is | k_exc | kit_is)
    (case l_law_draw => first | k_is | k_exc | kit_is)
    (case c_law_draw => first | k_is | k_exc | kit_is)
    (case k_law_draw => first | k_is | k_exc | kit_is)
    (case h_law_same => first | k_is | k_exc | kit_is)
    (case l_law_same => first | k_is | k_exc | kit_is)
    (case c_law_same => first | k_is | k_exc | kit_is)
    (case k_law_same => first | k_is | k_exc | kit_is)
    (case h_law_is_number => first | k_is | k_exc | kit_is)
    (case l_law_is_number => first | k_is | k_exc | kit_is)
    (case c_law_is_number => first | k_is | k_exc | kit_is)
    (case k_law_is_number => first | k_is | k_exc | kit_is)
    (case h_law_is_name => first | k_is | k_exc | kit_is)
    (case l_law_is_name => first | k_is | k_exc | kit_is)
    (case c_law_is_name => first | k_is | k_exc | kit_is)
    (case k_law_is_name => first | k_is | k_exc | kit_is)
    (case h_law_player => first | k_is | k_exc | kit_is)
    (case l_law_player => first | k_is | k_exc | kit_is)
    (case c_law_player => first | k_is | k_exc | kit_is)
    (case k_law_player => first | k_is | k_exc | kit_is)
    (case h_law_tactic => first | k_is | k_exc | kit_is)
    (case l_law_tactic => first | k_is | k_exc | kit_is)
    (case c_law_tactic => first | k_is | k_exc | kit_is)
    (case k_law_tactic => first | k_is | k_exc | kit_is)
    (case h_law_wrong => first | k_is | k_exc | kit_is)
    (case l_law_wrong => first | k_is | k_exc | kit_is)
    (case c_law_wrong => first | k_is | k_exc | kit_is)
    (case k_law_wrong => first | k_is | k_exc | kit_is)
    (case h_law_menu => first | k_is | k_exc | kit_is)
    (case l_law_menu => first | k_is | k_exc | kit_is)
    (case c_law_menu => first | k_is | k_exc | kit_is)
    (case k_law_menu => first | k_is | k_exc | kit_is)
    (case h_law_value => first | k_is | k_exc | kit_is)
    (case l_law_value => first | k_is | k_exc | kit_is)
    (case c_law_value => first | k_is | k_exc | kit_is)
    (case k_law_value => first | k_is | k_exc | kit_is)
    (case h_law_chain => first | k_is | k_exc | kit_is)
    (case l_law_chain => first | k_is | k_exc | kit_is)
    (case c_law_chain => first | k_is | k_exc | kit_is)
    (case k_law_chain => first | k_is | k_exc | kit_is)
    (case h_law_rules => first | k_is | k_exc | kit_is)
    (case l_law_rules => first | k_is | k_exc | kit_is)
    (case c_law_rules => first | k_is | k_exc | kit_is)
    (case k_law_rules => first | k_is | k_exc | kit_is)
    (case h_law_walked => first | k_is | k_exc | kit_is)
    (case l_law_walked => first | k_is | k_exc | kit_is)
    (case c_law_walked => first | k_is | k_exc | kit_is)
    (case k_law_walked => first | k_is | k_exc | kit_is)
    (case h_law_changed => first | k_is | k_exc | kit_is)
    (case l_law_changed => first | k_is | k_exc | kit_is)
    (case c_law_changed => first | k_is | k_exc | kit_is)
    (case k_law_changed => first | k_is | k_exc | kit_is)
    (case h_law => first | k_is | k_exc | kit_is)
    (case l_law => first | k_is | k_exc | kit_is)
    (case c_law => first | k_is | k_exc | kit_is)
    (case k_law => first | k_is | k_exc | kit_is)
    (case hC_BadText => first | k_is | k_exc | kit_is)
    (case kc_BadText => first | k_is | k_exc | kit_is)
    (case xb_BadText => first | k_is | k_exc | kit_is)
    (case xt_BadText => first | k_is | k_exc | kit_is)
    (case xd_BadText => first | k_is | k_exc | kit_is)
    (case any_ => first | k_is | k_exc | kit_is)
    (case zn_super => first | k_is | k_exc | kit_is)
    (case hi_BadText_init => first | k_is | k_exc | kit_is)
    (case ti_BadText_init => first | k_is | k_exc | kit_is)
    (case li_BadText_init => first | k_is | k_exc | kit_is)
    (case ci_BadText_init => first | k_is | k_exc | kit_is)
    (case di_BadText_init => first | k_is | k_exc | kit_is)
    (case vi_BadText_init => rfl)
    (case xi_BadText_init => first | k_is | k_exc | kit_is)
    (case si_BadText_init => ks_is)
    (case ui_BadText_init => first | k_is | k_exc | kit_is)
    (case mi_BadText_init => first | k_is | k_exc | kit_is)
    (case lc_BadText_init => first | k_is | k_exc | kit_is)
    (case rm_BadText_init => decide +kernel)
    (case sa_BadText_init => first | k_is | k_exc | kit_is)
    (case no_BadText_init => first | k_is | k_exc | kit_is)
    (case hC_PlayError => first | k_is | k_exc | kit_is)
    (case kc_PlayError => first | k_is | k_exc | kit_is)
    (case xb_PlayError => first | k_is | k_exc | kit_is)
    (case xt_PlayError => first | k_is | k_exc | kit_is)
    (case xd_PlayError => first | k_is | k_exc | kit_is)
    (case hC_BadBound => first | k_is | k_exc | kit_is)
    (case hC_BadCall => first | k_is | k_exc | kit_is)
    (case hC_BadPaper => first | k_is | k_exc | kit_is)
    (case hC_BadPlayer => first | k_is | k_exc | kit_is)
    (case hC_BadStep => first | k_is | k_exc | kit_is)
    (case hC_TooLarge => first | k_is | k_exc | kit_is)
    (case eg_BadText => first | k_is | k_exc | kit_is)
    (case ek_BadText => first | k_is | k_exc | kit_is)
    (case ea_BadText => first | k_is | k_exc | kit_is)
    (case em_BadText => first | k_is | k_exc | kit_is)
    (case hg_LONGEST_NAME => first | k_is | k_exc | kit_is)
    (case hg_LONGEST_NUMBER => first | k_is | k_exc | kit_is)
    (case hg_GREATEST_NUMBER => first | k_is | k_exc | kit_is)
    (case hg_LETTERS => first | k_is | k_exc | kit_is)
    (case hg_DIGITS => first | k_is | k_exc | kit_is)
    (case hg_KEY_WORDS => first | k_is | k_exc | kit_is)
    (case lq_KEY_WORDS => first | k_is | k_exc | kit_is)
    (case hg_DEEPEST_PLAYER => first | k_is | k_exc | kit_is)
    (case hg_MOST_TOSSED => first | k_is | k_exc | kit_is)
    (case hg_MOST_PARTS => first | k_is | k_exc | kit_is)
    (case hg_OPERATORS => first | k_is | k_exc | kit_is)
    (case lq_OPERATORS => first | k_is | k_exc | kit_is)
    (case hg_LOOKS => first | k_is | k_exc | kit_is)
    (case lq_LOOKS => first | k_is | k_exc | kit_is)
    (case hg_DEEPEST_EXPRESSION => first | k_is | k_exc | kit_is)
    (case hg_MOST_RULES => first | k_is | k_exc | kit_is)
    (case hg_KNOWN => first | k_is | k_exc | kit_is)
    (case lq_KNOWN => first | k_is | k_exc | kit_is)
    (case zn_len => first | k_is | k_exc | kit_is)
    (case zn_all => first | k_is | k_exc | kit_is)
    (case zn_int => first | k_is | k_exc | kit_is)
    (case zn_str => first | k_is | k_exc | kit_is)
    (case zn_tuple => first | k_is | k_exc | kit_is)
    (case zn_list => first | k_is | k_exc | kit_is)
    (case zn_range => first | k_is | k_exc | kit_is)
    (case zn_isinstance => first | k_is | k_exc | kit_is)
    (case zn_abs => first | k_is | k_exc | kit_is)
    (case zn_bool => first | k_is | k_exc | kit_is)
    (case xga_BadText => first | k_is | k_exc | kit_is)
    (case xgg_BadText => first | k_is | k_exc | kit_is)
    (case sub_tp => first | k_is | k_exc | kit_is)
    (case ki_tt => first | k_is | k_exc | kit_is)
    (case ki_e => first | k_is | k_exc | kit_is)
    (case hP_ => exact ⟨rfl, rfl⟩)
