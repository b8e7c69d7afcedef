import PyProof.Rows.All
import Wide.All
import OpenK.AllK
import Wide.FinOn
import HandS.ForMost
import HandS.ForExc
import HandS.Property
import HandS.Defaults
import HandS.Nested
import HandS.More
import HandS.ClsMeth
import KE.KSuper
import HandS.IsInst
import HandS.FStr
import HandS.Small
import HandS.MakeKw
import HandS.MakeKwOnly
import HandS.Steps
import HandS.Zip
import HandS.Walk
import HandS.NoneIn
import PySem.Challenge.RW_fillorder_k03_whole_goals_that_keep_a_fl
set_option Elab.async false
set_option linter.all false
set_option maxRecDepth 100000
set_option maxHeartbeats 4000000
namespace Sx
open PySem PySem.Spec PyProof.Rows L2 NdefX ClX
structure PEA (X : Cx) (B : List Stmt) (e : Expr) (t : TE) : Prop where
  run : ∀ (pins : List (Addr × Obj)) (s : Shared) (σ : L2.St) (H : Hp) (Q : VK), Inv X pins σ H s → t σ H Q →
    _root_.PySem.wpAt (model X.prog X.w) X.A (.func B X.env) (eval e X.env) (EP X pins σ Q) X.xe s
structure PSA (X : Cx) (B : List Stmt) (st : Stmt) (t : TS) : Prop where
  run : ∀ (pins : List (Addr × Obj)) (s : Shared) (σ : L2.St) (H : Hp) (D : Ends), Inv X pins σ H s → t D σ H →
    _root_.PySem.wpAt (model X.prog X.w) X.A (.func B X.env) (exec st X.env) (SP X pins D) X.xe s
structure PSsA (X : Cx) (B : List Stmt) (st : List Stmt) (t : TS) : Prop where
  run : ∀ (pins : List (Addr × Obj)) (s : Shared) (σ : L2.St) (H : Hp) (D : Ends), Inv X pins σ H s → t D σ H →
    _root_.PySem.wpAt (model X.prog X.w) X.A (.func B X.env) (execs st X.env) (SP X pins D) X.xe s
section
variable {X : Cx} {B : List Stmt} {e : Expr} {te : TE} {st : Stmt} {sts rest : List Stmt} {t u : TS} {pos : Pos}
theorem pea_of (h : PE X e te) : PEA X B e te := ⟨fun pins s σ H Q I q => wpAt_of_wpAny (h.run pins s σ H Q I q)⟩
theorem psa_of (h : PS X st t) : PSA X B st t := ⟨fun pins s σ H D I q => wpAt_of_wpAny (h.run pins s σ H D I q)⟩
theorem pssa_of (h : PSs X sts t) : PSsA X B sts t := ⟨fun pins s σ H D I q => wpAt_of_wpAny (h.run pins s σ H D I q)⟩
theorem pssa_cons (h1 : PSA X B st t) (h2 : PSsA X B rest u) : PSsA X B (st :: rest) (tSeq t u) := by
  refine ⟨fun pins s σ H D I h => ?_⟩
  refine ks_wpAt_execs_cons (ks_wpAt_mono (h1.run pins s σ H { D with nx := u D } I h) (fun f s1 q => ?_) fun _ _ z => z)
  cases f with
  | next =>
    obtain ⟨σ', H', I', q⟩ := q
    exact h2.run pins s1 σ' H' D I' q
  | ret v => exact q
  | brk => exact q
  | cont => exact q
theorem pssa_one (h1 : PSA X B st t) : PSsA X B [st] t := by
  refine ⟨fun pins s σ H D I h => ?_⟩
  refine ks_wpAt_execs_cons (ks_wpAt_mono (h1.run pins s σ H D I h) (fun f s1 q => ?_) fun _ _ z => z)
  cases f with
  | next => exact wpAt_of_wpAny (wpAny_execs_nil q)
  | ret v => exact q
  | brk => exact q
  | cont => exact q
theorem psa_expr (he : PEA X B e te) (hs : swapsWith e none pos.line X.env = pure false := by rfl) : PSA X B (.Expr e pos) (tDrop te) := by
  refine ⟨fun pins s σ H D I h => ?_⟩
  exact ks_wpAt_Expr_any (ks_wpAt_mono (he.run pins s σ H _ I h) (fun v s1 ⟨x, H1, I1, r1, q1⟩ => ⟨σ, H1, I1, q1⟩) fun _ _ z => z) I.quiet hs
theorem psa_ret (he : PEA X B e te) : PSA X B (.Return (some e) pos) (tRet te) := by
  refine ⟨fun pins s σ H D I h => ?_⟩
  exact ks_wpAt_Return_some (ks_wpAt_mono (he.run pins s σ H _ I h) (fun v s1 ⟨x, H1, I1, r1, q1⟩ => ⟨x, σ, H1, I1, r1, q1⟩) fun _ _ z => z)
theorem psa_set {i : Nat} {x : Str} {pos' : Pos} (hN : X.N.Nodup) (hi : X.N[i]? = some x) (hx : Loc X.env.scope x) (he : PEA X B e te) (hs : swapsWith e (some (.Name x pos')) pos.line X.env = pure false := by rfl)
    (hf : X.fn x = true ∨ X.env.scope.names.lookup x = some .local := by first | exact .inl rfl | exact .inr rfl | assumption) : PSA X B (.Assign [.Name x pos'] e pos) (tAsg te (gName i)) := by
  refine ⟨fun pins s σ H D I h => ?_⟩
  refine ks_wpAt_Assign_Name (ks_wpAt_mono (he.run pins s σ H _ I h) (fun v s1 ⟨y, H1, I1, r1, q1⟩ => ?_) fun _ _ z => z) hs
  exact store_ok I1 hN hi hx r1 (fun s2 I2 => ⟨_, H1, I2, q1⟩) hf
theorem pea_if {c a b : Expr} {tc : TT} {ta tb : TE} (hc : PT X c tc) (ha : PEA X B a ta) (hb : PEA X B b tb) : PEA X B (.IfExp c a b pos) (tIf tc ta tb) := by
  refine ⟨fun pins s σ H Q I h => ?_⟩
  rw [arm_eval_IfExp]
  refine _root_.PySem.wpAt_bind (_root_.PySem.wpAt_of_wpAny (thn (hc.run pins s σ H _ I h) fun d s1 ⟨H1, I1, q1⟩ => ?_))
  cases d with
  | true => exact ha.run pins s1 σ H1 Q I1 q1
  | false => exact hb.run pins s1 σ H1 Q I1 q1
end
structure FunC (K : PySem.W.Frag) (mf x qual : Str) (st : Stmt) (dvs : List V) (kws : List (Str × V)) (D f : Addr) (fd : FuncData) : Prop where
  ex : ∃ (oc : Value) (od : Option Addr) (dV kV doc pm : Value) (an : Option Addr) (c : Addr) (ct : Value) (osl : Array (Option Value)) (cc : Addr) (cl : Value) (cld : Option Addr) (csl : Array (Option Value)) (ccl : Value) (cdd : Option Addr) (vs : Array Value) (ccs : Array (Option Value)) (file : Str) (tf : Tok),
    fd = PySem.W.fnX x qual (defArgs st) (defBody st) (defScope st) [("__class__", cc)] dV kV doc pm an (.ref c) ct ∧ K.lookup f = some ⟨oc, od, .func fd, osl⟩ ∧ PySem.W.codeIn K (.ref c) qual = true ∧
    K.lookup cc = some ⟨cl, cld, .cell (some (.ref D)), csl⟩ ∧ K.lookup c = some ⟨ccl, cdd, .fields vs, ccs⟩ ∧ vs[2]? = some (.str file tf) ∧ (mf == file) = true ∧ DflV K dV dvs ∧ KwdV K kV kws
  kp : PySem.W.keepIn K (.ref f) = true
abbrev nfOf (x qual : Str) (st : Stmt) (cc c : Addr) : NF := ⟨x, qual, defArgs st, defBody st, defScope st, [("__class__", cc)], c⟩
section
variable {P : Program} {w : World} {K : PySem.W.Frag} {mg : Str → Option Value} {base : Heap}
theorem cells_cls {A : Around} {outer : List Env} {s : Shared} {H : Hp} {cc D : Addr} {cl : Value} {cld : Option Addr} {csl : Array (Option Value)} (e0 : Env0 P w K mg base A outer s H) (hc : K.lookup cc = some ⟨cl, cld, .cell (some (.ref D)), csl⟩) :
    CellsAt [("__class__", cc)] ["__class__"] [some (.ref D)] s.heap H := by
  have hb : base.get? cc = some ⟨cl, cld, .cell (some (.ref D)), csl⟩ := e0.mod.kin _ _ hc
  obtain ⟨h1, h2⟩ := e0.bs _ _ hb
  have look : ∀ {y : Str} {c : Addr}, ([("__class__", cc)] : List (Str × Addr)).lookup y = some c → y = "__class__" ∧ c = cc := fun {y c} e => by
    have hm := PySem.mem_of_lookup e
    have e2 := List.mem_singleton.mp hm
    exact ⟨congrArg Prod.fst e2, congrArg Prod.snd e2⟩
  refine ⟨rfl, fun y c e => ?_, fun x y c e1 e2 => (look e1).1.trans (look e2).1.symm, fun i y hi => ?_⟩
  · obtain ⟨_, rfl⟩ := look e
    exact ⟨h2, _, _, h1, rfl⟩
  · match i, hi with
    | 0, hi =>
      have e : ("__class__" : Str) = y := Option.some.inj hi
      subst e
      refine ⟨cc, rfl, fun v hv => ?_⟩
      have e : V.ref D = v := Option.some.inj (Option.some.inj hv)
      subst e
      exact ⟨.ref D, rfl, _, h1, rfl⟩
    | i + 1, hi => simp at hi
theorem fn_ofC {CX : CXT} {k : Nat} {f c cc D : Addr} {x qual : Str} {st : Stmt} {dV kV doc pm ct oc : Value} {an od : Option Addr} {osl : Array (Option Value)} {cl : Value} {cld : Option Addr} {csl : Array (Option Value)} {N ps : List Str} {sp : Sp}
    (lk : K.lookup f = some ⟨oc, od, .func (PySem.W.fnX x qual (defArgs st) (defBody st) (defScope st) [("__class__", cc)] dV kV doc pm an (.ref c) ct), osl⟩) (hcd : PySem.W.codeIn K (.ref c) qual = true)
    (hcc : K.lookup cc = some ⟨cl, cld, .cell (some (.ref D)), csl⟩) (S : NScope N ps ["__class__"] (defScope st)) (len : ∀ vs H Q E, sp vs H Q E → vs.length = ps.length)
    (hbody : ∀ (A : Around) (outer : List Env) (s : Shared) (H : Hp) (vs : List V) (Q : VK) (E : XK), Room k (A.deeper (envF (nfOf x qual st cc c) f s.heap.objs.size)) → sp vs H Q E →
      ∃ t, PSsA (ncx CX P w K mg base N (nfOf x qual st cc c) f A outer s H E) (defBody st) (defBody st) t ∧ t { nx := fun _ H' => Q .non H', rt := Q } (startF N vs [some (.ref D)]) H) :
    FnOk P w K mg base CX (k + 1) f (PySem.W.fnX x qual (defArgs st) (defBody st) (defScope st) [("__class__", cc)] dV kV doc pm an (.ref c) ct) ps sp := by
  refine ⟨len, fun A outer s H args us vs Q E hr e0 hb r hsp => ?_⟩
  have hl := len _ _ _ _ hsp
  have KX : K.In s.heap := e0.mod.kin.keeps fun b o e => (e0.bs b o e).1
  have lim : s.heap.NoLimit := e0.mod.nolimit.keeps fun b o e => (e0.bs b o e).1
  refine codeAny_call_function hr.depth (KX _ _ lk) rfl S.co S.gen rfl (PySem.W.codeRec_of KX hcd) (hb _ _ _ _ ?_)
  refine wpAny_newFunctionEnv S.nocell (fun ⟨n, _⟩ hy => S.par n (List.of_mem_zip hy).1) (fun h₁ hns hsb => ⟨lim.fresh _ hsb, ?_⟩) S.kind
  show codeAny _ _ (.func (defBody st) (envF (nfOf x qual st cc c) f s.heap.objs.size)) _ _
  refine ks_codeAny_funcAt ?_
  have kp : ∀ b o, s.heap.get? b = some o → h₁.get? b = some o := fun b o e => hsb.extBut b o (Nat.ne_of_lt (Heap.lt_size e)) (Heap.get?_push_of_some _ e)
  obtain ⟨t, ht, hq⟩ := hbody A outer s H vs Q E (hr.deeper _) hsp
  have I : Inv (ncx CX P w K mg base N (nfOf x qual st cc c) f A outer s H E) [] (startF N vs [some (.ref D)]) H { s with heap := h₁, toks := s.toks + (ps.zip us).length } := inv_startN S hr.hd e0 hl r (cells_cls e0 hcc) hns kp
  refine ks_wpAt_mono (ht.run [] _ (startF N vs [some (.ref D)]) H _ I hq) (fun fl s' hs => ?_) fun e s' hs => hs
  have fin : ∀ {σ' : L2.St} {H' : Hp} {v : V} {u : Value}, Inv (ncx CX P w K mg base N (nfOf x qual st cc c) f A outer s H E) [] σ' H' s' → L2.RelV v u → Q v H' → CE outer P w H s Q u s' :=
    fun {σ' H' v u} J rv q => ⟨v, H', J.os, J.bare, J.base, J.hok, rv, q⟩
  cases fl with
  | ret u =>
    obtain ⟨v, σ', H', J, rv, q⟩ := hs
    exact fin J rv q
  | next =>
    obtain ⟨σ', H', J, q⟩ := hs
    exact fin (v := V.non) (u := Value.none) J rfl q
  | brk =>
    obtain ⟨_, _, _, q⟩ := hs
    exact False.elim q
  | cont =>
    obtain ⟨_, _, _, q⟩ := hs
    exact False.elim q
end
structure CxSup (X : Cx) (D : Addr) : Prop where
  ks : X.env.kindOf "super" = some .globalImplicit
  kc : X.env.kindOf "__class__" = some .free
  cell : ∃ (cc : Addr) (cl : Value) (cld : Option Addr) (csl : Array (Option Value)), X.env.cells.lookup ("__class__" : Str) = some cc ∧ X.K.lookup cc = some ⟨cl, cld, .cell (some (.ref D)), csl⟩
  func : ∃ (f : Addr) (oc : Value) (od : Option Addr) (fd : FuncData) (osl : Array (Option Value)) (ar : Arg), X.env.func = some f ∧ X.K.lookup f = some ⟨oc, od, .func fd, osl⟩ ∧ (fd.params.posonlyargs ++ fd.params.args).head? = some ar ∧ X.N[0]? = some ar.arg ∧ X.env.kindOf ar.arg = some .local
  code : ∃ (c : Addr) (ccl : Value) (cdd : Option Addr) (vs : Array Value) (ccs : Array (Option Value)) (file : Str) (tf : Tok), X.env.code = .ref c ∧ X.K.lookup c = some ⟨ccl, cdd, .fields vs, ccs⟩ ∧ vs[2]? = some (.str file tf) ∧ ((X.prog.main.file : Str) == file) = true
structure SupP (K : PySem.W.Frag) (P : Program) (mg : Str → Option Value) : Prop where
  op : PySem.W.nsIn K cStatics "thirdparty.any" = some none
  mgS : mg "super" = none
  top : (P.main.scope.names.lookup ("super" : Str)).isSome = false
structure SupC (K : PySem.W.Frag) (C D f2 : Addr) (m : Str) : Prop where
  sub : PySem.W.mroIn K C (.ref D) = some true
  at_ : PySem.W.ks_superIn K C D m = some (some (.ref f2))
  ty : PySem.W.typeIn K (.ref f2) = some (.type "function")
  fi : PySem.W.fnIn K f2 = true
  cls : PySem.W.isClsIn K D = true
theorem boot_super : bootBuiltins "super" = some (.type "super") := by first | rfl | decide +kernel | kernel_rfl
section
variable {X : Cx} {B : List Stmt} {pins : List (Addr × Obj)} {σ : L2.St} {H : Hp} {s : Shared} {D a C dx f2 : Addr} {fs : List (Str × V)} {m : Str} {p0 p1 apos pos : Pos} {es : List Expr} {kws : List Keyword} {pl : Sem Bool} {E : Value → Shared → Prop} {Q : Value → Shared → Prop}
theorem super_core (SX : CxSup X D) (SP : SupP X.K X.prog X.mg) (SC : SupC X.K C D f2 m) (hat : (m == ("__class__" : Str)) = false) (I : Inv X pins σ H s) (h0 : σ[0]? = some (some (.ref a))) (eH : H a = some (.ins C dx fs))
    (h : ∀ q s', X.base.get? q = none → Inv X ((q, PySem.W.methodObj (.ref f2) (.ref a)) :: pins) σ H s' → wpAny (model X.prog X.w) X.A (callWith pos (.ref q) [] (backTo pos (starEach es X.env)) (backToKw pos (keywordEach kws X.env))) Q E s')
    (he : eval (.Call (.Attribute (.Call (.Name "super" p0) [] [] p1) m apos) es kws pos) X.env = (do
      let ov ← attributeBase (.Call (.Name "super" p0) [] [] p1) m X.env (eval (.Call (.Name "super" p0) [] [] p1) X.env)
      standAt apos.atName
      let (f, first) ← holding [ov] (getMethod ov m pl)
      callWith pos f first (backTo pos (starEach es X.env)) (backToKw pos (keywordEach kws X.env))) := by rfl) :
    _root_.PySem.wpAt (model X.prog X.w) X.A (.func B X.env) (eval (.Call (.Attribute (.Call (.Name "super" p0) [] [] p1) m apos) es kws pos) X.env) Q E s := by
  obtain ⟨cc, cl, cld, csl, hcl, hcc⟩ := SX.cell
  obtain ⟨f, oc, od, fd, osl, ar, hfu, hf, hp, hN, hka⟩ := SX.func
  obtain ⟨c, ccl, cdd, vs, ccs, file, tf, hco, hc, hvs, hfile⟩ := SX.code
  obtain ⟨mA, O, _, _, _, _⟩ := ins_get I.hok eH
  obtain ⟨oda, J, _⟩ := O.look
  obtain ⟨cdD, hcD⟩ := Option.isSome_iff_exists.mp (show (PySem.W.clsIn X.K D).isSome = true from SC.cls)
  have X1 : X.K.In s.heap := I.kIn
  obtain ⟨oD, hD1, hD2⟩ : ∃ oD, s.heap.get? D = some oD ∧ oD.data = .cls cdD := by
    unfold PySem.W.clsIn at hcD
    split at hcD
    · rename_i _ _ _ _ ho
      cases hcD
      exact ⟨_, X1 _ _ ho, rfl⟩
    · cases hcD
  have hself : s.heap.Ns X.env.locals = s.heap.Ns X.env.locals := rfl
  obtain ⟨m', hn, hl⟩ := I.loc
  obtain ⟨u, r, l⟩ := hl 0 ar.arg (.ref a) hN h0 (.inl hka)
  obtain rfl : u = Value.ref a := r
  have hm' : m' ar.arg = some (.ref a) := by
    rcases l with ⟨_, e⟩ | ⟨k, _⟩
    · exact e
    · rcases k with k | k <;> (rw [hka] at k; cases k)
  obtain ⟨mb, hb1, hb2⟩ := I.mod.blt
  rw [he]
  refine _root_.PySem.wpAt_bind ?_
  refine ks_wpAt_super_base SX.ks SX.kc hat hfu (X1 _ _ hf) rfl hp hco (X1 _ _ hc) rfl hvs hfile SP.top ?_
  refine PySem.W.ks_loadName_global I.ok.kind SX.ks (Calls.loadGlobal_builtin (by rw [I.ok.glob]; exact I.mod.glob.keeps I.bk) SP.mgS (by rw [I.ok.blt]; exact hb1.keeps I.bk) ((hb2 _ (by decide)).trans boot_super) ⟨rfl, ?_⟩)
  refine wpAny_loadName_free I.ok.kind SX.kc hcl ⟨_, X1 _ _ hcc, rfl⟩ ?_
  refine wpAny_loadName_local I.ok.kind hka hn hm' ?_
  obtain ⟨hh, g, d, t, os⟩ := s
  refine ks_wpAny_isType_cls hD1 hD2 ⟨rfl, ?_⟩
  refine ks_wpAny_call_super hD1 hD2 J.at_ J.cls (fun c e => ?_) (PySem.W.looks_mroIn X1 SC.sub) (fun h' e k => ?_)
  · have q := J.no
    unfold PySem.W.notCls at q
    rw [e] at q
    exact Bool.noConfusion q
  have I1 : Inv X pins σ H ⟨h', g, d, t, os⟩ := I.kept (t' := t) k
  have X2 : X.K.In h' := I1.kIn
  obtain ⟨mA1, O1, _, _, _, _⟩ := ins_get I1.hok eH
  obtain ⟨oda1, J1, _⟩ := O1.look
  refine _root_.PySem.wpAt_of_wpAny (wpAny_bind (wpAny_standAt (wpAny_bind (wpAny_holding ?_))))
  cases hcC : PySem.W.clsIn X.K C with
  | none =>
    have q := SC.at_
    unfold PySem.W.ks_superIn at q
    rw [hcC] at q
    cases q
  | some cd =>
    have q := SC.at_
    unfold PySem.W.ks_superIn at q
    rw [hcC] at q
    obtain ⟨of, hof, hofc⟩ : ∃ of, h'.get? f2 = some of ∧ of.cls = .type "function" := by
      have ht' : (X.K.lookup f2).map (·.cls) = some (.type "function") := SC.ty
      cases z : X.K.lookup f2 with
      | none => rw [z] at ht'; cases ht'
      | some of => rw [z] at ht'; exact ⟨of, X2 _ _ z, Option.some.inj ht'⟩
    refine ks_wpAny_getMethod_super e (PySem.W.looks_opaque X2 SP.op) (l₀ := cd.mro) ?_ rfl X2 q hof hofc (PySem.W.ks_ne X2 J1 hcC) hat ?_
    · exact fun A Q E s k q => wpAny_bind ((PySem.W.looks_clsIn X2 hcC) A _ E s k (wpAny_pure q))
    · refine h _ _ (base_none I1 (Nat.le_refl _)) ?_
      exact pin_new I1 (fun _ _ z => Heap.get?_push_of_some _ z) (Nat.le_refl _) (Heap.get?_push_size h' rfl) (fun v z => nomatch z)
end
def tSup (C : Addr) (sp : Sp) (dvs : List V) (E : XK) (t : TA) : TE := fun σ H Q => ∃ a dx fs, σ[0]? = some (some (.ref a)) ∧ H a = some (.ins C dx fs) ∧ t σ H fun vs H2 => sp (.ref a :: (vs ++ dvs)) H2 Q E
def tSupK (C : Addr) (n m : Nat) (sp : Sp) (gV : List V → List V → List V) (E : XK) (t tk : TA) : TE := fun σ H Q => ∃ a dx fs, σ[0]? = some (some (.ref a)) ∧ H a = some (.ins C dx fs) ∧ t σ H fun vs H1 => tk σ H1 fun zs H2 => vs.length = n ∧ zs.length = m ∧ sp (gV (.ref a :: vs) zs) H2 Q E
section
variable {X : Cx} {B : List Stmt} {CX : CXT} {k : Nat} {D C f2 : Addr} {fd : FuncData} {ps ks : List Str} {sp : Sp} {dvs : List V} {ds : List Value} {m : Str} {p0 p1 apos pos : Pos} {e : Expr} {es : List Expr} {kws : List Keyword} {pl : Sem Bool} {E : XK} {t tk : TA}
theorem pea_super (SX : CxSup X D) (SP : SupP X.K X.prog X.mg) (SC : SupC X.K C D f2 m) (F : FnOk X.prog X.w X.K X.mg X.base CX k f2 fd ps sp) (hr : Room k X.A) (hb : Binds X.K fd ps ds) (hd : Vals dvs ds) (hx : Passes CX X E) (ha : PA X (e :: es) t)
    (hat : (m == ("__class__" : Str)) = false := by decide) (hst : starEach (e :: es) X.env = (false, eval e X.env) :: starEach es X.env := by rfl) (hpl : (backTo pos (starEach es X.env)).any (·.1) = false := by rfl)
    (he : eval (.Call (.Attribute (.Call (.Name "super" p0) [] [] p1) m apos) (e :: es) [] pos) X.env = (do
      let ov ← attributeBase (.Call (.Name "super" p0) [] [] p1) m X.env (eval (.Call (.Name "super" p0) [] [] p1) X.env)
      standAt apos.atName
      let (f, first) ← holding [ov] (getMethod ov m pl)
      callWith pos f first (backTo pos (starEach (e :: es) X.env)) (backToKw pos (keywordEach [] X.env))) := by rfl) :
    PEA X B (.Call (.Attribute (.Call (.Name "super" p0) [] [] p1) m apos) (e :: es) [] pos) (tSup C sp dvs E t) := by
  refine ⟨fun pins s σ H Q I h => ?_⟩
  obtain ⟨a, dx, fs, h0, eH, h⟩ := h
  refine super_core SX SP SC hat I h0 eH (fun q s' hb0 I2 => ?_) he
  refine callwith_cm I2 hb0 SC.fi (thn (ha.run pos _ s' σ H _ I2 h) fun us s3 ⟨vs, H2, I3, rv, q2⟩ => ⟨⟨pin_at I3, I3.kIn⟩, ?_⟩) hst hpl
  exact run_cm (F.raw hb hd) hr hx I3 rv q2
theorem pea_super0 (SX : CxSup X D) (SP : SupP X.K X.prog X.mg) (SC : SupC X.K C D f2 m) (F : FnOk X.prog X.w X.K X.mg X.base CX k f2 fd ps sp) (hr : Room k X.A) (hb : Binds X.K fd ps ds) (hd : Vals dvs ds) (hx : Passes CX X E)
    (hat : (m == ("__class__" : Str)) = false := by decide)
    (he : eval (.Call (.Attribute (.Call (.Name "super" p0) [] [] p1) m apos) [] [] pos) X.env = (do
      let ov ← attributeBase (.Call (.Name "super" p0) [] [] p1) m X.env (eval (.Call (.Name "super" p0) [] [] p1) X.env)
      standAt apos.atName
      let (f, first) ← holding [ov] (getMethod ov m pl)
      callWith pos f first (backTo pos (starEach [] X.env)) (backToKw pos (keywordEach [] X.env))) := by rfl) :
    PEA X B (.Call (.Attribute (.Call (.Name "super" p0) [] [] p1) m apos) [] [] pos) (tSup C sp dvs E tNil) := by
  refine ⟨fun pins s σ H Q I h => ?_⟩
  obtain ⟨a, dx, fs, h0, eH, h⟩ := h
  refine super_core SX SP SC hat I h0 eH (fun q s' hb0 I2 => ?_) he
  refine PySem.W.callWith_M0 (first := []) ⟨pin_at I2, I2.kIn⟩ SC.fi ?_
  exact run_cm (us := []) (vs := []) (F.raw hb hd) hr hx I2 .nil h
theorem pea_superK {n : Nat} {g : List Value → List Value → List Value} {gV : List V → List V → List V} (SX : CxSup X D) (SP : SupP X.K X.prog X.mg) (SC : SupC X.K C D f2 m) (F : FnOk X.prog X.w X.K X.mg X.base CX k f2 fd ps sp) (hr : Room k X.A) (hb : KBn X.K fd ps (n + 1) ks g gV) (hx : Passes CX X E) (ha : PA X (e :: es) t) (hkw : PK X kws tk)
    (hall : (backToKw pos (keywordEach kws X.env)).all (·.1.isSome) = true := by rfl) (hks : (backToKw pos (keywordEach kws X.env)).filterMap (·.1) = ks := by rfl)
    (hat : (m == ("__class__" : Str)) = false := by decide) (hst : starEach (e :: es) X.env = (false, eval e X.env) :: starEach es X.env := by rfl)
    (hpl : ((backTo pos (starEach (e :: es) X.env)).any (·.1) || (backToKw pos (keywordEach kws X.env)).any (·.1.isNone)) = false := by rfl)
    (he : eval (.Call (.Attribute (.Call (.Name "super" p0) [] [] p1) m apos) (e :: es) kws pos) X.env = (do
      let ov ← attributeBase (.Call (.Name "super" p0) [] [] p1) m X.env (eval (.Call (.Name "super" p0) [] [] p1) X.env)
      standAt apos.atName
      let (f, first) ← holding [ov] (getMethod ov m pl)
      callWith pos f first (backTo pos (starEach (e :: es) X.env)) (backToKw pos (keywordEach kws X.env))) := by rfl) :
    PEA X B (.Call (.Attribute (.Call (.Name "super" p0) [] [] p1) m apos) (e :: es) kws pos) (tSupK C n ks.length sp gV E t tk) := by
  refine ⟨fun pins s σ H Q I h => ?_⟩
  obtain ⟨a, dx, fs, h0, eH, h⟩ := h
  refine super_core SX SP SC hat I h0 eH (fun q s' hb0 I2 => ?_) he
  refine PySem.W.callWith_of (P := fun hp => PySem.W.MethP X.K q f2 (.ref a) hp) hpl (PySem.W.keeps_M SC.fi) (evalArgs_kw2 hall (thn (ha.run pos _ s' σ H _ I2 h) fun us s3 ⟨vs, H1, I3, rv, q2⟩ => ?_) hst)
  refine thn (hkw.run pos _ s3 σ H1 _ I3 q2) fun ws s4 ⟨zs, H2, I4, rz, l1, l2, q4⟩ => ⟨⟨pin_at I4, I4.kIn⟩, ?_⟩
  rw [hks]
  have r2 := hb.rel (.cons (show L2.RelV (.ref a) (Value.ref a) from rfl) rv) rz
  have l3 : (Value.ref a :: us).length = n + 1 := congrArg Nat.succ (rv.length.symm.trans l1)
  refine wpAny_call (PySem.W.method_call (pin_at I4) (codeAny_mono (F.run X.A X.stack s4 H2 ⟨.ref a :: us, ks.zip ws⟩ (g (.ref a :: us) ws) (gV (.ref a :: vs) zs) Q E hr I4.env0 (hb.to s4 (.ref a :: us) ws I4.kIn l3 (rz.length.symm.trans l2)) r2 q4) fun r s' hq => ?_))
  cases r with
  | error e => exact hx _ σ H2 s4 e s' I4 hq
  | ok fl =>
    cases fl with
    | ret u => exact unpinE (I4.after hq)
    | next => exact False.elim hq
    | brk => exact False.elim hq
    | cont => exact False.elim hq
end
section
variable {P : Program} {w : World} {K : PySem.W.Frag} {mg : Str → Option Value} {base : Heap}
theorem FunC.okX {x qual : Str} {st : Stmt} {dvs : List V} {kws : List (Str × V)} {D f : Addr} {fd : FuncData} {N ps : List Str} {k : Nat} {sp : Sp} (F : FunC K (P.main.file : Str) x qual st dvs kws D f fd)
    (S : NScope N ps ["__class__"] (defScope st)) (hs : (defScope st).names.lookup ("super" : Str) = some .globalImplicit) {ar : Arg} (hp : ((defArgs st).posonlyargs ++ (defArgs st).args).head? = some ar) (hN : N[0]? = some ar.arg) (ha : (defScope st).names.lookup ar.arg = some .local)
    (len : ∀ vs H Q E, sp vs H Q E → vs.length = ps.length)
    (hbody : ∀ (cc c : Addr) (A : Around) (outer : List Env) (s : Shared) (H : Hp) (vs : List V) (Q : VK) (E : XK), Room k (A.deeper (envF (nfOf x qual st cc c) f s.heap.objs.size)) → CxSup (ncx (L2.CX P w) P w K mg base N (nfOf x qual st cc c) f A outer s H E) D → sp vs H Q E →
      ∃ t, PSsA (ncx (L2.CX P w) P w K mg base N (nfOf x qual st cc c) f A outer s H E) (defBody st) (defBody st) t ∧ t { nx := fun _ H' => Q .non H', rt := Q } (startF N vs [some (.ref D)]) H) :
    FnOk P w K mg base (L2.CX P w) (k + 1) f fd ps sp := by
  obtain ⟨oc, od, dV, kV, doc, pm, an, c, ct, osl, cc, cl, cld, csl, ccl, cdd, vs, ccs, file, tf, rfl, lk, hcd, hcc, hco, hvs, hfile, _, _⟩ := F.ex
  refine fn_ofC lk hcd hcc S len fun A outer s H vs Q E hr hsp => ?_
  refine hbody cc c A outer s H vs Q E hr ⟨hs, S.frk _ (List.mem_singleton.mpr rfl), ⟨cc, cl, cld, csl, rfl, hcc⟩, ⟨f, oc, od, _, osl, ar, rfl, lk, hp, hN, ha⟩, ⟨c, ccl, cdd, _, ccs, file, tf, rfl, hco, hvs, hfile⟩⟩ hsp
end
structure CSta (K : PySem.W.Frag) (C : Addr) (mc : Value) (m : Str) (p g : Addr) : Prop where
  rd : CRead K C mc
  at_ : PySem.W.findCls K (.ref C) mc m = some (.get (.builtin "staticmethod.__get__") (.ref p) .none (.ref C))
  rc : ∃ rest, PySem.W.recIn K p "staticmethod" = some (.ref g :: rest)
  kp : PySem.W.keepIn K (.ref g) = true
structure ISta (K : PySem.W.Frag) (C : Addr) (m : Str) (p g : Addr) : Prop where
  pg : PySem.W.plainGet K C Str.empty = true
  ic : PySem.W.isClsIn K C = true
  at_ : PySem.W.findIn K (.ref C) m = some (some (.ref p))
  ty : PySem.W.typeIn K (.ref p) = some (.type "staticmethod")
  get : PySem.W.specialIn K (.ref p) "__get__" = some (some (.builtin "staticmethod.__get__"))
  tk : PySem.W.takesIn K (.ref p) = some false
  cp : PySem.W.copiedNames.contains m = false
  rc : ∃ rest, PySem.W.recIn K p "staticmethod" = some (.ref g :: rest)
  kp : PySem.W.keepIn K (.ref g) = true
def tSta (C : Addr) (sp : Sp) (dvs : List V) (E : XK) (ta : TE) (t : TA) : TE := fun σ H Q => ta σ H fun x H1 => x = .ref C ∧ t σ H1 fun vs H2 => sp (vs ++ dvs) H2 Q E
def tIsta (C : Addr) (m : Str) (sp : Sp) (dvs : List V) (E : XK) (ta : TE) (t : TA) : TE := fun σ H Q => ta σ H fun x H1 => ∃ a dx fs, x = .ref a ∧ H1 a = some (.ins C dx fs) ∧ fs.lookup m = none ∧ t σ H1 fun vs H2 => sp (vs ++ dvs) H2 Q E
section
variable {X : Cx} {CX : CXT} {k : Nat} {C p g : Addr} {mc : Value} {sp : Sp} {fd : FuncData} {ps : List Str} {dvs : List V} {ds : List Value} {E : XK} {o e : Expr} {es : List Expr} {m : Str} {pos apos : Pos} {ta : TE} {t : TA} {pl : Sem Bool}
theorem pe_sta (he : PE X o ta) (c : CSta X.K C mc m p g) (F : FnOk X.prog X.w X.K X.mg X.base CX k g fd ps sp) (hr : Room k X.A) (hb : Binds X.K fd ps ds) (hd : Vals dvs ds) (hx : Passes CX X E) (ha : PA X (e :: es) t)
    (hst : starEach (e :: es) X.env = (false, eval e X.env) :: starEach es X.env := by rfl) (hpl : (backTo pos (starEach es X.env)).any (·.1) = false := by rfl)
    (ht : eval (.Call (.Attribute o m apos) (e :: es) [] pos) X.env = (do
      let ov ← eval o X.env
      standAt apos.atName
      let (f, first) ← holding [ov] (getMethod ov m pl)
      callWith pos f first (backTo pos (starEach (e :: es) X.env)) (backToKw pos (keywordEach [] X.env))) := by rfl) :
    PE X (.Call (.Attribute o m apos) (e :: es) [] pos) (tSta C sp dvs E ta t) := by
  refine ⟨fun pins s σ H Q I h => ?_⟩
  refine PySem.W.methodCall_KW (pl := pl) (thn (he.run pins s σ H _ I h) fun u s1 ⟨x, H1, I1, rx, ex, q⟩ => ?_) ht
  subst ex
  obtain rfl : u = Value.ref C := rx
  obtain ⟨rest, hrc⟩ := c.rc
  refine PySem.W.method_cls I1.kIn c.rd.ga (PySem.W.cls_bind I1.kIn c.rd.rd c.at_ (wpAny_call (PySem.W.sm_get (s := { s1 with toks := s1.toks + 1 }) I1.kIn hrc (PySem.W.handed_on rfl ?_))))
  refine PySem.W.callWith_K (first := []) (h₀ := X.base) I.ok.mod.kin c.kp (thn (ha.run pos pins _ σ H1 _ (I1.tok (s1.toks + 1)) q) fun us s2 ⟨vs, H2, I2, r, q2⟩ => ⟨I2.kIn, ?_⟩) hst hpl
  exact run_fn F hr hb hd hx I2 r q2
theorem find_sm {K : PySem.W.Frag} {C p : Addr} {m : Str} {g : Value} {od : Obj} (hc : PySem.W.isClsIn K C = true) (ha : PySem.W.findIn K (.ref C) m = some (some (.ref p))) (hg : PySem.W.specialIn K (.ref p) "__get__" = some (some g))
    (ht : PySem.W.takesIn K (.ref p) = some false) (hn : PySem.W.copiedNames.contains m = false) (hl : PySem.W.lookIn m od = some none) : PySem.W.findObj K C (some od) m = some (.bind g (.ref p)) := find_cm hc ha hg ht hn hl
theorem pe_ista (he : PE X o ta) (c : ISta X.K C m p g) (F : FnOk X.prog X.w X.K X.mg X.base CX k g fd ps sp) (hr : Room k X.A) (hb : Binds X.K fd ps ds) (hd : Vals dvs ds) (hx : Passes CX X E) (ha : PA X (e :: es) t)
    (hst : starEach (e :: es) X.env = (false, eval e X.env) :: starEach es X.env := by rfl) (hpl : (backTo pos (starEach es X.env)).any (·.1) = false := by rfl)
    (ht : eval (.Call (.Attribute o m apos) (e :: es) [] pos) X.env = (do
      let ov ← eval o X.env
      standAt apos.atName
      let (f, first) ← holding [ov] (getMethod ov m pl)
      callWith pos f first (backTo pos (starEach (e :: es) X.env)) (backToKw pos (keywordEach [] X.env))) := by rfl) :
    PE X (.Call (.Attribute o m apos) (e :: es) [] pos) (tIsta C m sp dvs E ta t) := by
  refine ⟨fun pins s σ H Q I h => ?_⟩
  refine PySem.W.methodCall_KW (pl := pl) (thn (he.run pins s σ H _ I h) fun u s1 ⟨x, H1, I1, rx, a, dx, fs, ex, ea, l, q⟩ => ?_) ht
  subst ex
  obtain rfl : u = Value.ref a := rx
  obtain ⟨mA, O, rr, _, _, _⟩ := ins_get I1.hok ea
  have hn : mA m = none := RelO.none_of (by rw [← l]; exact rr m)
  obtain ⟨od, J, hl⟩ := O.look
  obtain ⟨rest, hrc⟩ := c.rc
  have gt : PySem.W.plainGet X.K C m = true := c.pg
  refine PySem.W.method_usual (r := some (.ref p)) I1.kIn J (PySem.W.plainGet_of gt).1 (PySem.W.plainGet_of gt).2 c.at_ ?_ ?_
  · show ((PySem.W.typeIn X.K (.ref p)).any fun t => t != .type "function" && t != .type "method_descriptor" && t != .type "wrapper_descriptor") = true
    rw [c.ty]
    first
    | rfl
    | decide +kernel
  · refine PySem.W.get_bind I1.kIn J (PySem.W.plainGet_of gt).1 (find_sm c.ic c.at_ c.get c.tk c.cp (by rw [hl m, hn])) (PySem.W.plainGet_of gt).2 ?_
    refine wpAny_call (PySem.W.sm_get (s := { s1 with toks := s1.toks + 1 }) I1.kIn hrc (PySem.W.handed_on rfl ?_))
    refine PySem.W.callWith_K (first := []) (h₀ := X.base) I.ok.mod.kin c.kp (thn (ha.run pos pins _ σ H1 _ (I1.tok (s1.toks + 1)) q) fun us s2 ⟨vs, H2, I2, r, q2⟩ => ⟨I2.kIn, ?_⟩) hst hpl
    exact run_fn F hr hb hd hx I2 r q2
end
section
variable {K : PySem.W.Frag}
theorem bindsto_items {s : Shared} {fd : FuncData} {args : Args} {binds : List (Str × Value)} {T : Addr} {o : Obj} {its : Array Value} {n : Nat} {k : Option (Array Value) → Sem (List (Str × Value))} (X : K.In s.heap) (lT : K.lookup T = some o) (oT : o.data = .seq its n)
    (e1 : bindArgs fd args = seqItems? (.ref T) >>= k) (e2 : k (some its) = pure binds) : BindsTo s fd args binds := BindsTo.of_looks fun M => by
  rw [e1]
  exact looks_items X lT oT (.of_pure e2)
theorem FunC.binds1 {mf x qual : Str} {st : Stmt} {dvs : List V} {kws : List (Str × V)} {D f : Addr} {fd : FuncData} {ps : List Str} (F : FunC K mf x qual st dvs kws D f fd) (n j : Nat) (hd : dvs ≠ []) (hn : n + (dvs.length - j) = ps.length)
    (h : ∀ (T cc : Addr) (kV doc pm : Value) (an : Option Addr) (cdv ct : Value) (us its : List Value), us.length = n → its.length = dvs.length →
      ∃ k, bindArgs (PySem.W.fnX x qual (defArgs st) (defBody st) (defScope st) [("__class__", cc)] (.ref T) kV doc pm an cdv ct) ⟨us, []⟩ = seqItems? (.ref T) >>= k ∧ k (some its.toArray) = pure (ps.zip (us ++ its.drop j))) : ∃ ds, Vals (dvs.drop j) ds ∧ Binds K fd ps ds := by
  obtain ⟨oc, od, dV, kV, doc, pm, an, c, ct, osl, cc, cl, cld, csl, ccl, cdd, vs, ccs, file, tf, rfl, lk, hcd, hcc, hco, hvs, hfile, hD, hK⟩ := F.ex
  rcases hD with ⟨e, _⟩ | ⟨_, T, o, its, m, rfl, lT, oT, rT⟩
  · exact absurd e hd
  · refine ⟨its.drop j, rT.drop j, fun s us X hlen => ?_⟩
    have l1 : its.length = dvs.length := rT.length.symm
    have l2 : us.length = n := by
      rw [List.length_append, List.length_drop, l1] at hlen
      omega
    obtain ⟨k, e1, e2⟩ := h T cc kV doc pm an (.ref c) ct us its l2 l1
    exact bindsto_items X lT oT e1 e2
theorem FunC.bindsN {mf x qual : Str} {st : Stmt} {kws : List (Str × V)} {D f : Addr} {fd : FuncData} {ps : List Str} (F : FunC K mf x qual st [] kws D f fd)
    (h : ∀ (cc : Addr) (kV doc pm : Value) (an : Option Addr) (cdv ct : Value) (us : List Value), us.length = ps.length → bindArgs (PySem.W.fnX x qual (defArgs st) (defBody st) (defScope st) [("__class__", cc)] .none kV doc pm an cdv ct) ⟨us, []⟩ = pure (ps.zip us)) : Binds K fd ps [] := by
  obtain ⟨oc, od, dV, kV, doc, pm, an, c, ct, osl, cc, cl, cld, csl, ccl, cdd, vs, ccs, file, tf, rfl, lk, hcd, hcc, hco, hvs, hfile, hD, hK⟩ := F.ex
  rcases hD with ⟨_, rfl⟩ | ⟨e, _⟩
  · exact .all (h cc kV doc pm an (.ref c) ct)
  · exact absurd rfl e
theorem FunC.kbinds {mf x qual : Str} {st : Stmt} {dvs : List V} {kws : List (Str × V)} {D f : Addr} {fd : FuncData} {ps : List Str} (F : FunC K mf x qual st dvs kws D f fd) (n : Nat) (ks : List Str) (ms : List (Str × V)) (g : {α : Type} → List α → List α → List α → List α → List α) (hd : dvs ≠ []) (hk : kws ≠ []) (hms : ∀ q ∈ ms, q ∈ kws)
    (hrel : ∀ {vs ds mz zs : List V} {us its mv ws : List Value}, Vals vs us → Vals ds its → Vals mz mv → Vals zs ws → Vals (g vs ds mz zs) (g us its mv ws))
    (h : ∀ (T Dk cc : Addr) (doc pm : Value) (an : Option Addr) (cdv ct : Value) (us its mv ws : List Value), us.length = n → its.length = dvs.length → mv.length = ms.length → ws.length = ks.length →
      ∃ k, bindArgs (PySem.W.fnX x qual (defArgs st) (defBody st) (defScope st) [("__class__", cc)] (.ref T) (.ref Dk) doc pm an cdv ct) ⟨us, ks.zip ws⟩ = seqItems? (.ref T) >>= k ∧ KwChain Dk ((ms.map (·.1)).zip mv) (k (some its.toArray)) (ps.zip (g us its mv ws))) :
    ∃ its mv : List Value, KBn K fd ps n ks (fun us ws => g us its mv ws) (fun vs zs => g vs dvs (ms.map (·.2)) zs) := by
  obtain ⟨oc, od, dV, kV, doc, pm, an, c, ct, osl, cc, cl, cld, csl, ccl, cdd, vs, ccs, file, tf, rfl, lk, hcd, hcc, hco, hvs, hfile, hD, hK⟩ := F.ex
  rcases hD with ⟨e, _⟩ | ⟨_, T, o, its, m, rfl, lT, oT, rT⟩
  · exact absurd e hd
  · rcases hK with e | ⟨Dk, rfl, hq⟩
    · exact absurd e hk
    · obtain ⟨mv, hl, rk, hks⟩ := kwd_vals (ms := ms) fun q hm => hq q (hms q hm)
      refine ⟨its, mv, ⟨fun s us ws X l1 l2 => ?_, fun r1 r2 => hrel r1 rT rk r2⟩⟩
      obtain ⟨k, e1, e2⟩ := h T Dk cc doc pm an (.ref c) ct us its mv ws l1 rT.length.symm hl l2
      refine BindsTo.of_looks fun M => ?_
      rw [e1]
      exact looks_items X lT oT (KwChain.looks X hks e2)
end
end Sx
namespace Ev
open PySem PySem.Spec PyProof.Rows L2 NdefX ClX Sx
def top (i : Nat) : Stmt := PySem.Challenge.pw_fillorder_k03_whole_goals_that_keep_a_fl.main.body.getD i (.Pass ⟨0, 0, 0, 0⟩)
abbrev sRange : Stmt := top 14
abbrev sCheck : Stmt := top 15
abbrev sName : Stmt := inClass (top 20) 6
abbrev sCap : Stmt := inClass (top 20) 7
abbrev sLevel : Stmt := inClass (top 20) 9
abbrev sRoom : Stmt := inClass (top 20) 10
abbrev sReached : Stmt := inClass (top 21) 2
abbrev sFloor : Stmt := inClass (top 22) 2
inductive Kd where | e | g | r | b
  deriving DecidableEq
def Kd.isG : Kd → Bool | .g => true | .b => true | _ => false
def Kd.isR : Kd → Bool | .r => true | .b => true | _ => false
structure Ob where
  nm : Str
  cap : Int
  lev : Int
  done : Bool
  flo : Int
def fl (k : Kd) (o : Ob) : List (Str × V) :=
  ("label", .str o.nm) :: ("most", .int o.cap) :: ("held", .int o.lev) :: (match k with | .e => [] | .g => [("done", .bl o.done)] | .r => [("kept", .int o.flo)] | .b => [("done", .bl o.done), ("kept", .int o.flo)])
theorem fl_label (k : Kd) (o : Ob) : (fl k o).lookup ("label" : Str) = some (.str o.nm) := by kernel_rfl
theorem fl_most (k : Kd) (o : Ob) : (fl k o).lookup ("most" : Str) = some (.int o.cap) := by kernel_rfl
theorem fl_held (k : Kd) (o : Ob) : (fl k o).lookup ("held" : Str) = some (.int o.lev) := by kernel_rfl
theorem fl_done {k : Kd} (o : Ob) (h : k.isG = true) : (fl k o).lookup ("done" : Str) = some (.bl o.done) := by
  cases k <;> first | (cases h; done) | kernel_rfl
theorem fl_kept {k : Kd} (o : Ob) (h : k.isR = true) : (fl k o).lookup ("kept" : Str) = some (.int o.flo) := by
  cases k <;> first | (cases h; done) | kernel_rfl
theorem fl_len (k : Kd) (o : Ob) : (fl k o).length < 1000 := by cases k <;> (show _ < 1000; simp [fl])
theorem put_most (k : Kd) (o : Ob) (z : Int) : putF "most" (.int z) (fl k o) = fl k { o with cap := z } := by kernel_rfl
theorem put_held (k : Kd) (o : Ob) (z : Int) : putF "held" (.int z) (fl k o) = fl k { o with lev := z } := by kernel_rfl
theorem put_done {k : Kd} (o : Ob) (h : k.isG = true) (z : Bool) : putF "done" (.bl z) (fl k o) = fl k { o with done := z } := by
  cases k <;> first | (cases h; done) | kernel_rfl
theorem put_kept {k : Kd} (o : Ob) (h : k.isR = true) (z : Int) : putF "kept" (.int z) (fl k o) = fl k { o with flo := z } := by
  cases k <;> first | (cases h; done) | kernel_rfl
theorem fl_no (k : Kd) (o : Ob) {m : Str} (h : (["label", "most", "held", "done", "kept"] : List Str).contains m = false) : (fl k o).lookup m = none := by
  have e : ∀ x ∈ (["label", "most", "held", "done", "kept"] : List Str), ¬ (m = x) := fun x hx q => by
    subst q
    rw [List.contains_iff_mem.mpr hx] at h
    cases h
  have look : ∀ (l : List (Str × V)), (∀ p ∈ l, p.1 ∈ (["label", "most", "held", "done", "kept"] : List Str)) → l.lookup m = none := by
    intro l
    induction l with
    | nil => intro _; rfl
    | cons p r ih =>
      intro hp
      have hn : (m == p.1) = false := beq_eq_false_iff_ne.mpr (e p.1 (hp p List.mem_cons_self))
      obtain ⟨x, v⟩ := p
      show (match m == x with | true => some v | false => r.lookup m) = none
      rw [show (m == x) = false from hn]
      exact ih fun q hq => hp q (List.mem_cons_of_mem _ hq)
  refine look _ fun p hp => ?_
  cases k <;> simp [fl] at hp <;> (rcases hp with rfl | rfl | rfl | h) <;> simp_all <;> (try rcases h with rfl | rfl) <;> simp_all
abbrev IsAt (C : Kd → Addr) (H : Hp) (a dx : Addr) (k : Kd) (o : Ob) : Prop := H a = some (.ins (C k) dx (fl k o))
def Ob.free (o : Ob) : Kd → Int
  | .e => o.lev
  | .g => if o.done then o.lev else 0
  | .r => if o.lev - o.flo > 0 then o.lev - o.flo else 0
  | .b => if o.done then (if o.lev - o.flo > 0 then o.lev - o.flo else 0) else 0
def inR (lo hi : Int) : V → Bool
  | .int i => decide (lo ≤ i) && decide (i ≤ hi)
  | _ => false
end Ev
namespace Ev
open PySem PySem.Spec PyProof.Rows L2 NdefX ClX Sx
structure Bl (mg : Str → Option Value) : Prop where
  isi : mg "isinstance" = none
  int : mg "int" = none
  bool : mg "bool" = none
  str : mg "str" = none
  len : mg "len" = none
  all : mg "all" = none
  min : mg "min" = none
  max : mg "max" = none
  rng : mg "range" = none
  sup : mg "super" = none
structure Ex (K : PySem.W.Frag) (mg : Str → Option Value) (x : Str) (C : Addr) : Prop where
  g : mg x = some (.ref C)
  x : PySem.W.excIn K C [.type "ValueError", .type "Exception", .type "BaseException", .type "object"] "ValueError.__new__" = true
  k : PySem.W.keepIn K (.ref C) = true
  b : PySem.W.subIn K (.ref C) (.type "BaseException") = some true
  t : PySem.W.typeIn K (.ref C) = some (.type "type")
structure Pr (K : PySem.W.Frag) (C : Kd → Addr) (Pk : Kd → Prop) (f : Str) (p g : Addr) : Prop where
  of : ∀ k, Pk k → PropOf K (C k) f p g
structure Cl (K : PySem.W.Frag) (C : Kd → Addr) : Prop where
  cl : ∀ k, Cls K (C k)
  nLabel : ∀ k, NoAttr K (C k) "label"
  nMost : ∀ k, NoAttr K (C k) "most"
  nHeld : ∀ k, NoAttr K (C k) "held"
  nDone : ∀ k, NoAttr K (C k) "done"
  nKept : ∀ k, NoAttr K (C k) "kept"
section
variable {P : Program} {w : World} {K : PySem.W.Frag} {mg : Str → Option Value} {base : Heap} {C : Kd → Addr}
def Kn (H : Hp) : V → Prop
  | .int _ => True
  | .bl _ => True
  | .non => True
  | .str z => z.length ≤ sizeLine
  | .ref a => (∃ xs, H a = some (.tup xs)) ∨ ∃ xs, H a = some (.lst xs)
  | _ => False
theorem Kn.ty {H : Hp} : ∀ {v : V}, Kn H v → ∃ n : String, TyX K H v (.type n) ∧ n ∈ ["int", "bool", "NoneType", "str", "tuple", "list"]
  | .int i, _ => ⟨"int", .base (.int i), by simp⟩
  | .bl b, _ => ⟨"bool", .base (.bl b), by simp⟩
  | .non, _ => ⟨"NoneType", .base .non, by simp⟩
  | .str z, _ => ⟨"str", .base (.str z), by simp⟩
  | .ref a, .inl ⟨xs, h⟩ => ⟨"tuple", .base (.tup h), by simp⟩
  | .ref a, .inr ⟨xs, h⟩ => ⟨"list", .base (.lst h), by simp⟩
theorem Kn.same {H H' : Hp} (e : Same H H') : ∀ {v : V}, Kn H v → Kn H' v
  | .int _, h => h
  | .bl _, h => h
  | .non, h => h
  | .str _, h => h
  | .ref _, .inl ⟨xs, h⟩ => .inl ⟨xs, e _ _ h⟩
  | .ref _, .inr ⟨xs, h⟩ => .inr ⟨xs, e _ _ h⟩
theorem Kn.int {H : Hp} (i : Int) : Kn H (.int i) := trivial
def spRange : Sp := fun vs H Q _ => ∃ (v : V) (lo hi : Int), vs = [v, .int lo, .int hi] ∧ Kn H v ∧ Q (.bl (inR lo hi v)) H
theorem scRange : FnScope ["value", "low", "high"] ["value", "low", "high"] (defScope sRange) := ⟨rfl, rfl, rfl, by decide +kernel, rfl, by decide +kernel, by decide +kernel⟩
theorem ty_int {H : Hp} {v : V} {n : String} (h : TyX K H v (.type n)) : (∃ i, v = .int i ∧ n = "int") ∨ (n ≠ "int" ∧ ∀ lo hi, inR lo hi v = false) := by
  cases h with
  | base b =>
    cases b with
    | int i => exact .inl ⟨i, rfl, rfl⟩
    | _ => exact .inr ⟨by decide, fun _ _ => rfl⟩
  | _ => exact .inr ⟨by decide, fun _ _ => rfl⟩
theorem ok_range {f : Addr} {fd : FuncData} (F : Fun K "in_range" "in_range" sRange f fd) (B : Bl mg) : FnOk P w K mg base CX0 1 f fd ["value", "low", "high"] spRange := by
  refine F.ok scRange (fun vs H Q E h => ?_) (fun cdv A outer s H vs Q E hr h => ?_)
  · obtain ⟨v, lo, hi, rfl, _⟩ := h
    rfl
  · obtain ⟨v, lo, hi, rfl, kn, q⟩ := h
    obtain ⟨n, ty, hn⟩ := kn.ty (K := K)
    refine ⟨_, pss_one (ps_ret (pe_and (pe_callB call_isi (by rfl) B.isi boot_isinstance (pa_cons (pv 0) (pa_cons (pe_bltn (by rfl) B.int boot_int (show RelV (.ty "int") _ from rfl)) pa_nil)))
      (pe_and (pe_not (pe_callB call_isi (by rfl) B.isi boot_isinstance (pa_cons (pv 0) (pa_cons (pe_bltn (by rfl) B.bool (by decide +kernel) (show RelV (.ty "bool") _ from rfl)) pa_nil))))
        (pe_one (pe_chain op_le op_le (pv 1) (pv 0) (pv 2)))))), ?_⟩
    rcases ty_int ty with ⟨i, rfl, rfl⟩ | ⟨hni, hr⟩
    · refine ⟨_, rfl, _, _, _, _, true, rfl, .ty "int", ty, kit_ty (by decide +kernel), true, rfl, iteT ?_⟩
      refine ⟨_, rfl, _, _, _, _, false, rfl, .ty "bool", ty, kit_ty (by decide +kernel), false, rfl, true, rfl, iteT ?_⟩
      refine ⟨_, rfl, _, rfl, _, _, rfl, rfl, _, rfl, ?_⟩
      by_cases c : lo ≤ i
      · rw [if_pos (decide_eq_true c)]
        refine ⟨_, rfl, _, _, rfl, rfl, ?_⟩
        have e : inR lo hi (.int i) = decide (i ≤ hi) := by simp [inR, c]
        rw [e] at q
        exact q
      · rw [if_neg (by rw [decide_eq_false c]; decide)]
        have e : inR lo hi (.int i) = false := by simp [inR, c]
        rw [e] at q
        exact q
    · rw [hr] at q
      rcases (show n = "int" ∨ n = "bool" ∨ n ∈ ["NoneType", "str", "tuple", "list"] by simpa using hn) with rfl | rfl | hm
      · exact absurd rfl hni
      · refine ⟨_, rfl, _, _, _, _, true, rfl, .ty "int", ty, kit_ty (by decide +kernel), true, rfl, iteT ?_⟩
        refine ⟨_, rfl, _, _, _, _, true, rfl, .ty "bool", ty, kit_ty (by decide +kernel), true, rfl, false, rfl, iteF ?_⟩
        exact q
      · have e : PySem.W.kitOne K (.type n) (.type "int") = some false := by
          simp at hm
          rcases hm with rfl | rfl | rfl | rfl <;> exact kit_ty (by decide +kernel)
        exact ⟨_, rfl, _, _, _, _, false, rfl, .ty "int", ty, e, false, rfl, iteF q⟩
def spCheck (CA : Addr) : Sp := fun vs H Q E => ∃ v : V, vs = [v] ∧ Kn H v ∧ (inR 0 1000000000 v = true → Q .non H) ∧ (inR 0 1000000000 v = false → E (.ref CA) none H)
theorem scCheck : FnScope ["value"] ["value"] (defScope sCheck) := ⟨rfl, rfl, rfl, by decide +kernel, rfl, by decide +kernel, by decide +kernel⟩
theorem ok_check {f fR CA : Addr} {fd fdR : FuncData} {tl : Tok} (F : Fun K "check_amount" "check_amount" sCheck f fd) (GR : FnOk P w K mg base CX0 1 fR fdR ["value", "low", "high"] spRange) (bR : Binds K fdR ["value", "low", "high"] [])
    (mR : mg "in_range" = some (.ref fR)) (kR : PySem.W.keepIn K (.ref fR) = true) (mL : mg "LARGEST_AMOUNT" = some (.int 1000000000 tl)) (X : Ex K mg "InvalidAmount" CA) : FnOk P w K mg base (L2.CX P w) 2 f fd ["value"] (spCheck CA) := by
  refine F.okX scCheck (fun vs H Q E h => ?_) (fun cdv A outer s H vs Q E hr h => ?_)
  · obtain ⟨v, rfl, _⟩ := h
    rfl
  · obtain ⟨v, rfl, kn, q1, q2⟩ := h
    refine ⟨_, pss_one (ps_if (pt_not (pt_val (pe_call GR hr (by rfl) mR kR bR .nil pass0 (pa_cons (pv 0) (pa_cons pe_int (pa_cons (pe_glob (by rfl) mL (show RelV (.int 1000000000) _ from ⟨_, rfl⟩)) pa_nil))))))
      (pss_one (ps_raise (by rfl) (takes_of rfl rfl rfl rfl) (pmk_ownA PySem.F.excBase_ValueError X.x X.g X.k (raises_own X.b X.t) (by rfl) (pa_cons (pe_joined (PJ.cons pe_str (PJ.cons (pe_fmt (pe_glob (by rfl) mL (show RelV (.int 1000000000) _ from ⟨_, rfl⟩))) PJ.nil))) pa_nil)))) pss_nil), ?_⟩
    refine ⟨_, rfl, v, _, _, rfl, kn, _, rfl, ?_⟩
    cases e : inR 0 1000000000 v with
    | true => exact iteF (q1 e)
    | false =>
      refine iteT ?_
      refine ⟨_, rfl, by decide +kernel, .inr ⟨_, rfl, by decide +kernel, _, rfl, by decide +kernel, by decide, ?_⟩⟩
      exact q2 e
def spFld (C : Kd → Addr) (f : Str) : Sp := fun vs H Q _ => ∃ a dx k fs v, vs = [.ref a] ∧ H a = some (.ins (C k) dx fs) ∧ fs.lookup f = some v ∧ Q v H
abbrev spName (C : Kd → Addr) : Sp := spFld C "label"
abbrev spCap (C : Kd → Addr) : Sp := spFld C "most"
abbrev spLevel (C : Kd → Addr) : Sp := spFld C "held"
abbrev spReached (C : Kd → Addr) : Sp := spFld C "done"
abbrev spFloor (C : Kd → Addr) : Sp := spFld C "kept"
def spRoom (C : Kd → Addr) : Sp := fun vs H Q _ => ∃ a dx k fs c l, vs = [.ref a] ∧ H a = some (.ins (C k) dx fs) ∧ fs.lookup ("most" : Str) = some (.int c) ∧ fs.lookup ("held" : Str) = some (.int l) ∧ Q (.int (c - l)) H
theorem scName : FnScope ["self"] ["self"] (defScope sName) := ⟨rfl, rfl, rfl, by decide +kernel, rfl, by decide +kernel, by decide +kernel⟩
theorem scCap : FnScope ["self"] ["self"] (defScope sCap) := ⟨rfl, rfl, rfl, by decide +kernel, rfl, by decide +kernel, by decide +kernel⟩
theorem scLevel : FnScope ["self"] ["self"] (defScope sLevel) := ⟨rfl, rfl, rfl, by decide +kernel, rfl, by decide +kernel, by decide +kernel⟩
theorem scReached : FnScope ["self"] ["self"] (defScope sReached) := ⟨rfl, rfl, rfl, by decide +kernel, rfl, by decide +kernel, by decide +kernel⟩
theorem scFloor : FnScope ["self"] ["self"] (defScope sFloor) := ⟨rfl, rfl, rfl, by decide +kernel, rfl, by decide +kernel, by decide +kernel⟩
theorem scRoom : FnScope ["self"] ["self"] (defScope sRoom) := ⟨rfl, rfl, rfl, by decide +kernel, rfl, by decide +kernel, by decide +kernel⟩
theorem ok_name {f : Addr} {fd : FuncData} (F : Fun K "name" "Envelope.name" sName f fd) (L : Cl K C) : FnOk P w K mg base CX0 1 f fd ["self"] (spName C) := by
  refine F.ok scName (fun vs H Q E h => ?_) (fun cdv A outer s H vs Q E hr h => ?_)
  · obtain ⟨a, dx, k, fs, v, rfl, _⟩ := h
    rfl
  · obtain ⟨a, dx, k, fs, v, rfl, ha, hv, q⟩ := h
    refine ⟨_, pss_one (ps_ret (pe_fld (pv 0) rfl)), ?_⟩
    exact ⟨_, rfl, a, _, dx, _, _, rfl, ha, L.cl k, L.nLabel k, hv, q⟩
theorem ok_cap {f : Addr} {fd : FuncData} (F : Fun K "cap" "Envelope.cap" sCap f fd) (L : Cl K C) : FnOk P w K mg base CX0 1 f fd ["self"] (spCap C) := by
  refine F.ok scCap (fun vs H Q E h => ?_) (fun cdv A outer s H vs Q E hr h => ?_)
  · obtain ⟨a, dx, k, fs, v, rfl, _⟩ := h
    rfl
  · obtain ⟨a, dx, k, fs, v, rfl, ha, hv, q⟩ := h
    refine ⟨_, pss_one (ps_ret (pe_fld (pv 0) rfl)), ?_⟩
    exact ⟨_, rfl, a, _, dx, _, _, rfl, ha, L.cl k, L.nMost k, hv, q⟩
theorem ok_level {f : Addr} {fd : FuncData} (F : Fun K "level" "Envelope.level" sLevel f fd) (L : Cl K C) : FnOk P w K mg base CX0 1 f fd ["self"] (spLevel C) := by
  refine F.ok scLevel (fun vs H Q E h => ?_) (fun cdv A outer s H vs Q E hr h => ?_)
  · obtain ⟨a, dx, k, fs, v, rfl, _⟩ := h
    rfl
  · obtain ⟨a, dx, k, fs, v, rfl, ha, hv, q⟩ := h
    refine ⟨_, pss_one (ps_ret (pe_fld (pv 0) rfl)), ?_⟩
    exact ⟨_, rfl, a, _, dx, _, _, rfl, ha, L.cl k, L.nHeld k, hv, q⟩
theorem ok_reached {f : Addr} {fd : FuncData} (F : Fun K "reached" "Goal.reached" sReached f fd) (L : Cl K C) : FnOk P w K mg base CX0 1 f fd ["self"] (spReached C) := by
  refine F.ok scReached (fun vs H Q E h => ?_) (fun cdv A outer s H vs Q E hr h => ?_)
  · obtain ⟨a, dx, k, fs, v, rfl, _⟩ := h
    rfl
  · obtain ⟨a, dx, k, fs, v, rfl, ha, hv, q⟩ := h
    refine ⟨_, pss_one (ps_ret (pe_fld (pv 0) rfl)), ?_⟩
    exact ⟨_, rfl, a, _, dx, _, _, rfl, ha, L.cl k, L.nDone k, hv, q⟩
theorem ok_floor {f : Addr} {fd : FuncData} (F : Fun K "floor" "Reserve.floor" sFloor f fd) (L : Cl K C) : FnOk P w K mg base CX0 1 f fd ["self"] (spFloor C) := by
  refine F.ok scFloor (fun vs H Q E h => ?_) (fun cdv A outer s H vs Q E hr h => ?_)
  · obtain ⟨a, dx, k, fs, v, rfl, _⟩ := h
    rfl
  · obtain ⟨a, dx, k, fs, v, rfl, ha, hv, q⟩ := h
    refine ⟨_, pss_one (ps_ret (pe_fld (pv 0) rfl)), ?_⟩
    exact ⟨_, rfl, a, _, dx, _, _, rfl, ha, L.cl k, L.nKept k, hv, q⟩
theorem ok_room {f fC fL pC pL : Addr} {fd fdC fdL : FuncData} (F : Fun K "room" "Envelope.room" sRoom f fd) (L : Cl K C) (GC : FnOk P w K mg base CX0 1 fC fdC ["self"] (spCap C)) (bC : Binds K fdC ["self"] []) (PC : ∀ k, PropOf K (C k) "cap" pC fC)
    (GL : FnOk P w K mg base CX0 1 fL fdL ["self"] (spLevel C)) (bL : Binds K fdL ["self"] []) (PL : ∀ k, PropOf K (C k) "level" pL fL) : FnOk P w K mg base CX0 3 f fd ["self"] (spRoom C) := by
  refine F.ok scRoom (fun vs H Q E h => ?_) (fun cdv A outer s H vs Q E hr h => ?_)
  · obtain ⟨a, dx, k, fs, c, l, rfl, _⟩ := h
    rfl
  · obtain ⟨a, dx, k, fs, c, l, rfl, ha, hc, hl, q⟩ := h
    refine ⟨_, pss_one (ps_ret (pe_op op_sub (pe_prop (pv 0) (L.cl k) (PC k) GC hr bC .nil pass0 rfl) (pe_prop (pv 0) (L.cl k) (PL k) GL hr bL .nil pass0 rfl))), ?_⟩
    exact ⟨_, rfl, a, dx, _, rfl, ha, a, dx, k, fs, _, rfl, ha, hc, _, rfl, a, dx, _, rfl, ha, a, dx, k, fs, _, rfl, ha, hl, _, _, rfl, rfl, q⟩
end
end Ev
namespace Ev
open PySem PySem.Spec PyProof.Rows L2 NdefX ClX Sx
abbrev sFreeE : Stmt := inClass (top 20) 13
abbrev sFreeG : Stmt := inClass (top 21) 4
abbrev sFreeR : Stmt := inClass (top 22) 5
abbrev sFreeB : Stmt := inClass (top 23) 2
abbrev sPutE : Stmt := inClass (top 20) 12
abbrev sPutG : Stmt := inClass (top 21) 3
abbrev sTake : Stmt := inClass (top 20) 14
abbrev sCkT : Stmt := inClass (top 20) 15
abbrev sSetF : Stmt := inClass (top 22) 4
def Ob.added (o : Ob) (n : Int) : Int := if o.cap - o.lev < n then o.cap - o.lev else n
def Ob.putE (o : Ob) (n : Int) : Ob := { o with lev := o.lev + o.added n }
def Ob.put (o : Ob) (k : Kd) (n : Int) : Ob := { o with lev := o.lev + o.added n, done := if k.isG && decide (o.cap - (o.lev + o.added n) = 0) then true else o.done }
structure PropK (P : Program) (w : World) (K : PySem.W.Frag) (mg : Str → Option Value) (base : Heap) (C : Kd → Addr) (Pk : Kd → Prop) (f : Str) (n : Nat) (p g : Addr) (fd : FuncData) (sp : Sp) : Prop where
  pr : ∀ k, Pk k → PropOf K (C k) f p g
  ok : FnOk P w K mg base CX0 n g fd ["self"] sp
  bn : Binds K fd ["self"] []
abbrev Any : Kd → Prop := fun _ => True
section
variable {P : Program} {w : World} {K : PySem.W.Frag} {mg : Str → Option Value} {base : Heap} {C : Kd → Addr}
def spFree (C : Kd → Addr) (k : Kd) : Sp := fun vs H Q _ => ∃ a dx o, vs = [.ref a] ∧ IsAt C H a dx k o ∧ Q (.int (o.free k)) H
def spFreeR (C : Kd → Addr) : Sp := fun vs H Q _ => ∃ a dx k o, vs = [.ref a] ∧ IsAt C H a dx k o ∧ k.isR = true ∧ Q (.int (if o.lev - o.flo > 0 then o.lev - o.flo else 0)) H
theorem scFreeE : FnScope ["self"] ["self"] (defScope sFreeE) := ⟨rfl, rfl, rfl, by decide +kernel, rfl, by decide +kernel, by decide +kernel⟩
theorem scFreeG : FnScope ["self"] ["self"] (defScope sFreeG) := ⟨rfl, rfl, rfl, by decide +kernel, rfl, by decide +kernel, by decide +kernel⟩
theorem scFreeR : FnScope ["self"] ["self"] (defScope sFreeR) := ⟨rfl, rfl, rfl, by decide +kernel, rfl, by decide +kernel, by decide +kernel⟩
theorem scFreeB : NScope ["self", "__class__"] ["self"] ["__class__"] (defScope sFreeB) := nscope_by (by decide +kernel)
theorem ok_freeE {f pL gL : Addr} {fd fdL : FuncData} (F : Fun K "free" "Envelope.free" sFreeE f fd) (L : Cl K C) (PL : PropK P w K mg base C Any "level" 1 pL gL fdL (spLevel C)) : FnOk P w K mg base CX0 3 f fd ["self"] (spFree C .e) := by
  refine F.ok scFreeE (fun vs H Q E h => ?_) (fun cdv A outer s H vs Q E hr h => ?_)
  · obtain ⟨a, dx, o, rfl, _⟩ := h
    rfl
  · obtain ⟨a, dx, o, rfl, ha, q⟩ := h
    refine ⟨_, pss_one (ps_ret (pe_prop (pv 0) (L.cl .e) (PL.pr .e trivial) PL.ok hr PL.bn .nil pass0 rfl)), ?_⟩
    exact ⟨_, rfl, a, dx, _, rfl, ha, a, dx, .e, _, _, rfl, ha, fl_held .e o, q⟩
theorem ok_freeG {f pL gL pR gR : Addr} {fd fdL fdR : FuncData} (F : Fun K "free" "Goal.free" sFreeG f fd) (L : Cl K C) (PL : PropK P w K mg base C Any "level" 1 pL gL fdL (spLevel C)) (PR : PropK P w K mg base C (fun k => k.isG = true) "reached" 1 pR gR fdR (spReached C)) :
    FnOk P w K mg base CX0 3 f fd ["self"] (spFree C .g) := by
  refine F.ok scFreeG (fun vs H Q E h => ?_) (fun cdv A outer s H vs Q E hr h => ?_)
  · obtain ⟨a, dx, o, rfl, _⟩ := h
    rfl
  · obtain ⟨a, dx, o, rfl, ha, q⟩ := h
    refine ⟨_, pss_one (ps_ret (pe_ifExp (pt_val (pe_prop (pv 0) (L.cl .g) (PR.pr .g rfl) PR.ok hr PR.bn .nil pass0 rfl)) (pe_prop (pv 0) (L.cl .g) (PL.pr .g trivial) PL.ok hr PL.bn .nil pass0 rfl) pe_int)), ?_⟩
    refine ⟨_, rfl, a, dx, _, rfl, ha, a, dx, .g, _, _, rfl, ha, fl_done o rfl, _, rfl, ?_⟩
    unfold Ob.free at q
    cases e : o.done with
    | true =>
      rw [e] at q
      exact iteT ⟨_, rfl, a, dx, _, rfl, ha, a, dx, .g, _, _, rfl, ha, fl_held .g o, q⟩
    | false =>
      rw [e] at q
      exact iteF q
theorem ok_freeR {f pL gL pF gF : Addr} {fd fdL fdF : FuncData} (F : Fun K "free" "Reserve.free" sFreeR f fd) (B : Bl mg) (L : Cl K C) (PL : PropK P w K mg base C Any "level" 1 pL gL fdL (spLevel C)) (PF : PropK P w K mg base C (fun k => k.isR = true) "floor" 1 pF gF fdF (spFloor C)) :
    FnOk P w K mg base CX0 3 f fd ["self"] (spFreeR C) := by
  refine F.ok scFreeR (fun vs H Q E h => ?_) (fun cdv A outer s H vs Q E hr h => ?_)
  · obtain ⟨a, dx, k, o, rfl, _⟩ := h
    rfl
  · obtain ⟨a, dx, k, o, rfl, ha, hk, q⟩ := h
    refine ⟨_, pss_one (ps_ret (pe_callB (call_max2 rfl) (by rfl) B.max (by decide +kernel) (pa_cons pe_int (pa_cons (pe_op op_sub (pe_prop (pv 0) (L.cl k) (PL.pr k trivial) PL.ok hr PL.bn .nil pass0 rfl) (pe_prop (pv 0) (L.cl k) (PF.pr k hk) PF.ok hr PF.bn .nil pass0 rfl)) pa_nil)))), ?_⟩
    exact ⟨_, rfl, a, dx, _, rfl, ha, a, dx, k, _, _, rfl, ha, fl_held k o, _, rfl, a, dx, _, rfl, ha, a, dx, k, _, _, rfl, ha, fl_kept o hk, _, _, rfl, rfl, _, _, rfl, q⟩
theorem ok_freeB {f pR gR fR CB : Addr} {fd fdR fdF : FuncData} (F : FunC K (P.main.file : Str) "free" "GoalReserve.free" sFreeB [] [] CB f fd) (hCB : CB = C .b) (L : Cl K C) (PR : PropK P w K mg base C (fun k => k.isG = true) "reached" 1 pR gR fdR (spReached C))
    (GF : FnOk P w K mg base CX0 3 fR fdF ["self"] (spFreeR C)) (bF : Binds K fdF ["self"] []) (S : SupP K P mg) (SC : SupC K (C .b) CB fR "free") : FnOk P w K mg base (L2.CX P w) 5 f fd ["self"] (spFree C .b) := by
  refine F.okX scFreeB (by rfl) rfl rfl rfl (fun vs H Q E h => ?_) (fun cc c A outer s H vs Q E hr SX h => ?_)
  · obtain ⟨a, dx, o, rfl, _⟩ := h
    rfl
  · obtain ⟨a, dx, o, rfl, ha, q⟩ := h
    refine ⟨_, pssa_one (psa_ret (pea_if (pt_val (pe_prop (pv 0) (L.cl .b) (PR.pr .b rfl) PR.ok (hr.mono (by decide)) PR.bn .nil pass0 rfl)) (pea_super0 SX S SC GF (hr.mono (by decide)) bF .nil pass0) (pea_of pe_int))), ?_⟩
    refine ⟨_, rfl, a, dx, _, rfl, ha, a, dx, .b, _, _, rfl, ha, fl_done o rfl, _, rfl, ?_⟩
    unfold Ob.free at q
    cases e : o.done with
    | true =>
      rw [e] at q
      exact iteT ⟨a, dx, _, rfl, ha, a, dx, .b, o, rfl, ha, rfl, q⟩
    | false =>
      rw [e] at q
      exact iteF q
def spPutE (C : Kd → Addr) (CA : Addr) : Sp := fun vs H Q E => ∃ a dx k o v, vs = [.ref a, v] ∧ IsAt C H a dx k o ∧ Kn H v ∧
  (∀ n, v = .int n → inR 0 1000000000 v = true → Q (.int (n - o.added n)) (upd H a (.ins (C k) dx (fl k (o.putE n))))) ∧ (inR 0 1000000000 v = false → E (.ref CA) none H)
def spPut (C : Kd → Addr) (CA : Addr) (k : Kd) : Sp := fun vs H Q E => ∃ a dx o v, vs = [.ref a, v] ∧ IsAt C H a dx k o ∧ Kn H v ∧
  (∀ n, v = .int n → inR 0 1000000000 v = true → Q (.int (n - o.added n)) (upd H a (.ins (C k) dx (fl k (o.put k n))))) ∧ (inR 0 1000000000 v = false → E (.ref CA) none H)
theorem iteB {x b : Bool} {A B : Prop} (e : x = b) (h : if b = true then A else B) : if x = true then A else B := by rw [e]; exact h
theorem inR_int {lo hi : Int} {v : V} (h : inR lo hi v = true) : ∃ n, v = .int n ∧ lo ≤ n ∧ n ≤ hi := by
  cases v with
  | int i =>
    simp [inR] at h
    exact ⟨i, rfl, h.1, h.2⟩
  | _ => cases h
theorem scPutE : FnScope ["self", "amount", "added"] ["self", "amount"] (defScope sPutE) := ⟨rfl, rfl, rfl, by decide +kernel, rfl, by decide +kernel, by decide +kernel⟩
theorem ok_putE {f fK pR gR CA : Addr} {fd fdK fdR : FuncData} (F : Fun K "put" "Envelope.put" sPutE f fd) (B : Bl mg) (L : Cl K C) (GK : FnOk P w K mg base (L2.CX P w) 2 fK fdK ["value"] (spCheck CA)) (bK : Binds K fdK ["value"] [])
    (mK : mg "check_amount" = some (.ref fK)) (kK : PySem.W.keepIn K (.ref fK) = true) (PR : PropK P w K mg base C Any "room" 3 pR gR fdR (spRoom C)) : FnOk P w K mg base (L2.CX P w) 5 f fd ["self", "amount"] (spPutE C CA) := by
  refine F.okX scPutE (fun vs H Q E h => ?_) (fun cdv A outer s H vs Q E hr h => ?_)
  · obtain ⟨a, dx, k, o, v, rfl, _⟩ := h
    rfl
  · obtain ⟨a, dx, k, o, v, rfl, ha, kn, q1, q2⟩ := h
    refine ⟨_, pss_cons (ps_expr (pe_call GK (hr.mono (by decide)) (by rfl) mK kK bK .nil (passes_call (takes_of rfl rfl rfl rfl) (fun _ _ _ _ h => h)) (pa_cons (pv 1) pa_nil)))
      (pss_cons (ps_set (i := 2) scPutE.nd rfl (Or.inl rfl) (pe_callB (call_min2 rfl) (by rfl) B.min (by decide +kernel) (pa_cons (pv 1) (pa_cons (pe_prop (pv 0) (L.cl k) (PR.pr k trivial) PR.ok hr PR.bn .nil pass0 rfl) pa_nil))))
      (pss_cons (ps_fldaug (pv 0) (pv 2) in_add) (pss_one (ps_ret (pe_op op_sub (pv 1) (pv 2)))))), ?_⟩
    refine ⟨_, rfl, v, rfl, kn, fun hv => ?_, q2⟩
    obtain ⟨n, rfl, h0, h1⟩ := inR_int hv
    refine ⟨_, rfl, _, rfl, a, dx, _, rfl, ha, a, dx, k, _, _, _, rfl, ha, fl_most k o, fl_held k o, _, _, rfl, ?_⟩
    refine ⟨_, rfl, a, _, dx, _, _, rfl, ha, L.cl k, L.nHeld k, fl_held k o, _, rfl, _, _, rfl, rfl, dx, _, ha, fl_len k o, ?_⟩
    refine ⟨_, rfl, _, rfl, _, _, rfl, rfl, ?_⟩
    have e := q1 n rfl hv
    rw [show fl k (o.putE n) = putF "held" (.int (o.lev + o.added n)) (fl k o) from (put_held k o _).symm] at e
    exact e
theorem scPutG : NScope ["self", "amount", "__class__", "left"] ["self", "amount"] ["__class__"] (defScope sPutG) := nscope_by (by decide +kernel)
theorem ok_putG {f fP pR gR CG CA : Addr} {fd fdP fdR : FuncData} (F : FunC K (P.main.file : Str) "put" "Goal.put" sPutG [] [] CG f fd) (L : Cl K C) (PR : PropK P w K mg base C Any "room" 3 pR gR fdR (spRoom C))
    (GP : FnOk P w K mg base (L2.CX P w) 5 fP fdP ["self", "amount"] (spPutE C CA)) (bP : Binds K fdP ["self", "amount"] []) (S : SupP K P mg) {k : Kd} (hk : k.isG = true) (SC : SupC K (C k) CG fP "put") : FnOk P w K mg base (L2.CX P w) 6 f fd ["self", "amount"] (spPut C CA k) := by
  refine F.okX scPutG (by rfl) rfl rfl rfl (fun vs H Q E h => ?_) (fun cc c A outer s H vs Q E hr SX h => ?_)
  · obtain ⟨a, dx, o, v, rfl, _⟩ := h
    rfl
  · obtain ⟨a, dx, o, v, rfl, ha, kn, q1, q2⟩ := h
    refine ⟨_, pssa_cons (psa_set (i := 3) scPutG.nd rfl (Or.inl rfl) (pea_super SX S SC GP hr bP .nil (passes_call (takes_of rfl rfl rfl rfl) (fun _ _ _ _ h => h)) (pa_cons (pv 1) pa_nil)))
      (pssa_of (pss_cons (ps_if (pt_cmpR op_eq (pe_prop (pv 0) (L.cl k) (PR.pr k trivial) PR.ok (hr.mono (by decide)) PR.bn .nil pass0 rfl) pe_int (nomark _)) (pss_one (ps_fld (pv 0) pe_bl rfl)) pss_nil) (pss_one (ps_ret (pv 3))))), ?_⟩
    refine ⟨a, dx, _, rfl, ha, _, rfl, a, dx, k, o, v, rfl, ha, kn, fun n e hv => ?_, q2⟩
    subst e
    have hq := q1 n rfl hv
    refine ⟨_, rfl, a, dx, _, rfl, upd_same, a, dx, k, _, _, _, rfl, upd_same, fl_most k _, fl_held k _, rfl, _, rfl, ?_⟩
    by_cases c0 : (o.putE n).cap - (o.putE n).lev = 0
    · have e2 : o.put k n = { o.putE n with done := true } := by
        unfold Ob.put Ob.putE
        have c1 : o.cap - (o.lev + o.added n) = 0 := c0
        rw [hk, decide_eq_true c1]
        rfl
      refine iteB (b := true) (decide_eq_true (congrArg V.int c0)) (iteT ?_)
      refine ⟨_, rfl, a, _, dx, _, rfl, upd_same, L.cl k, L.nDone k, fl_len k _, _, rfl, ?_⟩
      rw [upd_upd, put_done _ hk, ← e2]
      exact hq
    · have e2 : o.put k n = o.putE n := by
        unfold Ob.put Ob.putE
        have c1 : ¬ o.cap - (o.lev + o.added n) = 0 := c0
        rw [hk, decide_eq_false c1]
        rfl
      refine iteB (b := false) (decide_eq_false (fun z => c0 (V.int.inj z))) (iteF ?_)
      refine ⟨_, rfl, ?_⟩
      rw [← e2]
      exact hq
theorem sl {n : Nat} (h : n ≤ 10000) : n ≤ sizeLine := by rw [sizeLine_eq]; omega
theorem lg {i : Int} (h1 : -10000000000 ≤ i) (h2 : i ≤ 10000000000) : i.natAbs.log2 < 1920 := by
  by_cases z : i.natAbs = 0
  · rw [z]
    decide
  · exact (Nat.log2_lt z).mpr (Nat.lt_of_lt_of_le (show i.natAbs < 2 ^ 34 by omega) (Nat.pow_le_pow_right (by decide) (by decide)))
theorem lenI {i : Int} (h1 : -10000000000 ≤ i) (h2 : i ≤ 10000000000) : (PySem.Str.ofString (toString i)).length ≤ 1921 := int_text_len_1921 (lg h1 h2)
theorem lenA (a b : Str) : (a ++ b).length = a.length + b.length := by simp [Str.length, Str.cps_append]
theorem len0 (a : Str) : (Str.empty ++ a).length = a.length := by
  rw [lenA]
  show 0 + _ = _
  omega
def Ob.took (o : Ob) (n : Int) : Ob := { o with lev := o.lev - n }
def spTake (C : Kd → Addr) (CA CN : Addr) (k : Kd) : Sp := fun vs H Q E => ∃ a dx o v, vs = [.ref a, v] ∧ IsAt C H a dx k o ∧ Kn H v ∧ -10000000000 ≤ o.free k ∧ o.free k ≤ 10000000000 ∧
  (∀ n, v = .int n → inR 0 1000000000 v = true → n ≤ o.free k → Q .non (upd H a (.ins (C k) dx (fl k (o.took n))))) ∧ (∀ n, v = .int n → inR 0 1000000000 v = true → o.free k < n → E (.ref CN) none H) ∧ (inR 0 1000000000 v = false → E (.ref CA) none H)
def spCkT (C : Kd → Addr) (CA CN : Addr) (k : Kd) : Sp := fun vs H Q E => ∃ a dx o v, vs = [.ref a, v] ∧ IsAt C H a dx k o ∧ Kn H v ∧ -10000000000 ≤ o.free k ∧ o.free k ≤ 10000000000 ∧
  (∀ n, v = .int n → inR 0 1000000000 v = true → n ≤ o.free k → Q .non H) ∧ (∀ n, v = .int n → inR 0 1000000000 v = true → o.free k < n → E (.ref CN) none H) ∧ (inR 0 1000000000 v = false → E (.ref CA) none H)
theorem scCkT : FnScope ["self", "amount", "limit"] ["self", "amount"] (defScope sCkT) := ⟨rfl, rfl, rfl, by decide +kernel, rfl, by decide +kernel, by decide +kernel⟩
theorem ok_ckt {f fK CA CN fF : Addr} {fd fdK fdF : FuncData} {CXF : CXT} (hCXF : ∀ {X : Cx}, X.prog = P → X.w = w → Passes CXF X E0) (F : Fun K "check_take" "Envelope.check_take" sCkT f fd) (L : Cl K C) (GK : FnOk P w K mg base (L2.CX P w) 2 fK fdK ["value"] (spCheck CA)) (bK : Binds K fdK ["value"] [])
    (mK : mg "check_amount" = some (.ref fK)) (kK : PySem.W.keepIn K (.ref fK) = true) (X : Ex K mg "NotEnough" CN) {k : Kd} (GF : FnOk P w K mg base CXF 5 fF fdF ["self"] (spFree C k)) (bF : Binds K fdF ["self"] []) (mF : Meth K (C k) "free" fF) :
    FnOk P w K mg base (L2.CX P w) 6 f fd ["self", "amount"] (spCkT C CA CN k) := by
  refine F.okX scCkT (fun vs H Q E h => ?_) (fun cdv A outer s H vs Q E hr h => ?_)
  · obtain ⟨a, dx, o, v, rfl, _⟩ := h
    rfl
  · obtain ⟨a, dx, o, v, rfl, ha, kn, b1, b2, q1, q2, q3⟩ := h
    refine ⟨_, pss_cons (ps_expr (pe_call GK (hr.mono (by decide)) (by rfl) mK kK bK .nil (passes_call (takes_of rfl rfl rfl rfl) (fun _ _ _ _ h => h)) (pa_cons (pv 1) pa_nil)))
      (pss_cons (ps_set (i := 2) scCkT.nd rfl (Or.inl rfl) (pe_meth0 (pv 0) (L.cl k) mF GF hr bF .nil (hCXF rfl rfl)))
      (pss_one (ps_if (pt_cmpR op_gt (pv 1) (pv 2) (nomark _)) (pss_one (ps_raise (by rfl) (takes_of rfl rfl rfl rfl) (pmk_ownA PySem.F.excBase_ValueError X.x X.g X.k (raises_own X.b X.t) (by rfl) (pa_cons (pe_joined (PJ.cons pe_str (PJ.cons (pe_fmt (pv 2)) (PJ.cons pe_str PJ.nil)))) pa_nil)))) pss_nil))), ?_⟩
    refine ⟨_, rfl, v, rfl, kn, fun hv => ?_, q3⟩
    obtain ⟨n, rfl, h0, h1⟩ := inR_int hv
    refine ⟨_, rfl, a, dx, _, rfl, ha, fl_no k o (by decide +kernel), a, dx, o, rfl, ha, ?_⟩
    refine ⟨_, rfl, _, rfl, _, _, rfl, rfl, _, rfl, ?_⟩
    by_cases c : o.free k < n
    · refine iteB (b := true) (decide_eq_true c) (iteT ?_)
      have hl := lenI b1 b2
      refine ⟨_, rfl, sl (by rw [len0]; decide +kernel), _, rfl, .inr ⟨_, rfl, lg b1 b2, _, rfl, sl ?_, _, rfl, sl ?_, sl (by show 1 ≤ 10000; omega), ?_⟩⟩
      · rw [lenA, len0]
        have : (PySem.Str.ofString "only ").length = 5 := by decide +kernel
        omega
      · rw [lenA, lenA, len0]
        have : (PySem.Str.ofString "only ").length = 5 := by decide +kernel
        have : (PySem.Str.ofString " can be taken").length = 13 := by decide +kernel
        omega
      · exact q2 n rfl hv c
    · refine iteB (b := false) (decide_eq_false c) (iteF ?_)
      exact q1 n rfl hv (by omega)
theorem scTake : FnScope ["self", "amount"] ["self", "amount"] (defScope sTake) := ⟨rfl, rfl, rfl, by decide +kernel, rfl, by decide +kernel, by decide +kernel⟩
theorem ok_take {f fC CA CN : Addr} {fd fdC : FuncData} (F : Fun K "take" "Envelope.take" sTake f fd) (L : Cl K C) {k : Kd} (GC : FnOk P w K mg base (L2.CX P w) 6 fC fdC ["self", "amount"] (spCkT C CA CN k)) (bC : Binds K fdC ["self", "amount"] []) (mC : Meth K (C k) "check_take" fC) :
    FnOk P w K mg base (L2.CX P w) 7 f fd ["self", "amount"] (spTake C CA CN k) := by
  refine F.okX scTake (fun vs H Q E h => ?_) (fun cdv A outer s H vs Q E hr h => ?_)
  · obtain ⟨a, dx, o, v, rfl, _⟩ := h
    rfl
  · obtain ⟨a, dx, o, v, rfl, ha, kn, b1, b2, q1, q2, q3⟩ := h
    refine ⟨_, pss_cons (ps_expr (pe_meth (pv 0) (L.cl k) mC GC hr bC .nil (passes_call (takes_of rfl rfl rfl rfl) (fun _ _ _ _ h => h)) (pa_cons (pv 1) pa_nil)))
      (pss_one (ps_fldaug (pv 0) (pv 1) in_sub)), ?_⟩
    refine ⟨_, rfl, a, dx, _, rfl, ha, fl_no k o (by decide +kernel), _, rfl, a, dx, o, v, rfl, ha, kn, b1, b2, fun n hn hv hle => ?_, q2, q3⟩
    subst hn
    refine ⟨_, rfl, a, _, dx, _, _, rfl, ha, L.cl k, L.nHeld k, fl_held k o, _, rfl, _, _, rfl, rfl, dx, _, ha, fl_len k o, ?_⟩
    have e := q1 n rfl hv hle
    rw [show fl k (o.took n) = putF "held" (.int (o.lev - n)) (fl k o) from (put_held k o _).symm] at e
    exact e
end
end Ev
namespace Ev
open PySem PySem.Spec PyProof.Rows L2 NdefX ClX Sx
abbrev sIsN : Stmt := inClass (top 20) 3
abbrev sIniE : Stmt := inClass (top 20) 1
abbrev sIniG : Stmt := inClass (top 21) 0
abbrev sIniR : Stmt := inClass (top 22) 0
abbrev sIniB : Stmt := inClass (top 23) 0
def letters : Str := "abcdefghijklmnopqrstuvwxyz"
def isNm : V → Bool
  | .str z => decide (1 ≤ (z.length : Int)) && decide ((z.length : Int) ≤ 8) && z.cps.toList.all (fun c => decide (c ∈ letters.cps.toList))
  | _ => false
section
variable {P : Program} {w : World} {K : PySem.W.Frag} {mg : Str → Option Value} {base : Heap} {C : Kd → Addr}
theorem ty_str {H : Hp} {v : V} {n : String} (h : TyX K H v (.type n)) : (∃ z, v = .str z ∧ n = "str") ∨ (n ≠ "str" ∧ isNm v = false) := by
  cases h with
  | base b =>
    cases b with
    | str z => exact .inl ⟨z, rfl, rfl⟩
    | _ => exact .inr ⟨by decide, rfl⟩
  | _ => exact .inr ⟨by decide, rfl⟩
def spIsN : Sp := fun vs H Q _ => ∃ v : V, vs = [v] ∧ Kn H v ∧ ∀ H', Same H H' → Q (.bl (isNm v)) H'
theorem scIsN : FnScope ["value", "letter"] ["value"] (defScope sIsN) := ⟨rfl, rfl, rfl, by decide +kernel, rfl, by decide +kernel, by decide +kernel⟩
theorem ok_isn {f : Addr} {fd : FuncData} {tN tL : Tok} (F : Fun K "is_name" "Envelope.is_name" sIsN f fd) (B : Bl mg) (mN : mg "LONGEST_NAME" = some (.int 8 tN)) (mL : mg "LETTERS" = some (.str letters tL)) : FnOk P w K mg base CX0 1 f fd ["value"] spIsN := by
  refine F.ok scIsN (fun vs H Q E h => ?_) (fun cdv A outer s H vs Q E hr h => ?_)
  · obtain ⟨v, rfl, _⟩ := h
    rfl
  · obtain ⟨v, rfl, kn, q⟩ := h
    obtain ⟨n, ty, hn⟩ := kn.ty (K := K)
    refine ⟨_, pss_cons (ps_if (PW.pt (pw_or (pt_not (pt_val (pe_callB call_isi (by rfl) B.isi boot_isinstance (pa_cons (pv 0) (pa_cons (pe_bltn (by rfl) B.str (by decide +kernel) (show RelV (.ty "str") _ from rfl)) pa_nil)))))
        (pw_or1 (pt_not (pt_chain op_le op_le pe_int (pe_callB call_len_str (by rfl) B.len boot_len (pa_cons (pv 0) pa_nil)) (pe_glob (by rfl) mN (show RelV (.int 8) _ from ⟨_, rfl⟩))))))) (pss_one (ps_ret pe_bl)) pss_nil)
      (pss_one (ps_ret (pe_callB (cr_all rfl) (by rfl) B.all (by decide +kernel) (pa_cons (pe_lc (own := [("letter", 1)]) (g := gName 1) (tt := tYes) rfl scIsN.nd (pi_str (pv 0)) (blkOk_by (N := ["value", "letter"]) (sc := defScope sIsN) (by decide +kernel))
        (fun _ _ _ _ _ => pg_name (i := 1) scIsN.nd rfl (Or.inl rfl)) (fun _ _ _ _ _ => pts_nil) (fun _ _ _ _ _ => pe_cmpR op_in_sign (pv 1) (pe_glob (by rfl) mL (show RelV (.str letters) _ from ⟨_, rfl⟩)) (by rfl))) pa_nil)))), ?_⟩
    rcases ty_str ty with ⟨z, rfl, rfl⟩ | ⟨hns, hr⟩
    · refine ⟨_, rfl, _, _, _, _, true, rfl, .ty "str", ty, kit_ty (by decide +kernel), true, rfl, iteF ?_⟩
      have hz : z.length ≤ sizeLine := kn
      refine ⟨_, rfl, z, rfl, hz, _, _, rfl, rfl, _, rfl, ?_⟩
      by_cases c1 : (1 : Int) ≤ z.length
      · refine iteB (b := true) (decide_eq_true c1) (iteT ?_)
        refine ⟨_, _, rfl, rfl, _, rfl, ?_⟩
        by_cases c2 : (z.length : Int) ≤ 8
        · refine iteB (b := false) (by rw [decide_eq_true c2]; rfl) (iteF ?_)
          refine ⟨_, rfl, z, rfl, fun D hD => ?_⟩
          refine lc_it walk_str (fun i H' => H' D = some (.lst ((z.cps.toList.take i).map fun c => V.bl (decide (c ∈ letters.cps.toList)))) ∧ Same H H') ?_ (fun _ _ _ _ => trivial) ?_ ?_
          · exact ⟨upd_same, fun b o e => by rw [upd_ne (ne_of_none e hD)]; exact e⟩
          · rintro i x H1 H2 hi ⟨h1, h2⟩ ⟨rfl, c, hc, rfl⟩
            refine ⟨rfl, _, rfl, c, letters, rfl, rfl, _, h1, ?_, ?_, fun b o e => ?_⟩
            · rw [List.length_map, List.length_take]
              have : z.cps.toList.length = z.length := by simp [Str.length]
              have := sizeLine_eq
              omega
            · rw [upd_same]
              have hc' : z.cps.toList[i]? = some c := by simpa using hc
              have e : z.cps.toList.take (i + 1) = z.cps.toList.take i ++ [c] := by
                rw [List.take_add_one, hc']
                rfl
              rw [e, List.map_append]
              rfl
            · rw [upd_ne]
              · exact h2 b o e
              · rintro rfl
                rw [hD] at e
                cases e
          · rintro H1 ⟨h1, h2⟩
            refine ⟨D, z.cps.toList.map (fun c => decide (c ∈ letters.cps.toList)), rfl, SqL.of (by rw [h1, List.map_map, List.take_of_length_le (by simp)]; rfl), ?_⟩
            have e : isNm (.str z) = (z.cps.toList.map fun c => decide (c ∈ letters.cps.toList)).all id := by
              simp only [isNm, decide_eq_true c1, decide_eq_true c2, Bool.true_and, List.all_map]
              rfl
            have := q H1 h2
            rw [e] at this
            exact this
        · refine iteB (b := true) (by rw [decide_eq_false c2]; rfl) (iteT ?_)
          have e : isNm (.str z) = false := by
            simp only [isNm, decide_eq_false c2, Bool.and_false, Bool.false_and]
          rw [e] at q
          exact q H (Same.refl H)
      · refine iteB (b := false) (decide_eq_false c1) (iteF ?_)
        have e : isNm (.str z) = false := by
          simp only [isNm, decide_eq_false c1, Bool.false_and]
        rw [e] at q
        exact ⟨_, rfl, iteT (q H (Same.refl H))⟩
    · rw [hr] at q
      have e : PySem.W.kitOne K (.type n) (.type "str") = some false := by
        simp at hn
        rcases hn with rfl | rfl | rfl | rfl | rfl | rfl <;> first | exact absurd rfl hns | exact kit_ty (by decide +kernel)
      refine ⟨_, rfl, _, _, _, _, false, rfl, .ty "str", ty, e, false, rfl, iteT (iteT ?_)⟩
      exact q H (Same.refl H)
end
end Ev
namespace Ev
open PySem PySem.Spec PyProof.Rows L2 NdefX ClX Sx
def Others (H H' : Hp) (x : Addr) : Prop := ∀ b o, H b = some o → b ≠ x → H' b = some o
theorem Others.of {H H' : Hp} {x : Addr} (h : Same H H') : Others H H' x := fun b o e _ => h b o e
theorem Others.trans {H H1 H2 : Hp} {x : Addr} (a : Others H H1 x) (b : Others H1 H2 x) : Others H H2 x := fun c o e n => b c o (a c o e n) n
theorem Others.upd {H : Hp} {x : Addr} {u : HO} : Others H (upd H x u) x := fun b o e n => by rw [upd_ne n]; exact e
def fl3 (z : Str) (c l : Int) : List (Str × V) := [("label", .str z), ("most", .int c), ("held", .int l)]
def ob (z : Str) (c l f : Int) : Ob := ⟨z, c, l, decide (l = c), f⟩
def Good (vn vc vl : V) (z : Str) (c l : Int) : Prop := vn = .str z ∧ vc = .int c ∧ vl = .int l ∧ isNm vn = true ∧ 1 ≤ c ∧ c ≤ 1000000 ∧ 0 ≤ l ∧ l ≤ c
def Bad3 (CN CC CL : Addr) (vn vc vl : V) (H : Hp) (x : Addr) (E : XK) : Prop :=
  (isNm vn = false → ∀ H', Others H H' x → E (.ref CN) none H') ∧ (isNm vn = true → inR 1 1000000 vc = false → ∀ H', Others H H' x → E (.ref CC) none H') ∧
  (∀ c, isNm vn = true → vc = .int c → inR 1 1000000 vc = true → inR 0 c vl = false → ∀ H', Others H H' x → E (.ref CL) none H')
def spIni (C : Kd → Addr) (CN CC CL : Addr) (Pk : Kd → Prop) (mk : Str → Int → Int → List (Str × V)) : Sp := fun vs H Q E => ∃ x dx k vn vc vl, vs = [.ref x, vn, vc, vl] ∧ H x = some (.ins (C k) dx []) ∧ Pk k ∧ Kn H vn ∧ Kn H vc ∧ Kn H vl ∧
  (∀ z c l H', Good vn vc vl z c l → H' x = some (.ins (C k) dx (mk z c l)) → Others H H' x → Q .non H') ∧ Bad3 CN CC CL vn vc vl H x E
def spIniR (C : Kd → Addr) (CN CC CL CF : Addr) (k : Kd) : Sp := fun vs H Q E => ∃ x dx vn vc vl vf, vs = [.ref x, vn, vc, vl, vf] ∧ H x = some (.ins (C k) dx []) ∧ Kn H vn ∧ Kn H vc ∧ Kn H vl ∧ Kn H vf ∧
  (∀ z c l f H', Good vn vc vl z c l → vf = .int f → 0 ≤ f → f ≤ c → H' x = some (.ins (C k) dx (fl k (ob z c l f))) → Others H H' x → Q .non H') ∧
  (∀ z c l H', Good vn vc vl z c l → inR 0 c vf = false → Others H H' x → E (.ref CF) none H') ∧ Bad3 CN CC CL vn vc vl H x E
theorem Kn.others {H H' : Hp} {x C dx : Addr} {fs : List (Str × V)} (hx : H x = some (.ins C dx fs)) (e : Others H H' x) : ∀ {v : V}, Kn H v → Kn H' v
  | .int _, h => h
  | .bl _, h => h
  | .non, h => h
  | .str _, h => h
  | .ref a, .inl ⟨xs, h⟩ => .inl ⟨xs, e _ _ h (ne_of h hx (by intro z; cases z))⟩
  | .ref a, .inr ⟨xs, h⟩ => .inr ⟨xs, e _ _ h (ne_of h hx (by intro z; cases z))⟩
theorem decV (a b : Int) : decide (V.int a = V.int b) = decide (a = b) := by
  by_cases h : a = b
  · rw [h]; simp
  · rw [decide_eq_false h, decide_eq_false (fun z => h (V.int.inj z))]
section
variable {P : Program} {w : World} {K : PySem.W.Frag} {mg : Str → Option Value} {base : Heap} {C : Kd → Addr}
def spSetF (C : Kd → Addr) (CF : Addr) : Sp := fun vs H Q E => ∃ a dx k fs v c, vs = [.ref a, v] ∧ H a = some (.ins (C k) dx fs) ∧ fs.length < 1000 ∧ fs.lookup ("most" : Str) = some (.int c) ∧ -10000000000 ≤ c ∧ c ≤ 10000000000 ∧ Kn H v ∧
  (∀ n, v = .int n → 0 ≤ n → n ≤ c → Q .non (upd H a (.ins (C k) dx (putF "kept" (.int n) fs)))) ∧ (inR 0 c v = false → E (.ref CF) none H)
theorem scSetF : FnScope ["self", "value"] ["self", "value"] (defScope sSetF) := ⟨rfl, rfl, rfl, by decide +kernel, rfl, by decide +kernel, by decide +kernel⟩
theorem ok_setF {f fR pC gC CF : Addr} {fd fdR fdC : FuncData} (F : Fun K "set_floor" "Reserve.set_floor" sSetF f fd) (L : Cl K C) (GR : FnOk P w K mg base CX0 1 fR fdR ["value", "low", "high"] spRange) (bR : Binds K fdR ["value", "low", "high"] [])
    (mR : mg "in_range" = some (.ref fR)) (kR : PySem.W.keepIn K (.ref fR) = true) (PC : PropK P w K mg base C Any "cap" 1 pC gC fdC (spCap C)) (X : Ex K mg "InvalidFloor" CF) : FnOk P w K mg base (L2.CX P w) 3 f fd ["self", "value"] (spSetF C CF) := by
  refine F.okX scSetF (fun vs H Q E h => ?_) (fun cdv A outer s H vs Q E hr h => ?_)
  · obtain ⟨a, dx, k, fs, v, c, rfl, _⟩ := h
    rfl
  · obtain ⟨a, dx, k, fs, v, c, rfl, ha, hl, hm, b1, b2, kn, q1, q2⟩ := h
    refine ⟨_, pss_cons (ps_if (pt_not (pt_val (pe_call GR (hr.mono (by decide)) (by rfl) mR kR bR .nil pass0 (pa_cons (pv 1) (pa_cons pe_int (pa_cons (pe_prop (pv 0) (L.cl k) (PC.pr k trivial) PC.ok hr PC.bn .nil pass0 rfl) pa_nil))))))
      (pss_one (ps_raise (by rfl) (takes_of rfl rfl rfl rfl) (pmk_ownA PySem.F.excBase_ValueError X.x X.g X.k (raises_own X.b X.t) (by rfl) (pa_cons (pe_joined (PJ.cons pe_str (PJ.cons (pe_fmt (pe_prop (pv 0) (L.cl k) (PC.pr k trivial) PC.ok hr PC.bn .nil pass0 rfl)) PJ.nil))) pa_nil)))) pss_nil)
      (pss_one (ps_fld (pv 0) (pv 1) rfl)), ?_⟩
    refine ⟨_, rfl, _, rfl, a, dx, _, rfl, ha, a, dx, k, fs, _, rfl, ha, hm, v, _, _, rfl, kn, _, rfl, ?_⟩
    cases e : inR 0 c v with
    | true =>
      refine iteF ?_
      obtain ⟨n, rfl, h0, h1⟩ := inR_int e
      exact ⟨_, rfl, _, rfl, a, _, dx, fs, rfl, ha, L.cl k, L.nKept k, hl, q1 n rfl h0 h1⟩
    | false =>
      refine iteT ?_
      have hl := lenI b1 b2
      refine ⟨_, rfl, sl (by rw [len0]; decide +kernel), _, rfl, a, dx, _, rfl, ha, a, dx, k, fs, _, rfl, ha, hm, .inr ⟨_, rfl, lg b1 b2, _, rfl, sl ?_, sl (by show 1 ≤ 10000; omega), ?_⟩⟩
      · rw [lenA, len0]
        have : (PySem.Str.ofString "the floor is an integer from 0 to ").length = 34 := by decide +kernel
        omega
      · exact q2 e
structure EnvC (K : PySem.W.Frag) (mg : Str → Option Value) (CE pN fN : Addr) (mc : Value) (tg : Tok) : Prop where
  g : mg "Envelope" = some (.ref CE)
  sta : CSta K CE mc "is_name" pN fN
  val : CVal K CE mc "LARGEST" (.int 1000000) (.int 1000000 tg)
theorem scIniE : FnScope ["self", "name", "cap", "level"] ["self", "name", "cap", "level"] (defScope sIniE) := ⟨rfl, rfl, rfl, by decide +kernel, rfl, by decide +kernel, by decide +kernel⟩
theorem ok_iniE {f fR CE pN fN CN CC CL : Addr} {fd fdR fdN : FuncData} {mc : Value} {tg tN : Tok} {dvs : List V} {kws : List (Str × V)} (F : FunD K "__init__" "Envelope.__init__" (defArgs sIniE) (defBody sIniE) (defScope sIniE) dvs kws f fd) (L : Cl K C)
    (GR : FnOk P w K mg base CX0 1 fR fdR ["value", "low", "high"] spRange) (bR : Binds K fdR ["value", "low", "high"] []) (mR : mg "in_range" = some (.ref fR)) (kR : PySem.W.keepIn K (.ref fR) = true)
    (EC : EnvC K mg CE pN fN mc tg) (GN : FnOk P w K mg base CX0 1 fN fdN ["value"] spIsN) (bN : Binds K fdN ["value"] []) (mN : mg "LONGEST_NAME" = some (.int 8 tN))
    (XN : Ex K mg "InvalidName" CN) (XC : Ex K mg "InvalidCap" CC) (XL : Ex K mg "InvalidLevel" CL) : FnOk P w K mg base (L2.CX P w) 2 f fd ["self", "name", "cap", "level"] (spIni C CN CC CL Any fl3) := by
  refine F.ok scIniE (fun vs H Q E h => ?_) (fun cdv A outer s H vs Q E hr h => ?_)
  · obtain ⟨x, dx, k, vn, vc, vl, rfl, _⟩ := h
    rfl
  · obtain ⟨x, dx, k, vn, vc, vl, rfl, hx, _, kn, kc, kl, q, q1, q2, q3⟩ := h
    refine ⟨_, pss_cons (ps_if (pt_not (pt_val (pe_sta (pe_glob (by rfl) EC.g (show RelV (.ref CE) _ from rfl)) EC.sta GN hr bN .nil pass0 (pa_cons (pv 1) pa_nil))))
        (pss_one (ps_raise (by rfl) (takes_of rfl rfl rfl rfl) (pmk_ownA PySem.F.excBase_ValueError XN.x XN.g XN.k (raises_own XN.b XN.t) (by rfl) (pa_cons (pe_joined (PJ.cons pe_str (PJ.cons (pe_fmt (pe_glob (by rfl) mN (show RelV (.int 8) _ from ⟨_, rfl⟩))) (PJ.cons pe_str PJ.nil)))) pa_nil)))) pss_nil)
      (pss_cons (ps_if (pt_not (pt_val (pe_call GR hr (by rfl) mR kR bR .nil pass0 (pa_cons (pv 2) (pa_cons pe_int (pa_cons (pe_cval (pe_glob (by rfl) EC.g (show RelV (.ref CE) _ from rfl))) pa_nil))))))
        (pss_one (ps_raise (by rfl) (takes_of rfl rfl rfl rfl) (pmk_ownA PySem.F.excBase_ValueError XC.x XC.g XC.k (raises_own XC.b XC.t) (by rfl) (pa_cons (pe_joined (PJ.cons pe_str (PJ.cons (pe_fmt (pe_cval (pe_glob (by rfl) EC.g (show RelV (.ref CE) _ from rfl)))) PJ.nil))) pa_nil)))) pss_nil)
      (pss_cons (ps_if (pt_not (pt_val (pe_call GR hr (by rfl) mR kR bR .nil pass0 (pa_cons (pv 3) (pa_cons pe_int (pa_cons (pv 2) pa_nil))))))
        (pss_one (ps_raise (by rfl) (takes_of rfl rfl rfl rfl) (pmk_ownA PySem.F.excBase_ValueError XL.x XL.g XL.k (raises_own XL.b XL.t) (by rfl) (pa_cons (pe_joined (PJ.cons pe_str (PJ.cons (pe_fmt (pv 2)) PJ.nil))) pa_nil)))) pss_nil)
      (pss_cons (ps_fld (pv 0) (pv 1) rfl) (pss_cons (ps_fld (pv 0) (pv 2) rfl) (pss_one (ps_fld (pv 0) (pv 3) rfl)))))), ?_⟩
    refine ⟨rfl, _, rfl, vn, rfl, kn, fun H1 s1 => ⟨_, rfl, ?_⟩⟩
    cases en : isNm vn with
    | false =>
      refine iteT ?_
      refine ⟨_, rfl, by decide +kernel, .inr ⟨_, rfl, by decide +kernel, _, rfl, by decide +kernel, _, rfl, by decide +kernel, by decide +kernel, ?_⟩⟩
      exact q1 en H1 (.of s1)
    | true =>
      refine iteF ?_
      refine ⟨_, rfl, CE, mc, _, _, rfl, EC.sta.rd, EC.val, vc, _, _, rfl, kc.same s1, _, rfl, ?_⟩
      cases ec : inR 1 1000000 vc with
      | false =>
        refine iteT ?_
        refine ⟨_, rfl, by decide +kernel, CE, mc, _, _, rfl, EC.sta.rd, EC.val, .inr ⟨_, rfl, by decide +kernel, _, rfl, by decide +kernel, by decide +kernel, ?_⟩⟩
        exact q2 en ec H1 (.of s1)
      | true =>
        refine iteF ?_
        obtain ⟨c, rfl, hc0, hc1⟩ := inR_int ec
        refine ⟨_, rfl, _, rfl, vl, _, _, rfl, kl.same s1, _, rfl, ?_⟩
        cases el : inR 0 c vl with
        | false =>
          refine iteT ?_
          have hl := lenI (i := c) (by omega) (by omega)
          refine ⟨_, rfl, by decide +kernel, _, rfl, .inr ⟨_, rfl, lg (by omega) (by omega), _, rfl, sl ?_, sl (by show 1 ≤ 10000; omega), ?_⟩⟩
          · rw [lenA, len0]
            have : (PySem.Str.ofString "the level is an integer from 0 to ").length = 34 := by decide +kernel
            omega
          · exact q3 c en rfl ec el H1 (.of s1)
        | true =>
          refine iteF ?_
          obtain ⟨l, rfl, hl0, hl1⟩ := inR_int el
          obtain ⟨z, rfl⟩ : ∃ z, vn = .str z := by
            cases vn <;> first | exact ⟨_, rfl⟩ | cases en
          have hx1 := s1 _ _ hx
          refine ⟨_, rfl, _, rfl, x, _, dx, _, rfl, hx1, L.cl k, L.nLabel k, by decide, ?_⟩
          refine ⟨_, rfl, _, rfl, x, _, dx, _, rfl, upd_same, L.cl k, L.nMost k, by show 1 < 1000; decide, ?_⟩
          refine ⟨_, rfl, _, rfl, x, _, dx, _, rfl, upd_same, L.cl k, L.nHeld k, by show 2 < 1000; decide, ?_⟩
          refine q z c l _ ⟨rfl, rfl, rfl, en, hc0, hc1, hl0, hl1⟩ ?_ ?_
          · rw [upd_same]
            have e : putF "held" (V.int l) (putF "most" (V.int c) (putF "label" (V.str z) [])) = fl3 z c l := by kernel_rfl
            rw [e]
          · intro b o e n
            rw [upd_ne n, upd_ne n, upd_ne n]
            exact s1 b o e
end
end Ev
namespace Ev
open PySem PySem.Spec PyProof.Rows L2 NdefX ClX Sx
def flG (z : Str) (c l : Int) : List (Str × V) := fl .g (ob z c l 0)
section
variable {P : Program} {w : World} {K : PySem.W.Frag} {mg : Str → Option Value} {base : Heap} {C : Kd → Addr}
theorem Bad3.mono {CN CC CL : Addr} {vn vc vl : V} {H : Hp} {x : Addr} {E E' : XK} (h : Bad3 CN CC CL vn vc vl H x E) (k : ∀ c d H', E c d H' → E' c d H') : Bad3 CN CC CL vn vc vl H x E' :=
  ⟨fun a H' o => k _ _ _ (h.1 a H' o), fun a b H' o => k _ _ _ (h.2.1 a b H' o), fun c a b d e H' o => k _ _ _ (h.2.2 c a b d e H' o)⟩
theorem scIniG : NScope ["self", "name", "cap", "level", "__class__"] ["self", "name", "cap", "level"] ["__class__"] (defScope sIniG) := nscope_by (by decide +kernel)
theorem ok_iniG {f fE CG CN CC CL : Addr} {fd fdE : FuncData} {dvs : List V} {kws : List (Str × V)} (F : FunC K (P.main.file : Str) "__init__" "Goal.__init__" sIniG dvs kws CG f fd) (L : Cl K C)
    (GE : FnOk P w K mg base (L2.CX P w) 2 fE fdE ["self", "name", "cap", "level"] (spIni C CN CC CL Any fl3)) (bE : Binds K fdE ["self", "name", "cap", "level"] []) (S : SupP K P mg) (SC : ∀ k, k.isG = true → SupC K (C k) CG fE "__init__") :
    FnOk P w K mg base (L2.CX P w) 3 f fd ["self", "name", "cap", "level"] (spIni C CN CC CL (fun k => k.isG = true) flG) := by
  refine F.okX scIniG (by rfl) rfl rfl rfl (fun vs H Q E h => ?_) (fun cc c A outer s H vs Q E hr SX h => ?_)
  · obtain ⟨x, dx, k, vn, vc, vl, rfl, _⟩ := h
    rfl
  · obtain ⟨x, dx, k, vn, vc, vl, rfl, hx, hk, kn, kc, kl, q, bad⟩ := h
    refine ⟨_, pssa_cons (psa_expr (pea_super SX S (SC k hk) GE hr bE .nil (passes_call (takes_of rfl rfl rfl rfl) (fun _ _ _ _ h => h)) (pa_cons (pv 1) (pa_cons (pv 2) (pa_cons (pv 3) pa_nil)))))
      (pssa_of (pss_one (ps_fld (pv 0) (pe_cmpR op_eq (pv 3) (pv 2) (nomark _)) rfl))), ?_⟩
    refine ⟨x, dx, _, rfl, hx, _, rfl, _, rfl, _, rfl, x, dx, k, vn, vc, vl, rfl, hx, trivial, kn, kc, kl, fun z c l H1 g h1 o1 => ?_, bad⟩
    obtain ⟨rfl, rfl, rfl, g4, g5, g6, g7, g8⟩ := id g
    refine ⟨_, rfl, _, rfl, rfl, _, rfl, x, _, dx, _, rfl, h1, L.cl k, L.nDone k, by show 3 < 1000; decide, ?_⟩
    refine q z c l _ g ?_ ?_
    · rw [upd_same, decV]
      have e : putF "done" (V.bl (decide (l = c))) (fl3 z c l) = flG z c l := by kernel_rfl
      rw [e]
    · exact o1.trans .upd
theorem scIniR : NScope ["self", "name", "cap", "level", "floor", "__class__"] ["self", "name", "cap", "level", "floor"] ["__class__"] (defScope sIniR) := nscope_by (by decide +kernel)
theorem ok_iniR {f fS fF CR CN CC CL CF : Addr} {fd fdS fdF : FuncData} {dvs : List V} {kws : List (Str × V)} {mk : Str → Int → Int → List (Str × V)} {Pk : Kd → Prop} {n : Nat} (hn : n ≤ 3) (F : FunC K (P.main.file : Str) "__init__" "Reserve.__init__" sIniR dvs kws CR f fd) (L : Cl K C)
    {k : Kd} (hk : Pk k) (GS : FnOk P w K mg base (L2.CX P w) n fS fdS ["self", "name", "cap", "level"] (spIni C CN CC CL Pk mk)) (bS : Binds K fdS ["self", "name", "cap", "level"] []) (S : SupP K P mg) (SC : SupC K (C k) CR fS "__init__")
    (hm : ∀ z c l, (mk z c l).lookup ("most" : Str) = some (.int c)) (hl : ∀ z c l, (mk z c l).length < 1000) (hno : ∀ z c l, (mk z c l).lookup ("set_floor" : Str) = none) (hp : ∀ z c l f, putF "kept" (.int f) (mk z c l) = fl k (ob z c l f))
    (GF : FnOk P w K mg base (L2.CX P w) 3 fF fdF ["self", "value"] (spSetF C CF)) (bF : Binds K fdF ["self", "value"] []) (mF : Meth K (C k) "set_floor" fF) :
    FnOk P w K mg base (L2.CX P w) 4 f fd ["self", "name", "cap", "level", "floor"] (spIniR C CN CC CL CF k) := by
  refine F.okX scIniR (by rfl) rfl rfl rfl (fun vs H Q E h => ?_) (fun cc c A outer s H vs Q E hr SX h => ?_)
  · obtain ⟨x, dx, vn, vc, vl, vf, rfl, _⟩ := h
    rfl
  · obtain ⟨x, dx, vn, vc, vl, vf, rfl, hx, kn, kc, kl, kf, q, q2, bad⟩ := h
    refine ⟨_, pssa_cons (psa_expr (pea_super SX S SC GS (hr.mono hn) bS .nil (passes_call (takes_of rfl rfl rfl rfl) (fun _ _ _ _ h => h)) (pa_cons (pv 1) (pa_cons (pv 2) (pa_cons (pv 3) pa_nil)))))
      (pssa_of (pss_one (ps_expr (pe_meth (pv 0) (L.cl k) mF GF hr bF .nil (passes_call (takes_of rfl rfl rfl rfl) (fun _ _ _ _ h => h)) (pa_cons (pv 4) pa_nil))))), ?_⟩
    refine ⟨x, dx, _, rfl, hx, _, rfl, _, rfl, _, rfl, x, dx, k, vn, vc, vl, rfl, hx, hk, kn, kc, kl, fun z c l H1 g h1 o1 => ?_, bad⟩
    obtain ⟨g1, g2, g3, g4, g5, g6, g7, g8⟩ := id g
    refine ⟨_, rfl, x, dx, _, rfl, h1, hno z c l, _, rfl, x, dx, k, _, vf, c, rfl, h1, hl z c l, hm z c l, by omega, by omega, kf.others hx o1, fun n e h0 h2 => ?_, fun e => q2 z c l H1 g e o1⟩
    refine q z c l n _ g e h0 h2 ?_ (o1.trans .upd)
    rw [upd_same, hp]
theorem scIniB : NScope ["self", "name", "cap", "level", "floor", "__class__"] ["self", "name", "cap", "level", "floor"] ["__class__"] (defScope sIniB) := nscope_by (by decide +kernel)
theorem ok_iniB {f fS CB CN CC CL CF : Addr} {fd fdS : FuncData} {dvs : List V} {kws : List (Str × V)} {g : List Value → List Value → List Value} {gV : List V → List V → List V} (hgV : ∀ a b c d e : V, gV [a, b, c, d] [e] = [a, b, c, d, e])
    (F : FunC K (P.main.file : Str) "__init__" "GoalReserve.__init__" sIniB dvs kws CB f fd) (L : Cl K C)
    (GS : FnOk P w K mg base (L2.CX P w) 4 fS fdS ["self", "name", "cap", "level", "floor"] (spIniR C CN CC CL CF .b)) (kb : KBn K fdS ["self", "name", "cap", "level", "floor"] 4 ["floor"] g gV) (S : SupP K P mg) (SC : SupC K (C .b) CB fS "__init__") :
    FnOk P w K mg base (L2.CX P w) 5 f fd ["self", "name", "cap", "level", "floor"] (spIniR C CN CC CL CF .b) := by
  refine F.okX scIniB (by rfl) rfl rfl rfl (fun vs H Q E h => ?_) (fun cc c A outer s H vs Q E hr SX h => ?_)
  · obtain ⟨x, dx, vn, vc, vl, vf, rfl, _⟩ := h
    rfl
  · obtain ⟨x, dx, vn, vc, vl, vf, rfl, hx, rest⟩ := id h
    refine ⟨_, pssa_one (psa_expr (pea_superK SX S SC GS hr kb (passes_call (takes_of rfl rfl rfl rfl) (fun _ _ _ _ h => h)) (pa_cons (pv 1) (pa_cons (pv 2) (pa_cons (pv 3) pa_nil))) (pk_cons (pv 4) pk_nil))), ?_⟩
    refine ⟨x, dx, _, rfl, hx, _, rfl, _, rfl, _, rfl, _, rfl, rfl, rfl, ?_⟩
    rw [hgV]
    exact h
end
end Ev
namespace Ev
open PySem PySem.Spec PyProof.Rows L2 NdefX ClX Sx
abbrev sCell : Stmt := top 25
abbrev sDig : Stmt := top 26
section
variable {P : Program} {w : World} {K : PySem.W.Frag} {mg : Str → Option Value} {base : Heap} {C : Kd → Addr}
def spCell (K : PySem.W.Frag) : Sp := fun vs H Q _ => ∃ (a : Addr) (ns : List Int) (i : Int), vs = [.ref a, .int i] ∧ SqL K H a (ns.map V.int) ∧ ns.length ≤ 63 ∧ 0 ≤ i ∧ i ≤ 1000 ∧ ∀ n : Int, Q (.int n) H
theorem scCell : FnScope ["script", "index"] ["script", "index"] (defScope sCell) := ⟨rfl, rfl, rfl, by decide +kernel, rfl, by decide +kernel, by decide +kernel⟩
theorem ok_cell {f : Addr} {fd : FuncData} (F : Fun K "_law_cell" "_law_cell" sCell f fd) (B : Bl mg) : FnOk P w K mg base CX0 1 f fd ["script", "index"] (spCell K) := by
  refine F.ok scCell (fun vs H Q E h => ?_) (fun cdv A outer s H vs Q E hr h => ?_)
  · obtain ⟨a, ns, i, rfl, _⟩ := h
    rfl
  · obtain ⟨a, ns, i, rfl, hS, hl, i0, i1, q⟩ := h
    refine ⟨_, pss_cons (ps_if (pt_cmpR op_lt (pv 1) (pe_callB call_len_seq (by rfl) B.len boot_len (pa_cons (pv 0) pa_nil)) (nomark _)) (pss_one (ps_ret (pe_ix ix_list (pv 0) (pv 1) (fun _ _ => rfl)))) pss_nil)
      (pss_cons (ps_if (pt_cmpR op_eq (pe_callB call_len_seq (by rfl) B.len boot_len (pa_cons (pv 0) pa_nil)) pe_int (nomark _)) (pss_one (ps_ret (pe_op op_add (pe_op op_mul pe_int (pv 1)) pe_int))) pss_nil)
      (pss_one (ps_ret (pe_op op_add (pe_op op_mod (pe_ix ix_list (pv 0) (pe_op op_mod (pv 1) (pe_callB call_len_seq (by rfl) B.len boot_len (pa_cons (pv 0) pa_nil))) (fun _ _ => rfl)) pe_int) (pe_op op_mul pe_int (pv 1)))))), ?_⟩
    refine ⟨_, rfl, _, rfl, a, _, rfl, .inl hS, _, _, rfl, rfl, _, rfl, ?_⟩
    have item : ∀ j : Nat, j < ns.length → ∃ n : Int, (ns.map V.int)[j]? = some (.int n) := fun j hj => ⟨ns[j], by rw [List.getElem?_map, List.getElem?_eq_getElem hj]; rfl⟩
    by_cases c : i < ((ns.map V.int).length : Int)
    · refine iteB (b := true) (decide_eq_true c) (iteT ?_)
      rw [List.length_map] at c
      obtain ⟨n, hn⟩ := item i.toNat (by omega)
      exact ⟨_, rfl, _, rfl, a, _, _, _, rfl, rfl, hS, at_of (j := i.toNat) (by omega) hn, q n⟩
    · refine iteB (b := false) (decide_eq_false c) (iteF ?_)
      refine ⟨_, rfl, a, _, rfl, .inl hS, rfl, _, rfl, ?_⟩
      by_cases c0 : ns.length = 0
      · refine iteB (b := true) (decide_eq_true (by rw [List.length_map, c0]; rfl)) (iteT ?_)
        exact ⟨_, rfl, _, _, rfl, rfl, .inl ⟨by decide, by decide⟩, _, _, rfl, rfl, q _⟩
      · refine iteB (b := false) (decide_eq_false (fun z => c0 (by have := V.int.inj z; rw [List.length_map] at this; omega))) (iteF ?_)
        have hpos : (0 : Int) < ((ns.map V.int).length : Int) := by rw [List.length_map]; omega
        have hb0 := Int.emod_nonneg i (Int.ne_of_gt hpos)
        have hb1 := Int.emod_lt_of_pos i hpos
        obtain ⟨n, hn⟩ := item (i % ((ns.map V.int).length : Int)).toNat (by rw [List.length_map] at *; omega)
        refine ⟨_, rfl, _, rfl, _, rfl, a, _, rfl, .inl hS, _, _, rfl, rfl, hpos, a, _, _, _, rfl, rfl, hS, at_of (j := (i % ((ns.map V.int).length : Int)).toNat) (by omega) hn, _, _, rfl, rfl, (by show (0 : Int) < 1000003; decide), _, rfl, _, _, rfl, rfl, .inl ⟨by decide, by decide⟩, _, _, rfl, rfl, q _⟩
def primes : List Int := [2147483647, 2147483629, 2147483587, 2147483579, 2147483563, 2147483549, 2147483543, 2147483497]
theorem prime_at (j : Int) : ∃ p : Int, atI (primes.map V.int) (j % 8) = some (.int p) ∧ 0 < p ∧ p < 2147483648 := by
  have h0 := Int.emod_nonneg j (show (8 : Int) ≠ 0 by decide)
  have h1 := Int.emod_lt_of_pos j (show (0 : Int) < 8 by decide)
  have e : j % 8 = (((j % 8).toNat : Nat) : Int) := by omega
  obtain ⟨m, hm⟩ : ∃ m : Nat, (j % 8).toNat = m := ⟨_, rfl⟩
  have hm8 : m < 8 := by omega
  rw [e, hm]
  match m, hm8 with
  | 0, _ => exact ⟨_, atI_nat rfl, by decide, by decide⟩
  | 1, _ => exact ⟨_, atI_nat rfl, by decide, by decide⟩
  | 2, _ => exact ⟨_, atI_nat rfl, by decide, by decide⟩
  | 3, _ => exact ⟨_, atI_nat rfl, by decide, by decide⟩
  | 4, _ => exact ⟨_, atI_nat rfl, by decide, by decide⟩
  | 5, _ => exact ⟨_, atI_nat rfl, by decide, by decide⟩
  | 6, _ => exact ⟨_, atI_nat rfl, by decide, by decide⟩
  | 7, _ => exact ⟨_, atI_nat rfl, by decide, by decide⟩
def spDig (K : PySem.W.Frag) : Sp := fun vs H Q _ => ∃ (a : Addr) (ns : List Int) (i n b : Int), vs = [.ref a, .int i, .int n, .int b] ∧ SqL K H a (ns.map V.int) ∧ ns.length ≤ 63 ∧ 0 ≤ i ∧ i ≤ 1000 ∧ 0 ≤ n ∧ n ≤ 1000 ∧ 0 < b ∧ b < 1000000 ∧
  ∀ (p : Addr) (ds : List Int) (H' : Hp), H p = none → H' p = some (.lst (ds.map V.int)) → ds.length = n.toNat → (∀ d ∈ ds, 0 ≤ d ∧ d < b) → Same H H' → Q (.ref p) H'
theorem scDig : FnScope ["script", "index", "count", "base", "primes", "cell", "rest", "digits", "k", "mixed"] ["script", "index", "count", "base"] (defScope sDig) := ⟨rfl, rfl, rfl, by decide +kernel, rfl, by decide +kernel, by decide +kernel⟩
theorem ok_dig {f fC : Addr} {fd fdC : FuncData} (F : Fun K "_law_digits" "_law_digits" sDig f fd) (B : Bl mg) (GC : FnOk P w K mg base CX0 1 fC fdC ["script", "index"] (spCell K)) (bC : Binds K fdC ["script", "index"] []) (mC : mg "_law_cell" = some (.ref fC)) (kC : PySem.W.keepIn K (.ref fC) = true) :
    FnOk P w K mg base CX0 2 f fd ["script", "index", "count", "base"] (spDig K) := by
  refine F.ok scDig (fun vs H Q E h => ?_) (fun cdv A outer s H vs Q E hr h => ?_)
  · obtain ⟨a, ns, i, n, b, rfl, _⟩ := h
    rfl
  · obtain ⟨a, ns, i, n, b, rfl, hS, hl, i0, i1, n0, n1, b0, b1, q⟩ := h
    have nd := scDig.nd
    refine ⟨_, pss_cons (ps_set (i := 4) nd rfl (Or.inl rfl) (pe_tup (pa_cons pe_int (pa_cons pe_int (pa_cons pe_int (pa_cons pe_int (pa_cons pe_int (pa_cons pe_int (pa_cons pe_int (pa_cons pe_int pa_nil))))))))))
      (pss_cons (ps_set (i := 5) nd rfl (Or.inl rfl) (pe_call GC hr (by rfl) mC kC bC .nil pass0 (pa_cons (pv 0) (pa_cons (pv 1) pa_nil))))
      (pss_cons (ps_set (i := 6) nd rfl (Or.inl rfl) (pe_ifExp (pt_cmpR op_ge (pv 5) (pe_op op_pow pe_int pe_int) (nomark _)) (pv 5) pe_int))
      (pss_cons (ps_set (i := 7) nd rfl (Or.inl rfl) (pe_lst pa_nil))
      (pss_cons (ps_for PassesOwn.never rfl (pi_range1 (by rfl) B.rng (pa_cons (pv 2) pa_nil)) (pg_name (i := 8) nd rfl (Or.inl rfl))
        (pss_cons (ps_set (i := 9) nd rfl (Or.inl rfl) (pe_op op_mul (pe_op op_mod (pv 5) (pe_ix ix_tup (pv 4) (pe_op op_mod (pv 8) pe_int) (fun _ _ => rfl))) (pe_op op_add pe_int (pe_op op_mul (pe_op op_mul pe_int (pv 8)) (pv 8)))))
        (pss_cons (ps_set (i := 9) nd rfl (Or.inl rfl) (pe_op op_add (pe_op op_add (pv 9) (pe_op op_mul (pe_op op_mul pe_int (pe_op op_add (pv 8) pe_int)) (pe_op op_add (pv 8) pe_int))) (pe_op op_mul pe_int (pv 1))))
        (pss_cons (ps_set (i := 9) nd rfl (Or.inl rfl) (pe_op op_mod (pv 9) (pe_ix ix_tup (pv 4) (pe_op op_mod (pe_op op_add (pe_op op_mul pe_int (pv 8)) (pv 1)) pe_int) (fun _ _ => rfl))))
        (pss_cons (ps_set (i := 9) nd rfl (Or.inl rfl) (pe_op op_mod (pe_op op_mul (pe_op op_mul (pv 9) (pv 9)) (pv 9)) (pe_ix ix_tup (pv 4) (pe_op op_mod (pe_op op_add (pv 8) pe_int) pe_int) (fun _ _ => rfl))))
        (pss_cons (ps_if (pt_cmpR op_gt (pv 6) pe_int (nomark _)) (pss_one (ps_set (i := 9) nd rfl (Or.inl rfl) (pv 6))) pss_nil)
        (pss_cons (ps_expr (pe_bm PySem.F.plainAttrs_list PySem.F.slot_list_append PySem.F.type_list_append mt_append (pv 7) (pa_cons (pe_op op_mod (pv 9) (pv 3)) pa_nil)))
        (pss_one (ps_set (i := 6) nd rfl (Or.inl rfl) (pe_op op_fdiv (pv 6) (pv 3)))))))))))
      (pss_one (ps_ret (pv 7))))))), ?_⟩
    refine ⟨by show 8 ≤ sizeLine; decide, fun T hT => ?_⟩
    have sT : Same H (upd H T (.tup (primes.map V.int))) := fun c o e => by rw [upd_ne (ne_of_none e hT)]; exact e
    refine ⟨_, rfl, _, rfl, a, ns, i, rfl, sT.seq hS, hl, i0, i1, fun cell => ?_⟩
    refine ⟨_, rfl, _, _, rfl, rfl, ⟨by decide, by decide, by decide⟩, _, _, rfl, rfl, _, rfl, ?_⟩
    refine ite2 (fun _ => ⟨_, rfl, ?_⟩) (fun _ => ?_)
    all_goals
      refine ⟨by decide, fun D hD => ?_⟩
      have hTD : T ≠ D := ne_of_none upd_same hD
      have hDH : H D = none := sT.free hD
      refine ⟨_, rfl, n, rfl, by omega, by omega, for_range (lo := 0) (n := n.toNat) (fun j σ H' => ∃ (rest : Int) (v8 v9 : Option V) (ds : List Int), σ = [some (.ref a), some (.int i), some (.int n), some (.int b), some (.ref T), some (.int cell), some (.int rest), some (.ref D), v8, v9] ∧
        H' T = some (.tup (primes.map V.int)) ∧ H' D = some (.lst (ds.map V.int)) ∧ ds.length = j ∧ (∀ d ∈ ds, 0 ≤ d ∧ d < b) ∧ Same H H') ?_ ?_ ?_⟩
      · exact ⟨_, none, none, [], rfl, by rw [upd_ne hTD]; exact upd_same, upd_same, rfl, (fun d hd => nomatch hd), fun c o e => by rw [upd_ne (ne_of_none (sT c o e) hD)]; exact sT c o e⟩
      · rintro j σ H' hj ⟨rest, v8, v9, ds, rfl, h1, h2, h3, h4, h5⟩
        have hj2 : (j : Int) < n := by omega
        obtain ⟨p1, e1, p10, p11⟩ := prime_at (0 + (j : Int))
        obtain ⟨p2, e2, p20, p21⟩ := prime_at (3 * (0 + (j : Int)) + i)
        obtain ⟨p3, e3, p30, p31⟩ := prime_at (0 + (j : Int) + 5)
        have m1 := Int.emod_nonneg cell (Int.ne_of_gt p10)
        have m2 := Int.emod_lt_of_pos cell p10
        refine ⟨_, rfl, _, rfl, _, rfl, _, _, rfl, rfl, (by show (0 : Int) < 8; decide), T, _, _, _, rfl, rfl, SqT.of h1, e1, _, _, rfl, rfl, p10, _, rfl, _, _, rfl, rfl, .inl ⟨by decide, by decide⟩, _, rfl, _, _, rfl, rfl, .inl ⟨by omega, by omega⟩, _, _, rfl, rfl, _, _, rfl, rfl, .inl ⟨by omega, by omega⟩, ?_⟩
        refine ⟨_, rfl, _, rfl, _, _, rfl, rfl, _, _, rfl, rfl, .inl ⟨by decide, by decide⟩, _, rfl, _, _, rfl, rfl, _, _, rfl, rfl, .inl ⟨by omega, by omega⟩, _, _, rfl, rfl, _, rfl, _, _, rfl, rfl, .inl ⟨by decide, by decide⟩, _, _, rfl, rfl, ?_⟩
        refine ⟨_, rfl, _, rfl, _, rfl, _, _, rfl, rfl, .inl ⟨by decide, by decide⟩, _, rfl, _, _, rfl, rfl, _, _, rfl, rfl, (by show (0 : Int) < 8; decide), T, _, _, _, rfl, rfl, SqT.of h1, e2, _, _, rfl, rfl, p20, ?_⟩
        have sq : ∀ m : Int, 0 ≤ m → m < 2147483648 → (-(2 ^ 64) < m ∧ m < 2 ^ 64) ∧ (-(2 ^ 64) < m * m ∧ m * m < 2 ^ 64) := fun m r0 r1 => by
          have r2 : 0 ≤ m * m := Int.mul_nonneg r0 r0
          have r3 : m * m ≤ 2147483648 * 2147483648 := Int.mul_le_mul (by omega) (by omega) r0 (by decide)
          omega
        have sq3 := sq ((cell % p1 * (48271 + 2 * (0 + (j : Int)) * (0 + (j : Int))) + 7919 * (0 + (j : Int) + 1) * (0 + (j : Int) + 1) + 104729 * i) % p2) (Int.emod_nonneg _ (Int.ne_of_gt p20)) (Int.lt_trans (Int.emod_lt_of_pos _ p20) p21)
        refine ⟨_, rfl, _, rfl, _, _, rfl, rfl, .inl sq3.1, _, rfl, _, _, rfl, rfl, .inl sq3.2, _, rfl, _, rfl, _, _, rfl, rfl, _, _, rfl, rfl, (by show (0 : Int) < 8; decide), T, _, _, _, rfl, rfl, SqT.of h1, e3, _, _, rfl, rfl, p30, ?_⟩
        refine ⟨_, rfl, _, _, rfl, rfl, _, rfl, ?_⟩
        have fin : ∀ m : Int, ∃ (rest' : Int) (v8 v9 : Option V) (ds' : List Int), ([some (.ref a), some (.int i), some (.int n), some (.int b), some (.ref T), some (.int cell), some (.int (rest / b)), some (.ref D), some (.int (0 + (j : Int))), some (.int m)] : L2.St) = [some (.ref a), some (.int i), some (.int n), some (.int b), some (.ref T), some (.int cell), some (.int rest'), some (.ref D), v8, v9] ∧
            (upd H' D (.lst (ds.map V.int ++ [V.int (m % b)]))) T = some (.tup (primes.map V.int)) ∧ (upd H' D (.lst (ds.map V.int ++ [V.int (m % b)]))) D = some (.lst (ds'.map V.int)) ∧ ds'.length = j + 1 ∧ (∀ d ∈ ds', 0 ≤ d ∧ d < b) ∧ Same H (upd H' D (.lst (ds.map V.int ++ [V.int (m % b)]))) := fun m => by
          refine ⟨_, _, _, ds ++ [m % b], rfl, by rw [upd_ne hTD]; exact h1, by rw [upd_same, List.map_append]; rfl, by rw [List.length_append, h3]; rfl, fun d hd => ?_, fun c o e => ?_⟩
          · rcases List.mem_append.mp hd with hd | hd
            · exact h4 d hd
            · rw [List.mem_singleton.mp hd]
              exact ⟨Int.emod_nonneg _ (Int.ne_of_gt b0), Int.emod_lt_of_pos _ b0⟩
          · rw [upd_ne (ne_of_none e hDH)]
            exact h5 c o e
        have hz : (ds.map V.int).length < sizeLine := by rw [List.length_map, h3, sizeLine_eq]; omega
        refine ite2 (fun _ => ⟨_, rfl, ?_⟩) (fun _ => ?_)
        · exact ⟨_, rfl, .inl ⟨rfl, _, SqL.of h2⟩, _, rfl, _, rfl, _, _, rfl, rfl, b0, D, _, _, rfl, rfl, h2, hz, _, rfl, _, rfl, _, _, rfl, rfl, ⟨b0, by omega⟩, fin _⟩
        · exact ⟨_, rfl, .inl ⟨rfl, _, SqL.of h2⟩, _, rfl, _, rfl, _, _, rfl, rfl, b0, D, _, _, rfl, rfl, h2, hz, _, rfl, _, rfl, _, _, rfl, rfl, ⟨b0, by omega⟩, fin _⟩
      · rintro σ H' ⟨rest, v8, v9, ds, rfl, h1, h2, h3, h4, h5⟩
        refine ⟨_, rfl, ?_⟩
        exact q D ds H' hDH h2 h3 h4 h5
end
end Ev
namespace Ev
open PySem PySem.Spec PyProof.Rows L2 NdefX ClX Sx
abbrev sMade : Stmt := top 27
def kdI : Kd → Int | .e => 0 | .g => 1 | .r => 2 | .b => 3
section
variable {P : Program} {w : World} {K : PySem.W.Frag} {mg : Str → Option Value} {base : Heap} {C : Kd → Addr}
def BadS (CN CC CL : Addr) (vn vc vl : V) (H : Hp) (E : XK) : Prop :=
  (isNm vn = false → ∀ H', Same H H' → E (.ref CN) none H') ∧ (isNm vn = true → inR 1 1000000 vc = false → ∀ H', Same H H' → E (.ref CC) none H') ∧
  (∀ c, isNm vn = true → vc = .int c → inR 1 1000000 vc = true → inR 0 c vl = false → ∀ H', Same H H' → E (.ref CL) none H')
def spMade (C : Kd → Addr) (CN CC CL CF : Addr) : Sp := fun vs H Q E => ∃ k vn vc vl vf, vs = [.int (kdI k), vn, vc, vl, vf] ∧ Kn H vn ∧ Kn H vc ∧ Kn H vl ∧ Kn H vf ∧
  (∀ z c l f x dx H', Good vn vc vl z c l → (k.isR = true → vf = .int f ∧ 0 ≤ f ∧ f ≤ c) → H x = none → H' x = some (.ins (C k) dx (fl k (ob z c l f))) → Same H H' → Q (.ref x) H') ∧
  (∀ z c l H', k.isR = true → Good vn vc vl z c l → inR 0 c vf = false → Same H H' → E (.ref CF) none H') ∧ BadS CN CC CL vn vc vl H E
theorem same_new {H : Hp} {x dx : Addr} {u : HO} (hx : H x = none) (hd : H dx = none) : Same H (upd (upd H dx (.own x)) x u) := fun b o e => by
  rw [upd_ne (ne_of_none e hx), upd_ne (ne_of_none e hd)]
  exact e
theorem same_oth {H H' : Hp} {x dx : Addr} {u : HO} (hx : H x = none) (hd : H dx = none) (o : Others (upd (upd H dx (.own x)) x u) H' x) : Same H H' := fun b v e => o b v (same_new hx hd b v e) (ne_of_none e hx)
theorem BadS.to {CN CC CL : Addr} {vn vc vl : V} {H : Hp} {E : XK} {x dx : Addr} {u : HO} (h : BadS CN CC CL vn vc vl H E) (hx : H x = none) (hd : H dx = none) : Bad3 CN CC CL vn vc vl (upd (upd H dx (.own x)) x u) x E :=
  ⟨fun a H' o => h.1 a H' (same_oth hx hd o), fun a b H' o => h.2.1 a b H' (same_oth hx hd o), fun c a b d e H' o => h.2.2 c a b d e H' (same_oth hx hd o)⟩
structure Mks (P : Program) (w : World) (K : PySem.W.Frag) (mg : Str → Option Value) (base : Heap) (C : Kd → Addr) (CN CC CL CF : Addr) (fE fG fR fB : Addr) (fdE fdG fdR fdB : FuncData) (gR gB : List Value → List Value → List Value) (gvR gvB : List V → List V → List V) : Prop where
  mE : mg "Envelope" = some (.ref (C .e))
  mG : mg "Goal" = some (.ref (C .g))
  mR : mg "Reserve" = some (.ref (C .r))
  mB : mg "GoalReserve" = some (.ref (C .b))
  kE : Mk K (C .e) fE
  kG : Mk K (C .g) fG
  kR : Mk K (C .r) fR
  kB : Mk K (C .b) fB
  oE : FnOk P w K mg base (L2.CX P w) 5 fE fdE ["self", "name", "cap", "level"] (spIni C CN CC CL Any fl3)
  oG : FnOk P w K mg base (L2.CX P w) 5 fG fdG ["self", "name", "cap", "level"] (spIni C CN CC CL (fun k => k.isG = true) flG)
  oR : FnOk P w K mg base (L2.CX P w) 5 fR fdR ["self", "name", "cap", "level", "floor"] (spIniR C CN CC CL CF .r)
  oB : FnOk P w K mg base (L2.CX P w) 5 fB fdB ["self", "name", "cap", "level", "floor"] (spIniR C CN CC CL CF .b)
  bE : Binds K fdE ["self", "name", "cap", "level"] []
  bG : Binds K fdG ["self", "name", "cap", "level"] []
  bR : KBn K fdR ["self", "name", "cap", "level", "floor"] 4 ["floor"] gR gvR
  bB : KBn K fdB ["self", "name", "cap", "level", "floor"] 4 ["floor"] gB gvB
  eR : ∀ a b c d e : V, gvR [a, b, c, d] [e] = [a, b, c, d, e]
  eB : ∀ a b c d e : V, gvB [a, b, c, d] [e] = [a, b, c, d, e]
theorem scMade : FnScope ["kind", "name", "cap", "level", "ground"] ["kind", "name", "cap", "level", "ground"] (defScope sMade) := ⟨rfl, rfl, rfl, by decide +kernel, rfl, by decide +kernel, by decide +kernel⟩
theorem ok_made {f CN CC CL CF fE fG fR fB : Addr} {fd fdE fdG fdR fdB : FuncData} {gR gB : List Value → List Value → List Value} {gvR gvB : List V → List V → List V} (F : Fun K "_law_made" "_law_made" sMade f fd) (M : Mks P w K mg base C CN CC CL CF fE fG fR fB fdE fdG fdR fdB gR gB gvR gvB) :
    FnOk P w K mg base (L2.CX P w) 7 f fd ["kind", "name", "cap", "level", "ground"] (spMade C CN CC CL CF) := by
  refine F.okX scMade (fun vs H Q E h => ?_) (fun cdv A outer s H vs Q E hr h => ?_)
  · obtain ⟨k, vn, vc, vl, vf, rfl, _⟩ := h
    rfl
  · obtain ⟨k, vn, vc, vl, vf, rfl, kn, kc, kl, kf, q, q2, bad⟩ := h
    refine ⟨_, pss_cons (ps_if (pt_cmpR op_eq (pv 0) pe_int (nomark _)) (pss_one (ps_ret (pe_make M.kE M.oE hr (by rfl) M.mE M.bE .nil (passes_call (takes_of rfl rfl rfl rfl) (fun _ _ _ _ h => h)) (pa_cons (pv 1) (pa_cons (pv 2) (pa_cons (pv 3) pa_nil)))))) pss_nil)
      (pss_cons (ps_if (pt_cmpR op_eq (pv 0) pe_int (nomark _)) (pss_one (ps_ret (pe_make M.kG M.oG hr (by rfl) M.mG M.bG .nil (passes_call (takes_of rfl rfl rfl rfl) (fun _ _ _ _ h => h)) (pa_cons (pv 1) (pa_cons (pv 2) (pa_cons (pv 3) pa_nil)))))) pss_nil)
      (pss_cons (ps_if (pt_cmpR op_eq (pv 0) pe_int (nomark _)) (pss_one (ps_ret (pe_makeN M.kR M.oR hr (by rfl) M.mR M.bR (passes_call (takes_of rfl rfl rfl rfl) (fun _ _ _ _ h => h)) (pa_cons (pv 1) (pa_cons (pv 2) (pa_cons (pv 3) pa_nil))) (pk_cons (pv 4) pk_nil)))) pss_nil)
      (pss_one (ps_ret (pe_makeN M.kB M.oB hr (by rfl) M.mB M.bB (passes_call (takes_of rfl rfl rfl rfl) (fun _ _ _ _ h => h)) (pa_cons (pv 1) (pa_cons (pv 2) (pa_cons (pv 3) pa_nil))) (pk_cons (pv 4) pk_nil)))))), ?_⟩
    refine ⟨_, rfl, rfl, _, rfl, ?_⟩
    cases k with
    | e =>
      refine iteB (b := true) (by decide) (iteT ?_)
      refine ⟨_, rfl, _, rfl, _, rfl, fun x dx hx hd ne => ?_⟩
      refine ⟨x, dx, .e, vn, vc, vl, rfl, upd_same, trivial, kn.same (same_new hx hd), kc.same (same_new hx hd), kl.same (same_new hx hd), fun z c l H' g h1 o1 => ⟨rfl, ?_⟩, bad.to hx hd⟩
      exact q z c l 0 x dx H' g (fun z => by cases z) hx h1 (same_oth hx hd o1)
    | g =>
      refine iteB (b := false) (by decide) (iteF ?_)
      refine ⟨_, rfl, rfl, _, rfl, ?_⟩
      refine iteB (b := true) (by decide) (iteT ?_)
      refine ⟨_, rfl, _, rfl, _, rfl, fun x dx hx hd ne => ?_⟩
      refine ⟨x, dx, .g, vn, vc, vl, rfl, upd_same, rfl, kn.same (same_new hx hd), kc.same (same_new hx hd), kl.same (same_new hx hd), fun z c l H' g h1 o1 => ⟨rfl, ?_⟩, bad.to hx hd⟩
      exact q z c l 0 x dx H' g (fun z => by cases z) hx h1 (same_oth hx hd o1)
    | r =>
      refine iteB (b := false) (by decide) (iteF ?_)
      refine ⟨_, rfl, rfl, _, rfl, ?_⟩
      refine iteB (b := false) (by decide) (iteF ?_)
      refine ⟨_, rfl, rfl, _, rfl, ?_⟩
      refine iteB (b := true) (by decide) (iteT ?_)
      refine ⟨_, rfl, _, rfl, _, rfl, _, rfl, rfl, rfl, fun x dx hx hd ne => ?_⟩
      rw [M.eR]
      refine ⟨x, dx, vn, vc, vl, vf, rfl, upd_same, kn.same (same_new hx hd), kc.same (same_new hx hd), kl.same (same_new hx hd), kf.same (same_new hx hd), fun z c l f H' g e f0 f1 h1 o1 => ⟨rfl, ?_⟩, fun z c l H' g e o1 => q2 z c l H' rfl g e (same_oth hx hd o1), bad.to hx hd⟩
      exact q z c l f x dx H' g (fun _ => ⟨e, f0, f1⟩) hx h1 (same_oth hx hd o1)
    | b =>
      refine iteB (b := false) (by decide) (iteF ?_)
      refine ⟨_, rfl, rfl, _, rfl, ?_⟩
      refine iteB (b := false) (by decide) (iteF ?_)
      refine ⟨_, rfl, rfl, _, rfl, ?_⟩
      refine iteB (b := false) (by decide) (iteF ?_)
      refine ⟨_, rfl, _, rfl, _, rfl, _, rfl, rfl, rfl, fun x dx hx hd ne => ?_⟩
      rw [M.eB]
      refine ⟨x, dx, vn, vc, vl, vf, rfl, upd_same, kn.same (same_new hx hd), kc.same (same_new hx hd), kl.same (same_new hx hd), kf.same (same_new hx hd), fun z c l f H' g e f0 f1 h1 o1 => ⟨rfl, ?_⟩, fun z c l H' g e o1 => q2 z c l H' rfl g e (same_oth hx hd o1), bad.to hx hd⟩
      exact q z c l f x dx H' g (fun _ => ⟨e, f0, f1⟩) hx h1 (same_oth hx hd o1)
end
end Ev
namespace Ev
open PySem PySem.Spec PyProof.Rows L2 NdefX ClX Sx
theorem FnOk.cx {P : Program} {w : World} {K : PySem.W.Frag} {mg : Str → Option Value} {base : Heap} {CX : CXT} {k : Nat} {f : Addr} {fd : FuncData} {ps : List Str} {sp : Sp} (F : FnOk P w K mg base CX0 k f fd ps sp) : FnOk P w K mg base CX k f fd ps sp :=
  ⟨F.len, fun A outer s H args us vs Q E hr he hb hv hs => codeAny_mono (F.run A outer s H args us vs Q E hr he hb hv hs) fun r s' h => by
    cases r with
    | error e => exact (show False from h).elim
    | ok fl => cases fl <;> exact h⟩
def tEx {ι : Type} (t : ι → TE) : TE := fun σ H Q => ∃ i, t i σ H Q
theorem pe_ex {X : Cx} {e : Expr} {ι : Type} {t : ι → TE} (h : ∀ i, PE X e (t i)) : PE X e (tEx t) := ⟨fun pins s σ H Q I q => (h q.choose).run pins s σ H Q I q.choose_spec⟩
theorem firstMet_same {v : Int} {f : Nat → Int} {n : Nat} (h : ∀ i, i < n → f i = v) : ∀ i, i < n → PyProof.Rows.firstMet f (i + 1) = [v]
  | 0, hi => by
    rw [PyProof.Rows.firstMet_succ, PyProof.Rows.firstMet_zero, h 0 hi]
    rfl
  | i + 1, hi => by
    rw [PyProof.Rows.firstMet_succ, firstMet_same h i (Nat.lt_of_succ_lt hi), h (i + 1) hi]
    show (if ([v] : List Int).any (· == v) then [v] else [v] ++ [v]) = [v]
    rw [if_pos (by simp)]
def tLenSetE (K : PySem.W.Frag) (ta : TE) : TE := fun σ H Q => ta σ H fun x H1 => ∃ (l : Addr) (v : Int) (n : Nat), x = .ref l ∧ SqL K H1 l (List.replicate (n + 1) (V.int v)) ∧ n ≤ 1000 ∧ Q (.int 1) H1
theorem pe_lenSetE {X : Cx} {a : Expr} {ta : TE} {p p2 q pos : Pos} (hg : Gl X "len") (hm : X.mg "len" = none) (hg2 : Gl X "set") (hm2 : X.mg "set" = none) (ha : PE X a ta) (hc : X.calm = true := by rfl)
    (na : starEach [a] X.env = (false, eval a X.env) :: starEach [] X.env := by rfl) : PE X (.Call (.Name "len" p) [.Call (.Name "set" p2) [a] [] q] [] pos) (tLenSetE X.K ta) := by
  refine ⟨fun pins s σ H Q I h => ?_⟩
  refine Call_ (ld_blt I hg hm boot_len ?_)
  refine PyProof.Rows.callWith_builtin1 (PyProof.Rows.args_cons ?_ rfl) rfl rfl
  refine Call_ (ld_blt I hg2 hm2 boot_set ?_)
  refine PyProof.Rows.callWith_type1 (PyProof.Rows.args_cons (thn (ha.run pins s σ H _ I h) fun v s1 ⟨x, H1, I1, r1, q1⟩ => PyProof.Rows.args_nil ?_) na) na rfl
  obtain ⟨l, v, n, rfl, hq, hl, q1⟩ := q1
  cases r1
  have hq' : SqL X.K H1 l ((List.replicate (n + 1) v).map V.int) := by rw [List.map_replicate]; exact hq
  obtain ⟨its, r, pl, hz⟩ := I1.list hq'
  have hlen : its.toArray.size = n + 1 := by rw [List.size_toArray, ← r.length, List.length_map, List.length_replicate]
  refine call_set_list (I1.ok.hd hc) pl.isList (by simpa using RZ.intsAre_vals r) (by rw [hlen]; unfold scanBound; omega) fun h' tk hS hk => ?_
  refine PyProof.Rows.args_nil ?_
  rw [hlen, firstMet_same (v := v) (n := n + 1) (fun i hi => by
    rw [List.getD_eq_getElem?_getD, List.getElem?_replicate, if_pos hi]
    rfl) n (Nat.lt_succ_self n)] at hS
  obtain ⟨o, es, ep, t, ho, hex, hd, _, _, _, hf, hn⟩ := hS
  have I2 : Inv X pins σ H1 { s1 with heap := h', toks := tk } := I1.kept fun b o e => hk b o (Heap.lt_size e) e
  exact call_len_set ho hex hd hf (by rw [hn]; show ((1 : Nat) : Int) < 2 ^ 63; decide) ⟨.int 1, H1, I2.tok _, ⟨_, by rw [hn]; rfl⟩, q1⟩
end Ev
namespace Ev
open PySem PySem.Spec PyProof.Rows L2 NdefX ClX Sx
abbrev sLaw : Stmt := top 28
def kds : List Kd := [.e, .g, .r, .b]
def Kd.ix : Kd → Nat | .e => 0 | .g => 1 | .r => 2 | .b => 3
theorem kds_ix {i : Nat} (h : i < 4) : ∃ k, kds[i]? = some k ∧ k.ix = i ∧ kdI k = (0 : Int) + (i : Int) := by
  match i, h with
  | 0, _ => exact ⟨.e, rfl, rfl, rfl⟩
  | 1, _ => exact ⟨.g, rfl, rfl, rfl⟩
  | 2, _ => exact ⟨.r, rfl, rfl, rfl⟩
  | 3, _ => exact ⟨.b, rfl, rfl, rfl⟩
theorem ix_lt (k : Kd) : k.ix < 4 := by cases k <;> decide
theorem ix_inj {k k' : Kd} (h : k.ix = k'.ix) : k = k' := by cases k <;> cases k' <;> first | rfl | cases h
def refs (x : Kd → Addr) : List V := kds.map fun k => V.ref (x k)
structure St4 (C : Kd → Addr) (H : Hp) (L : Addr) (x dx : Kd → Addr) (o : Ob) : Prop where
  at_ : ∀ k, IsAt C H (x k) (dx k) k o
  lst : H L = some (.lst (refs x))
  ne : ∀ k k', k ≠ k' → x k ≠ x k'
def Oth4 (H H' : Hp) (x : Kd → Addr) : Prop := ∀ b u, H b = some u → (∀ k, b ≠ x k) → H' b = some u
theorem fl_put (k : Kd) (o : Ob) (n : Int) : fl k (o.put k n) = fl k (o.put .b n) := by cases k <;> rfl
theorem fl_flo {k : Kd} (h : k.isR = false) (z : Str) (c l f g : Int) : fl k (ob z c l f) = fl k (ob z c l g) := by cases k <;> first | rfl | cases h
theorem refs_at (x : Kd → Addr) (k : Kd) : (refs x)[k.ix]? = some (V.ref (x k)) := by cases k <;> rfl
theorem refs_of {x : Kd → Addr} {i : Nat} {v : V} (h : (refs x)[i]? = some v) : ∃ k : Kd, k.ix = i ∧ v = V.ref (x k) := by
  have hi : i < 4 := (List.getElem?_eq_some_iff.mp h).1
  match i, hi, h with
  | 0, _, h => exact ⟨.e, rfl, (Option.some.inj h).symm⟩
  | 1, _, h => exact ⟨.g, rfl, (Option.some.inj h).symm⟩
  | 2, _, h => exact ⟨.r, rfl, (Option.some.inj h).symm⟩
  | 3, _, h => exact ⟨.b, rfl, (Option.some.inj h).symm⟩
structure ObOk (o : Ob) (c f : Int) : Prop where
  cap : o.cap = c
  flo : o.flo = f
  l0 : 0 ≤ o.lev
  l1 : o.lev ≤ c
  f0 : 0 ≤ f
theorem put_ok {o : Ob} {c f n : Int} (h : ObOk o c f) (n0 : 0 ≤ n) (k : Kd) : ObOk (o.put k n) c f := by
  obtain ⟨h1, h2, h3, h4, h5⟩ := h
  refine ⟨h1, h2, ?_, ?_, h5⟩
  · show 0 ≤ o.lev + o.added n
    unfold Ob.added
    split <;> omega
  · show o.lev + o.added n ≤ c
    unfold Ob.added
    split <;> omega
theorem free_le {o : Ob} {c f : Int} (h : ObOk o c f) (k : Kd) : 0 ≤ o.free .b ∧ o.free .b ≤ o.free k ∧ o.free k ≤ o.lev := by
  obtain ⟨h1, h2, h3, h4, h5⟩ := h
  cases k <;> simp only [Ob.free] <;> (repeat' split) <;> omega
theorem took_ok {o : Ob} {c f n : Int} (h : ObOk o c f) (n0 : 0 ≤ n) (n1 : n ≤ o.free .b) : ObOk (o.took n) c f := by
  have e := free_le h .b
  obtain ⟨h1, h2, h3, h4, h5⟩ := h
  exact ⟨h1, h2, by show 0 ≤ o.lev - n; omega, by show o.lev - n ≤ c; omega, h5⟩
structure Ms (P : Program) (w : World) (K : PySem.W.Frag) (mg : Str → Option Value) (base : Heap) (C : Kd → Addr) (CA CN : Addr) (fP fF fT : Kd → Addr) (dP dF dT : Kd → FuncData) : Prop where
  put : ∀ k, FnOk P w K mg base (L2.CX P w) 6 (fP k) (dP k) ["self", "amount"] (spPut C CA k)
  bput : ∀ k, Binds K (dP k) ["self", "amount"] []
  mput : ∀ k, Meth K (C k) "put" (fP k)
  free : ∀ k, FnOk P w K mg base (L2.CX P w) 5 (fF k) (dF k) ["self"] (spFree C k)
  bfree : ∀ k, Binds K (dF k) ["self"] []
  mfree : ∀ k, Meth K (C k) "free" (fF k)
  take : ∀ k, FnOk P w K mg base (L2.CX P w) 7 (fT k) (dT k) ["self", "amount"] (spTake C CA CN k)
  btake : ∀ k, Binds K (dT k) ["self", "amount"] []
  mtake : ∀ k, Meth K (C k) "take" (fT k)
structure Isi (K : PySem.W.Frag) (C : Kd → Addr) : Prop where
  ha : ∀ k, PySem.W.findIn K (.ref (C k)) "__class__" = some (some (.builtin "object.__class__"))
  hn : PySem.W.specialIn K (.builtin "object.__class__") "__get__" = some (some (.builtin "getset_descriptor.__get__"))
  htk : PySem.W.takesIn K (.builtin "object.__class__") = some true
  hm : ∀ k, PySem.W.mroIn K (C k) (.type "object") = some true
  bg : PySem.W.kitOne K (.ref (C .b)) (.ref (C .g)) = some true
  br : PySem.W.kitOne K (.ref (C .b)) (.ref (C .r)) = some true
  be : PySem.W.kitOne K (.ref (C .b)) (.ref (C .e)) = some true
  gr : PySem.W.kitOne K (.ref (C .g)) (.ref (C .r)) = some false
  rg : PySem.W.kitOne K (.ref (C .r)) (.ref (C .g)) = some false
  eg : PySem.W.kitOne K (.ref (C .e)) (.ref (C .g)) = some false
theorem Isi.ty {K : PySem.W.Frag} {C : Kd → Addr} (I : Isi K C) (L : Cl K C) {H : Hp} {a dx : Addr} {k : Kd} {fs : List (Str × V)} (h : H a = some (.ins (C k) dx fs)) : TyX K H (.ref a) (.ref (C k)) := .base (.ins h (L.cl k) (I.ha k) I.hn I.htk (I.hm k))
def NL : List Str := ["script", "index", "digits", "cap", "level", "ground", "some", "before", "k", "amount", "one", "plain", "goal", "reserve", "both", "kind"]
theorem scLaw : FnScope NL ["script"] (defScope sLaw) := ⟨rfl, rfl, rfl, by decide +kernel, rfl, by decide +kernel, by decide +kernel⟩
def spLaw (K : PySem.W.Frag) : Sp := fun vs H Q _ => ∃ (a : Addr) (ns : List Int), vs = [.ref a] ∧ SqL K H a (ns.map V.int) ∧ ns.length ≤ 63 ∧ ∀ H', Q (.bl true) H'
end Ev
namespace Ev
open PySem PySem.Spec PyProof.Rows L2 NdefX ClX Sx
theorem asg_int {te : TE} {i : Nat} {σ : L2.St} {H : Hp} {D : Ends} {v : Int} (R : Int → Prop) (h : Val te σ H (.int v)) (hv : R v) (k : ∀ c, R c → D.nx (σ.set i (some (.int c))) H) : tAsg te (gName i) D σ H := h _ (k v hv)
theorem asg_pair {K : PySem.W.Frag} {ta tb : TE} {i j : Nat} {σ : L2.St} {H : Hp} {D : Ends} {u v : Int} (R : Int → Int → Prop) (ha : Val ta σ H (.int u)) (hb : Val tb σ H (.int v)) (hR : R u v)
    (k : ∀ l g T, R l g → H T = none → D.nx ((σ.set i (some (.int l))).set j (some (.int g))) (upd H T (.tup [.int l, .int g]))) : tAsg (tTup (tCons ta (tCons tb tNil))) (gTup K 2 (gCons (gName i) (gCons (gName j) gNil))) D σ H := by
  refine ha _ ?_
  refine hb _ ?_
  exact ⟨by show 2 ≤ sizeLine; decide, fun T hT => ⟨T, _, rfl, SqT.of upd_same, rfl, _, _, rfl, _, _, rfl, rfl, k u v T hR hT⟩⟩
theorem ite_same {c : Prop} [Decidable c] {A B X : Prop} (h : X) (ha : c → X → A) (hb : ¬ c → X → B) : if c then A else B := by
  by_cases e : c
  · rw [if_pos e]; exact ha e h
  · rw [if_neg e]; exact hb e h
theorem step4 {C : Kd → Addr} {H : Hp} {x dx : Kd → Addr} {o o1 ok : Ob} {i : Nat} {k : Kd} (hk : k.ix = i) (ne : ∀ k k', k ≠ k' → x k ≠ x k') (h : ∀ k, IsAt C H (x k) (dx k) k (if k.ix < i then o1 else o)) (e : fl k ok = fl k o1) :
    ∀ k', IsAt C (upd H (x k) (.ins (C k) (dx k) (fl k ok))) (x k') (dx k') k' (if k'.ix < i + 1 then o1 else o) := fun k' => by
  by_cases ek : k' = k
  · subst ek
    rw [if_pos (by omega)]
    show upd H (x k') _ (x k') = _
    rw [upd_same, e]
  · show upd H (x k) _ (x k') = _
    rw [upd_ne (ne k' k ek)]
    have hn : k'.ix ≠ i := fun z => ek (ix_inj (z.trans hk.symm))
    have := h k'
    by_cases hlt : k'.ix < i
    · rw [if_pos hlt] at this
      rw [if_pos (by omega)]
      exact this
    · rw [if_neg hlt] at this
      rw [if_neg (by omega)]
      exact this
end Ev
namespace Ev
open PySem PySem.Spec PyProof.Rows L2 NdefX ClX Sx
section
variable {P : Program} {w : World} {K : PySem.W.Frag} {mg : Str → Option Value} {base : Heap} {C : Kd → Addr}
theorem ok_law {f fD fM fE fG fR fB pL gL pR gR CA CN CI CC CL CF : Addr} {fd fdD fdM fdE fdG fdR fdB fdL fdRe : FuncData} {gaR gaB : List Value → List Value → List Value} {gvR gvB : List V → List V → List V} {fP fF fT : Kd → Addr} {dP dF dT : Kd → FuncData}
    (F : Fun K "law" "law" sLaw f fd) (B : Bl mg) (mSet : mg "set" = none) (L : Cl K C) (GD : FnOk P w K mg base CX0 2 fD fdD ["script", "index", "count", "base"] (spDig K)) (bD : Binds K fdD ["script", "index", "count", "base"] []) (mD : mg "_law_digits" = some (.ref fD)) (kD : PySem.W.keepIn K (.ref fD) = true)
    (GM : FnOk P w K mg base (L2.CX P w) 7 fM fdM ["kind", "name", "cap", "level", "ground"] (spMade C CI CC CL CF)) (bM : Binds K fdM ["kind", "name", "cap", "level", "ground"] []) (mM : mg "_law_made" = some (.ref fM)) (kM : PySem.W.keepIn K (.ref fM) = true)
    (M : Ms P w K mg base C CA CN fP fF fT dP dF dT) (J : Isi K C) (PL : PropK P w K mg base C Any "level" 1 pL gL fdL (spLevel C)) (PR : PropK P w K mg base C (fun k => k.isG = true) "reached" 1 pR gR fdRe (spReached C))
    (MK : Mks P w K mg base C CI CC CL CF fE fG fR fB fdE fdG fdR fdB gaR gaB gvR gvB) : FnOk P w K mg base CX0 8 f fd ["script"] (spLaw K) := by
  refine F.ok scLaw (fun vs H Q E h => ?_) (fun cdv A outer s H vs Q E hr h => ?_)
  · obtain ⟨a, ns, rfl, _⟩ := h
    rfl
  · obtain ⟨a, ns, rfl, hS, hlen, q⟩ := h
    have nd := scLaw.nd
    have h6 := hr.mono (show 6 ≤ 7 by decide)
    have h5 := hr.mono (show 5 ≤ 7 by decide)
    have h2 := hr.mono (show 2 ≤ 7 by decide)
    refine ⟨_, (pss_cons (ps_for PassesOwn.never rfl (pi_range1 (by rfl) B.rng (pa_cons pe_int pa_nil)) (pg_name (i := 1) scLaw.nd rfl (Or.inl rfl)) (pss_cons (ps_set (i := 2) scLaw.nd rfl (Or.inl rfl) (pe_call GD h2 (by rfl) mD kD bD .nil pass0 (pa_cons (pv 0) (pa_cons (pv 1) (pa_cons pe_int (pa_cons pe_int pa_nil))))))
      (pss_cons (ps_set (i := 3) scLaw.nd rfl (Or.inr rfl) (pe_op op_add pe_int (pe_op op_mod (pe_ix ix_list (pv 2) pe_int (fun _ _ => rfl)) pe_int)))
      (pss_cons (ps_asg (pe_tup (pa_cons (pe_op op_mod (pe_ix ix_list (pv 2) pe_int (fun _ _ => rfl)) (pe_op op_add (pv 3) pe_int)) (pa_cons (pe_op op_mod (pe_ix ix_list (pv 2) pe_int (fun _ _ => rfl)) (pe_op op_add (pv 3) pe_int)) pa_nil))) (pg_tup rfl (pgs_cons (pg_name (i := 4) scLaw.nd rfl (Or.inr rfl)) (pgs_cons (pg_name (i := 5) scLaw.nd rfl (Or.inr rfl)) pgs_nil))))
      (pss_cons (ps_setLc (i := 6) (own := [("kind", 15)]) (g := gName 15) (tt := tYes) rfl scLaw.nd rfl rfl (sw_true rfl rfl rfl (by decide +kernel)) (pi_range1 (by rfl) B.rng (pa_cons pe_int pa_nil)) (blkOk_by (N := NL) (sc := defScope sLaw) (by decide +kernel)) (fun _ _ _ _ _ => pg_name (i := 15) scLaw.nd rfl (Or.inl rfl)) (fun _ _ _ _ _ => pts_nil) (fun _ _ _ _ _ => (pe_call GM hr (by rfl) mM kM bM .nil passL (pa_cons (pv 15) (pa_cons pe_str (pa_cons (pv 3) (pa_cons (pv 4) (pa_cons (pv 5) pa_nil))))))))
      (pss_cons (ps_if (PW.pt (pw_or (pt_not (pt_val (pe_callB call_isi (by rfl) B.isi boot_isinstance (pa_cons (pe_ix ix_list (pv 6) pe_int (fun _ _ => rfl)) (pa_cons (pe_glob (by rfl) MK.mG (show RelV (.ref (C .g)) _ from rfl)) pa_nil))))) (pw_or (pt_not (pt_val (pe_callB call_isi (by rfl) B.isi boot_isinstance (pa_cons (pe_ix ix_list (pv 6) pe_int (fun _ _ => rfl)) (pa_cons (pe_glob (by rfl) MK.mR (show RelV (.ref (C .r)) _ from rfl)) pa_nil))))) (pw_or1 (pt_not (pt_val (pe_callB call_isi (by rfl) B.isi boot_isinstance (pa_cons (pe_ix ix_list (pv 6) pe_int (fun _ _ => rfl)) (pa_cons (pe_glob (by rfl) MK.mE (show RelV (.ref (C .e)) _ from rfl)) pa_nil))))))))) (pss_one (ps_ret pe_bl)) pss_nil)
      (pss_cons (ps_if (PW.pt (pw_or (pt_val (pe_callB call_isi (by rfl) B.isi boot_isinstance (pa_cons (pe_ix ix_list (pv 6) pe_int (fun _ _ => rfl)) (pa_cons (pe_glob (by rfl) MK.mR (show RelV (.ref (C .r)) _ from rfl)) pa_nil)))) (pw_or (pt_val (pe_callB call_isi (by rfl) B.isi boot_isinstance (pa_cons (pe_ix ix_list (pv 6) pe_int (fun _ _ => rfl)) (pa_cons (pe_glob (by rfl) MK.mG (show RelV (.ref (C .g)) _ from rfl)) pa_nil)))) (pw_or1 (pt_val (pe_callB call_isi (by rfl) B.isi boot_isinstance (pa_cons (pe_ix ix_list (pv 6) pe_int (fun _ _ => rfl)) (pa_cons (pe_glob (by rfl) MK.mG (show RelV (.ref (C .g)) _ from rfl)) pa_nil)))))))) (pss_one (ps_ret pe_bl)) pss_nil)
      (pss_cons (ps_set (i := 7) scLaw.nd rfl (Or.inl rfl) (pe_prop (pe_ix ix_list (pv 6) pe_int (fun _ _ => rfl)) (L.cl .b) (PR.pr .b rfl) PR.ok h2 PR.bn .nil pass0 rfl))
      (pss_one (ps_for PassesOwn.never rfl (pi_range1 (by rfl) B.rng (pa_cons pe_int pa_nil)) (pg_name (i := 8) scLaw.nd rfl (Or.inl rfl)) (pss_cons (ps_set (i := 9) scLaw.nd rfl (Or.inr rfl) (pe_op op_mod (pe_ix ix_list (pv 2) (pe_op op_add pe_int (pv 8)) (fun _ _ => rfl)) (pe_op op_add pe_int (pe_op op_fdiv (pv 3) pe_int))))
      (pss_cons (ps_if (PW.pt (pw_or (pt_cmpR op_ne (pe_lenSetE (by rfl) B.len (by rfl) mSet (pe_lc (own := [("one", 10)]) (g := gName 10) (tt := tYes) rfl scLaw.nd (pi_list (pv 6)) (blkOk_by (N := NL) (sc := defScope sLaw) (by decide +kernel)) (fun _ _ _ _ _ => pg_name (i := 10) scLaw.nd rfl (Or.inl rfl)) (fun _ _ _ _ _ => pts_nil) (fun _ _ _ _ _ => (pe_ex fun k => pe_meth (pv 10) (L.cl k) (M.mput k) (M.put k) h6 (M.bput k) .nil passL (pa_cons (pv 9) pa_nil))))) pe_int (nomark _)) (pw_or1 (pt_cmpR op_ne (pe_lenSetE (by rfl) B.len (by rfl) mSet (pe_lc (own := [("one", 10)]) (g := gName 10) (tt := tYes) rfl scLaw.nd (pi_list (pv 6)) (blkOk_by (N := NL) (sc := defScope sLaw) (by decide +kernel)) (fun _ _ _ _ _ => pg_name (i := 10) scLaw.nd rfl (Or.inl rfl)) (fun _ _ _ _ _ => pts_nil) (fun _ _ _ _ _ => (pe_ex fun k => pe_prop (pv 10) (L.cl k) (PL.pr k trivial) PL.ok h2 PL.bn .nil pass0 rfl)))) pe_int (nomark _))))) (pss_one (ps_ret pe_bl)) pss_nil)
      (pss_cons (ps_asg (pe_lc (own := [("one", 10)]) (g := gName 10) (tt := tYes) rfl scLaw.nd (pi_list (pv 6)) (blkOk_by (N := NL) (sc := defScope sLaw) (by decide +kernel)) (fun _ _ _ _ _ => pg_name (i := 10) scLaw.nd rfl (Or.inl rfl)) (fun _ _ _ _ _ => pts_nil) (fun _ _ _ _ _ => (pe_ex fun k => pe_meth0 (pv 10) (L.cl k) (M.mfree k) (M.free k) h5 (M.bfree k) .nil passL))) (pg_unl rfl (pgs_cons (pg_name (i := 11) scLaw.nd rfl (Or.inl rfl)) (pgs_cons (pg_name (i := 12) scLaw.nd rfl (Or.inl rfl)) (pgs_cons (pg_name (i := 13) scLaw.nd rfl (Or.inl rfl)) (pgs_cons (pg_name (i := 14) scLaw.nd rfl (Or.inl rfl)) pgs_nil))))))
      (pss_cons (ps_if (PW.pt (pw_or (pt_cmpR op_ne (pv 11) (pe_prop (pe_ix ix_list (pv 6) pe_int (fun _ _ => rfl)) (L.cl .e) (PL.pr .e trivial) PL.ok h2 PL.bn .nil pass0 rfl) (nomark _)) (pw_or1 (pt_cmpR op_ne (pv 13) (pe_callB (call_max2 rfl) (by rfl) B.max (by decide +kernel) (pa_cons pe_int (pa_cons (pe_op op_sub (pv 11) (pv 5)) pa_nil))) (nomark _))))) (pss_one (ps_ret pe_bl)) pss_nil)
      (pss_cons (ps_if (PW.pt (pw_or (pt_cmpR op_ne (pe_prop (pe_ix ix_list (pv 6) pe_int (fun _ _ => rfl)) (L.cl .g) (PR.pr .g rfl) PR.ok h2 PR.bn .nil pass0 rfl) (pe_prop (pe_ix ix_list (pv 6) pe_int (fun _ _ => rfl)) (L.cl .b) (PR.pr .b rfl) PR.ok h2 PR.bn .nil pass0 rfl) (nomark _)) (pw_or1 (PW.pt (pw_and (pt_val (pv 7)) (pw_and1 (pt_not (pt_val (pe_prop (pe_ix ix_list (pv 6) pe_int (fun _ _ => rfl)) (L.cl .b) (PR.pr .b rfl) PR.ok h2 PR.bn .nil pass0 rfl))))))))) (pss_one (ps_ret pe_bl)) pss_nil)
      (pss_cons (ps_if (PW.pt (pw_or (pt_cmpR op_ne (pv 12) (pe_ifExp (pt_val (pe_prop (pe_ix ix_list (pv 6) pe_int (fun _ _ => rfl)) (L.cl .g) (PR.pr .g rfl) PR.ok h2 PR.bn .nil pass0 rfl)) (pv 11) pe_int) (nomark _)) (pw_or1 (pt_cmpR op_ne (pv 14) (pe_ifExp (pt_val (pe_prop (pe_ix ix_list (pv 6) pe_int (fun _ _ => rfl)) (L.cl .b) (PR.pr .b rfl) PR.ok h2 PR.bn .nil pass0 rfl)) (pv 13) pe_int) (nomark _))))) (pss_one (ps_ret pe_bl)) pss_nil)
      (pss_cons (ps_set (i := 7) scLaw.nd rfl (Or.inl rfl) (pe_prop (pe_ix ix_list (pv 6) pe_int (fun _ _ => rfl)) (L.cl .b) (PR.pr .b rfl) PR.ok h2 PR.bn .nil pass0 rfl))
      (pss_cons (ps_set (i := 9) scLaw.nd rfl (Or.inr rfl) (pe_op op_mod (pe_ix ix_list (pv 2) (pe_op op_add pe_int (pv 8)) (fun _ _ => rfl)) (pe_op op_add (pv 14) pe_int)))
      (pss_one (ps_for PassesOwn.never rfl (pi_list (pv 6)) (pg_name (i := 10) scLaw.nd rfl (Or.inl rfl)) (pss_one (ps_expr (pe_ex fun k => pe_meth (pv 10) (L.cl k) (M.mtake k) (M.take k) hr (M.btake k) .nil passL (pa_cons (pv 9) pa_nil))))))))))))))))))))))))
      (pss_one (ps_ret (pe_cmpR op_eq (pe_meth0 (pe_makeN MK.kB MK.oB h6 (by rfl) MK.mB MK.bB passL (pa_cons pe_str (pa_cons pe_int (pa_cons pe_int pa_nil))) (pk_cons pe_int pk_nil)) (L.cl .b) (M.mfree .b) (M.free .b) h5 (M.bfree .b) .nil passL) pe_int (nomark _))))), ?_⟩
    refine ⟨8, rfl, by decide, by decide, for_range (lo := 0) (n := 8) (fun j σ H' => ∃ v1 v2 v3 v4 v5 v6 v7 v8 v9 v10 v11 v12 v13 v14 v15 : Option V, σ = [some (.ref a), v1, v2, v3, v4, v5, v6, v7, v8, v9, v10, v11, v12, v13, v14, v15] ∧ Same H H')
      ⟨none, none, none, none, none, none, none, none, none, none, none, none, none, none, none, rfl, Same.refl H⟩ ?_ ?_⟩
    · rintro j σ H0 hj ⟨v1, v2, v3, v4, v5, v6, v7, v8, v9, v10, v11, v12, v13, v14, v15, rfl, s0⟩
      refine ⟨_, rfl, _, rfl, a, ns, _, _, _, rfl, s0.seq hS, hlen, by omega, by omega, by decide, by decide, by decide, by decide, fun Dg ds H1 hDg h1 hdl hdb s1 => ?_⟩
      have dig : ∀ i : Nat, i < 60 → ∃ d : Int, atI (ds.map V.int) (i : Int) = some (.int d) ∧ 0 ≤ d := fun i hi => by
        have hi' : i < ds.length := by rw [hdl]; exact hi
        exact ⟨ds[i], atI_nat (by rw [List.getElem?_map, List.getElem?_eq_getElem hi']; rfl), (hdb _ (List.getElem_mem hi')).1⟩
      obtain ⟨d0, e0, d00⟩ := dig 0 (by decide)
      obtain ⟨d1, e1, d10⟩ := dig 1 (by decide)
      obtain ⟨d2, e2, d20⟩ := dig 2 (by decide)
      dsimp only [gName]
      refine st_seq (asg_int (v := 2 + d0 % 60) (fun c => 2 ≤ c ∧ c ≤ 61) (fun Q q => ⟨_, rfl, Dg, _, _, _, rfl, rfl, SqL.of h1, e0, _, _, rfl, rfl, (by show (0 : Int) < 60; decide), _, _, rfl, rfl, q⟩) (by omega) fun c hc => ?_)
      obtain ⟨c2, c61⟩ := hc
      have cp : (0 : Int) < c + 1 := by omega
      dsimp only
      refine st_seq (asg_pair (u := d1 % (c + 1)) (v := d2 % (c + 1)) (fun l g => 0 ≤ l ∧ l ≤ c ∧ 0 ≤ g ∧ g ≤ c) (fun Q q => ⟨_, rfl, Dg, _, _, _, rfl, rfl, SqL.of h1, e1, _, rfl, _, _, rfl, rfl, _, _, rfl, rfl, cp, q⟩) (fun Q q => ⟨_, rfl, Dg, _, _, _, rfl, rfl, SqL.of h1, e2, _, rfl, _, _, rfl, rfl, _, _, rfl, rfl, cp, q⟩)
        ⟨Int.emod_nonneg _ (Int.ne_of_gt cp), by have := Int.emod_lt_of_pos d1 cp; omega, Int.emod_nonneg _ (Int.ne_of_gt cp), by have := Int.emod_lt_of_pos d2 cp; omega⟩ fun l g T hlg hT => ?_)
      obtain ⟨l0, l1, g0, g1⟩ := hlg
      have sT : Same H1 (upd H1 T (.tup [.int l, .int g])) := fun b o e => by rw [upd_ne (ne_of_none e hT)]; exact e
      generalize upd H1 T (.tup [.int l, .int g]) = H2 at sT ⊢
      dsimp only
      refine ⟨4, rfl, by decide, by decide, fun D hD => ?_⟩
      refine lc_range (lo := 0) (n := 4) (fun i H' => ∃ x dx : Kd → Addr, H' D = some (.lst ((kds.take i).map fun k => V.ref (x k))) ∧ (∀ k, k.ix < i → IsAt C H' (x k) (dx k) k (ob "food" c l g) ∧ H2 (x k) = none) ∧ (∀ k k', k.ix < i → k'.ix < i → k ≠ k' → x k ≠ x k') ∧ Same H2 H') ?_ ?_ ?_
      · exact ⟨fun _ => D, fun _ => D, upd_same, fun k hk => absurd hk (Nat.not_lt_zero _), fun k k' hk => absurd hk (Nat.not_lt_zero _), fun b o e => by rw [upd_ne (ne_of_none e hD)]; exact e⟩
      · rintro i H3 hi ⟨x, dx, h3, h4, h5, s3⟩
        obtain ⟨k, hk1, hk2, hk3⟩ := kds_ix hi
        have gd : inR 1 1000000 (.int c) = true := by simp [inR]; omega
        have gl : inR 0 c (.int l) = true := by simp [inR]; omega
        have gg : inR 0 c (.int g) = true := by simp [inR]; omega
        have gn : isNm (.str "food") = true := by decide +kernel
        refine ⟨rfl, _, rfl, _, rfl, _, rfl, _, rfl, k, _, _, _, _, congrArg (fun z => [V.int z, .str "food", .int c, .int l, .int g]) hk3.symm, (show (Str.ofString "food").length ≤ sizeLine by decide +kernel), trivial, trivial, trivial, ?_, ?_, ?_⟩
        · intro z c' l' f' y dy H4 gd' hR hy h6 s4
          obtain ⟨q1, q2, q3, _⟩ := gd'
          cases q1
          cases q2
          cases q3
          have e6 : fl k (ob "food" c l f') = fl k (ob "food" c l g) := by
            cases hkr : k.isR with
            | false => exact fl_flo hkr _ _ _ _ _
            | true =>
              have := V.int.inj (hR hkr).1
              rw [this]
          refine ⟨_, s4 _ _ h3, ?_, fun k' => if k' = k then y else x k', fun k' => if k' = k then dy else dx k', ?_, ?_, ?_, ?_⟩
          · rw [List.length_map, List.length_take]
            exact small1000 (by omega)
          · rw [upd_same]
            rcases (show i = 0 ∨ i = 1 ∨ i = 2 ∨ i = 3 by omega) with rfl | rfl | rfl | rfl <;> cases k <;> first | exact absurd hk2 (by decide) | rfl
          · intro k' hk'
            dsimp only
            by_cases ek : k' = k
            · subst ek
              rw [if_pos rfl, if_pos rfl]
              refine ⟨?_, s3.free hy⟩
              show upd H4 D _ y = _
              rw [upd_ne (ne_of_none h3 hy).symm, h6, e6]
            · rw [if_neg ek, if_neg ek]
              have hlt : k'.ix < i := by
                have : k'.ix ≠ i := fun z => ek (ix_inj (z.trans hk2.symm))
                omega
              obtain ⟨h7, h8⟩ := h4 k' hlt
              refine ⟨?_, h8⟩
              show upd H4 D _ (x k') = _
              rw [upd_ne (ne_of h7 h3 (by intro z; cases z))]
              exact s4 _ _ h7
          · intro k1 k2 hk1' hk2' ne
            dsimp only
            have lt : ∀ k', ¬ k' = k → k'.ix < i + 1 → k'.ix < i := fun k' ek h => by
              have : k'.ix ≠ i := fun z => ek (ix_inj (z.trans hk2.symm))
              omega
            by_cases e1 : k1 = k
            · by_cases e2 : k2 = k
              · exact absurd (e1.trans e2.symm) ne
              · rw [if_pos e1, if_neg e2]
                exact (ne_of_none (h4 k2 (lt k2 e2 hk2')).1 hy).symm
            · by_cases e2 : k2 = k
              · rw [if_neg e1, if_pos e2]
                exact ne_of_none (h4 k1 (lt k1 e1 hk1')).1 hy
              · rw [if_neg e1, if_neg e2]
                exact h5 k1 k2 (lt k1 e1 hk1') (lt k2 e2 hk2') ne
          · intro b o e
            rw [upd_ne (ne_of_none e hD)]
            exact s4 _ _ (s3 _ _ e)
        · intro z c' l' H4 hR gd' e
          obtain ⟨_, q2, _⟩ := gd'
          cases q2
          rw [gg] at e
          cases e
        · refine ⟨fun e => ?_, fun _ e => ?_, fun c' _ e1 _ e => ?_⟩
          · rw [gn] at e; cases e
          · rw [gd] at e; cases e
          · cases e1
            rw [gl] at e; cases e
      · rintro H3 ⟨x, dx, h3, h4, h5, s3⟩
        have S4 : St4 C H3 D x dx (ob "food" c l g) := ⟨fun k => (h4 k (ix_lt k)).1, h3, fun k k' ne => h5 k k' (ix_lt k) (ix_lt k') ne⟩
        have xf : ∀ k, H (x k) = none := fun k => s0.free (s1.free (sT.free (h4 k (ix_lt k)).2))
        have sH : Same H H3 := s0.trans (s1.trans (sT.trans s3))
        have hDg3 : H3 Dg = some (.lst (ds.map V.int)) := s3 _ _ (sT _ _ h1)
        have okO : ObOk (ob "food" c l g) c g := ⟨rfl, rfl, l0, l1, g0⟩
        have itm : ∀ k : Kd, atI (refs x) ((k.ix : Nat) : Int) = some (V.ref (x k)) := fun k => atI_nat (refs_at x k)
        dsimp only [gName]
        refine ⟨_, rfl, D, _, _, _, rfl, rfl, SqL.of S4.lst, itm .b, _, _, _, _, true, rfl, .own _, J.ty L (S4.at_ .b), J.bg, _, rfl, iteF ?_⟩
        refine ⟨_, rfl, D, _, _, _, rfl, rfl, SqL.of S4.lst, itm .b, _, _, _, _, true, rfl, .own _, J.ty L (S4.at_ .b), J.br, _, rfl, iteF ?_⟩
        refine ⟨_, rfl, D, _, _, _, rfl, rfl, SqL.of S4.lst, itm .b, _, _, _, _, true, rfl, .own _, J.ty L (S4.at_ .b), J.be, _, rfl, iteF ?_⟩
        refine ⟨_, rfl, D, _, _, _, rfl, rfl, SqL.of S4.lst, itm .g, _, _, _, _, false, rfl, .own _, J.ty L (S4.at_ .g), J.gr, _, rfl, iteF ?_⟩
        refine ⟨_, rfl, D, _, _, _, rfl, rfl, SqL.of S4.lst, itm .r, _, _, _, _, false, rfl, .own _, J.ty L (S4.at_ .r), J.rg, _, rfl, iteF ?_⟩
        refine ⟨_, rfl, D, _, _, _, rfl, rfl, SqL.of S4.lst, itm .e, _, _, _, _, false, rfl, .own _, J.ty L (S4.at_ .e), J.eg, _, rfl, iteF ?_⟩
        refine ⟨_, rfl, D, _, _, _, rfl, rfl, SqL.of S4.lst, itm .b, x .b, dx .b, _, rfl, S4.at_ .b, x .b, dx .b, .b, _, _, rfl, S4.at_ .b, fl_done _ rfl, ?_⟩
        dsimp only [gName]
        refine ⟨20, rfl, by decide, by decide, for_range (lo := 0) (n := 20) (fun i σ H' => ∃ (o : Ob) (v8 v9 v10 v11 v12 v13 v14 : Option V), σ = [some (.ref a), some (.int (0 + (j : Int))), some (.ref Dg), some (.int c), some (.int l), some (.int g), some (.ref D), some (.bl o.done), v8, v9, v10, v11, v12, v13, v14, v15] ∧
          St4 C H' D x dx o ∧ ObOk o c g ∧ H' Dg = some (.lst (ds.map V.int)) ∧ Same H H') ?_ ?_ ?_⟩
        · exact ⟨_, _, _, _, _, _, _, _, rfl, S4, okO, hDg3, sH⟩
        · rintro i σ H4 hi ⟨o, v8, v9, v10, v11, v12, v13, v14, rfl, S, ok, hDg4, s4⟩
          have digz : ∀ z : Int, 0 ≤ z → z < 60 → ∃ d : Int, atI (ds.map V.int) z = some (.int d) ∧ 0 ≤ d := fun z z0 z1 => by
            obtain ⟨d, e, d0⟩ := dig z.toNat (by omega)
            rw [show ((z.toNat : Nat) : Int) = z by omega] at e
            exact ⟨d, e, d0⟩
          obtain ⟨da, ea, _⟩ := digz (10 + (0 + (i : Int))) (by omega) (by omega)
          obtain ⟨db, eb, _⟩ := digz (30 + (0 + (i : Int))) (by omega) (by omega)
          have m3 : (0 : Int) < 1 + c / 3 := by omega
          dsimp only [gName]
          refine st_seq (asg_int (v := da % (1 + c / 3)) (fun n => 0 ≤ n ∧ n ≤ 100) (fun Q q => ⟨_, rfl, _, rfl, _, _, rfl, rfl, Dg, _, _, _, rfl, rfl, SqL.of hDg4, ea, _, rfl, _, _, rfl, rfl, ⟨by decide, by decide⟩, _, _, rfl, rfl, _, _, rfl, rfl, m3, q⟩)
            ⟨Int.emod_nonneg _ (Int.ne_of_gt m3), by have := Int.emod_lt_of_pos da m3; omega⟩ fun n hn => ?_)
          obtain ⟨n0, n1⟩ := hn
          dsimp only
          have inn : inR 0 1000000000 (.int n) = true := by simp [inR]; omega
          have xD : ∀ k, D ≠ x k := fun k => ne_of S.lst (S.at_ k) (by intro z; cases z)
          have xDg : ∀ k, Dg ≠ x k := fun k => ne_of hDg4 (S.at_ k) (by intro z; cases z)
          refine ⟨_, rfl, D, rfl, ⟨_, SqL.of S.lst⟩, fun L1 hL1 => ?_⟩
          have xL1 : ∀ k, L1 ≠ x k := fun k z => by rw [z, S.at_ k] at hL1; cases hL1
          refine lc_list (K := K) (a := D) (xs := refs x) (fun i H' => H' L1 = some (.lst (List.replicate i (V.int (n - o.added n)))) ∧ (∀ k, IsAt C H' (x k) (dx k) k (if k.ix < i then o.put .b n else o)) ∧ ∀ b u, H4 b = some u → (∀ k, b ≠ x k) → H' b = some u) ?_ ?_ ?_ ?_
          · refine ⟨upd_same, fun k => ?_, fun b u e _ => ?_⟩
            · show upd H4 L1 _ (x k) = _
              rw [upd_ne (xL1 k).symm, if_neg (Nat.not_lt_zero _)]
              exact S.at_ k
            · rw [upd_ne (ne_of_none e hL1)]
              exact e
          · rintro i H5 _ ⟨_, _, h7⟩
            exact SqL.of (h7 D _ S.lst xD)
          · rintro i v H5 hv ⟨h5, h6, h7⟩
            obtain ⟨k, hk, rfl⟩ := refs_of hv
            have ha : IsAt C H5 (x k) (dx k) k o := by
              have := h6 k
              rw [if_neg (by omega)] at this
              exact this
            refine ⟨rfl, k, _, rfl, x k, dx k, _, rfl, ha, fl_no k o (by decide +kernel), _, rfl, x k, dx k, o, _, rfl, ha, trivial, fun n' e _ => ?_, fun e => by rw [inn] at e; cases e⟩
            cases e
            refine ⟨_, by rw [upd_ne (xL1 k)]; exact h5, by rw [List.length_replicate]; exact small1000 (by have := ix_lt k; omega), ?_, fun k' => ?_, fun b u e nb => ?_⟩
            · rw [upd_same, List.replicate_succ']
            · show upd (upd H5 (x k) _) L1 _ (x k') = _
              rw [upd_ne (xL1 k').symm]
              exact step4 hk S.ne h6 (fl_put k o n) k'
            · rw [upd_ne (fun z => by rw [z, hL1] at e; cases e), upd_ne (nb k)]
              exact h7 b u e nb
          · rintro H5 ⟨h5, h6, h7⟩
            have S5 : St4 C H5 D x dx (o.put .b n) := ⟨fun k => by have := h6 k; rw [if_pos (show k.ix < (refs x).length from ix_lt k)] at this; exact this, h7 D _ S.lst xD, S.ne⟩
            have ok5 := put_ok ok n0 .b
            have hDg5 := h7 Dg _ hDg4 xDg
            have s5 : Same H H5 := fun b u e => h7 b u (s4 b u e) fun k => ne_of_none e (xf k)
            have don : o.done = true → (o.put .b n).done = true := fun e => by
              show (if _ then true else o.done) = true
              split
              · rfl
              · exact e
            refine ⟨L1, _, 3, rfl, SqL.of h5, by decide, rfl, _, rfl, iteF ?_⟩
            generalize o.put .b n = o1 at *
            refine ⟨_, rfl, D, rfl, ⟨_, SqL.of S5.lst⟩, fun L2 hL2 => ?_⟩
            refine lc_list (K := K) (a := D) (xs := refs x) (fun i H' => H' L2 = some (.lst (List.replicate i (V.int o1.lev))) ∧ Same H5 H') ⟨upd_same, fun b u e => by rw [upd_ne (ne_of_none e hL2)]; exact e⟩ (fun i H6 _ p => SqL.of (p.2 _ _ S5.lst)) ?_ ?_
            · rintro i v H6 hv ⟨h8, h9⟩
              obtain ⟨k, hk, rfl⟩ := refs_of hv
              have ha := h9 _ _ (S5.at_ k)
              refine ⟨rfl, k, _, rfl, x k, dx k, _, rfl, ha, x k, dx k, k, _, _, rfl, ha, fl_held k o1, _, h8, by rw [List.length_replicate]; exact small1000 (by have := ix_lt k; omega), ?_, fun b u e => ?_⟩
              · rw [upd_same, List.replicate_succ']
              · rw [upd_ne (ne_of_none e hL2)]
                exact h9 b u e
            rintro H6 ⟨h8, h9⟩
            refine ⟨L2, _, 3, rfl, SqL.of h8, by decide, rfl, _, rfl, iteF ?_⟩
            have S6 : St4 C H6 D x dx o1 := ⟨fun k => h9 _ _ (S5.at_ k), h9 _ _ S5.lst, S5.ne⟩
            have hDg6 := h9 _ _ hDg5
            have s6 : Same H H6 := s5.trans h9
            refine ⟨_, rfl, D, rfl, ⟨_, SqL.of S6.lst⟩, fun L3 hL3 => ?_⟩
            refine lc_list (K := K) (a := D) (xs := refs x) (fun i H' => H' L3 = some (.lst ((kds.take i).map fun k => V.int (o1.free k))) ∧ Same H6 H') ⟨upd_same, fun b u e => by rw [upd_ne (ne_of_none e hL3)]; exact e⟩ (fun i H7 _ p => SqL.of (p.2 _ _ S6.lst)) ?_ ?_
            · rintro i v H7 hv ⟨ha1, ha2⟩
              obtain ⟨k, hk, rfl⟩ := refs_of hv
              have ha := ha2 _ _ (S6.at_ k)
              refine ⟨rfl, k, _, rfl, x k, dx k, _, rfl, ha, fl_no k o1 (by decide +kernel), x k, dx k, o1, rfl, ha, _, ha1, ?_, ?_, fun b u e => ?_⟩
              · rw [List.length_map, List.length_take]
                exact small1000 (by have := ix_lt k; omega)
              · rw [upd_same]
                subst hk
                cases k <;> rfl
              · rw [upd_ne (ne_of_none e hL3)]
                exact ha2 b u e
            rintro H7 ⟨ha1, ha2⟩
            have S7 : St4 C H7 D x dx o1 := ⟨fun k => ha2 _ _ (S6.at_ k), ha2 _ _ S6.lst, S6.ne⟩
            have hDg7 := ha2 _ _ hDg6
            have s7 : Same H H7 := s6.trans ha2
            refine ⟨L3, _, rfl, SqL.of ha1, rfl, _, _, rfl, _, _, rfl, _, _, rfl, _, _, rfl, rfl, ?_⟩
            dsimp only
            refine ⟨_, rfl, _, rfl, D, _, _, _, rfl, rfl, SqL.of S7.lst, itm .e, x .e, dx .e, _, rfl, S7.at_ .e, x .e, dx .e, .e, _, _, rfl, S7.at_ .e, fl_held .e o1, rfl, _, rfl, ?_⟩
            refine iteB (b := false) (by rw [decide_eq_true (show V.int (o1.free .e) = V.int o1.lev from rfl)]; rfl) (iteF ?_)
            refine ⟨_, rfl, _, rfl, _, rfl, _, _, rfl, rfl, _, _, rfl, rfl, _, rfl, ?_⟩
            refine iteB (b := false) (by rw [decide_eq_true (show V.int (o1.free .r) = V.int (if o1.free .e - g > 0 then o1.free .e - g else 0) by rw [← ok5.flo]; rfl)]; rfl) (iteF ?_)
            refine ⟨_, rfl, D, _, _, _, rfl, rfl, SqL.of S7.lst, itm .g, x .g, dx .g, _, rfl, S7.at_ .g, x .g, dx .g, .g, _, _, rfl, S7.at_ .g, fl_done o1 rfl, _, rfl, D, _, _, _, rfl, rfl, SqL.of S7.lst, itm .b, x .b, dx .b, _, rfl, S7.at_ .b, x .b, dx .b, .b, _, _, rfl, S7.at_ .b, fl_done o1 rfl, rfl, _, rfl, ?_⟩
            refine iteB (b := false) (by rw [decide_eq_true rfl]; rfl) (iteF ?_)
            refine ⟨_, rfl, _, rfl, ?_⟩
            refine ite_same ?_ (fun hd r => ⟨_, rfl, D, _, _, _, rfl, rfl, SqL.of S7.lst, itm .b, x .b, dx .b, _, rfl, S7.at_ .b, x .b, dx .b, .b, _, _, rfl, S7.at_ .b, fl_done o1 rfl, _, rfl, iteB (b := false) (by rw [don hd]; rfl) (iteF r)⟩) (fun hd r => iteF r)
            refine ⟨_, rfl, _, rfl, D, _, _, _, rfl, rfl, SqL.of S7.lst, itm .g, x .g, dx .g, _, rfl, S7.at_ .g, x .g, dx .g, .g, _, _, rfl, S7.at_ .g, fl_done o1 rfl, _, rfl, ?_⟩
            refine ite_same ?_ (fun hd r => ⟨_, rfl, rfl, _, rfl, iteB (b := false) (by rw [decide_eq_true (show V.int (o1.free .g) = V.int (o1.free .e) by simp [Ob.free, hd])]; rfl) (iteF r)⟩)
              (fun hd r => ⟨rfl, _, rfl, iteB (b := false) (by rw [decide_eq_true (show V.int (o1.free .g) = V.int 0 by simp [Ob.free, hd])]; rfl) (iteF r)⟩)
            refine ⟨_, rfl, _, rfl, D, _, _, _, rfl, rfl, SqL.of S7.lst, itm .b, x .b, dx .b, _, rfl, S7.at_ .b, x .b, dx .b, .b, _, _, rfl, S7.at_ .b, fl_done o1 rfl, _, rfl, ?_⟩
            refine ite_same ?_ (fun hd r => ⟨_, rfl, rfl, _, rfl, iteB (b := false) (by rw [decide_eq_true (show V.int (o1.free .b) = V.int (o1.free .r) by simp [Ob.free, hd])]; rfl) (iteF r)⟩)
              (fun hd r => ⟨rfl, _, rfl, iteB (b := false) (by rw [decide_eq_true (show V.int (o1.free .b) = V.int 0 by simp [Ob.free, hd])]; rfl) (iteF r)⟩)
            refine ⟨_, rfl, D, _, _, _, rfl, rfl, SqL.of S7.lst, itm .b, x .b, dx .b, _, rfl, S7.at_ .b, x .b, dx .b, .b, _, _, rfl, S7.at_ .b, fl_done o1 rfl, ?_⟩
            dsimp only [gName]
            have fb := (free_le ok5 .b).1
            have m4 : (0 : Int) < o1.free .b + 1 := by omega
            refine st_seq (asg_int (v := db % (o1.free .b + 1)) (fun m => 0 ≤ m ∧ m ≤ o1.free .b) (fun Q q => ⟨_, rfl, _, rfl, _, _, rfl, rfl, Dg, _, _, _, rfl, rfl, SqL.of hDg7, eb, _, rfl, _, _, rfl, rfl, _, _, rfl, rfl, m4, q⟩)
              ⟨Int.emod_nonneg _ (Int.ne_of_gt m4), by have := Int.emod_lt_of_pos db m4; omega⟩ fun m hm => ?_)
            obtain ⟨m0, m1⟩ := hm
            dsimp only
            have fle := free_le ok5
            have inm : inR 0 1000000000 (.int m) = true := by
              have h1 := fle .e
              have h2 := ok5.l1
              simp [inR]
              omega
            refine ⟨_, rfl, D, rfl, ⟨_, SqL.of S7.lst⟩, for_list (K := K) (a := D) (xs := refs x) (fun i' σ H' => ∃ v10 : Option V, σ = [some (.ref a), some (.int (0 + (j : Int))), some (.ref Dg), some (.int c), some (.int l), some (.int g), some (.ref D), some (.bl o1.done), some (.int (0 + (i : Int))), some (.int m), v10, some (.int (o1.free .e)), some (.int (o1.free .g)), some (.int (o1.free .r)), some (.int (o1.free .b)), v15] ∧
              (∀ k, IsAt C H' (x k) (dx k) k (if k.ix < i' then o1.took m else o1)) ∧ ∀ b u, H7 b = some u → (∀ k, b ≠ x k) → H' b = some u) ?_ ?_ ?_ ?_⟩
            · refine ⟨_, rfl, fun k => ?_, fun b u e _ => e⟩
              rw [if_neg (Nat.not_lt_zero _)]
              exact S7.at_ k
            · rintro i' σ H8 _ ⟨_, _, _, h8⟩
              exact SqL.of (h8 D _ S7.lst xD)
            · rintro i' v σ H8 hv ⟨v10', rfl, hb1, hb2⟩
              obtain ⟨k, hk, rfl⟩ := refs_of hv
              have ha : IsAt C H8 (x k) (dx k) k o1 := by
                have := hb1 k
                rw [if_neg (by omega)] at this
                exact this
              have fk := fle k
              have l61 := ok5.l1
              refine ⟨k, _, rfl, x k, dx k, _, rfl, ha, fl_no k o1 (by decide +kernel), _, rfl, x k, dx k, o1, _, rfl, ha, trivial, by omega, by omega, fun n' e _ _ => ?_, fun n' e _ z => ?_, fun e => by rw [inm] at e; cases e⟩
              · cases e
                refine ⟨_, rfl, step4 hk S7.ne hb1 rfl, fun b u e nb => ?_⟩
                rw [upd_ne (nb k)]
                exact hb2 b u e nb
              · cases e
                omega
            · rintro σ H8 ⟨v10', rfl, hb1, hb2⟩
              refine ⟨o1.took m, _, _, _, _, _, _, _, rfl, ⟨fun k => ?_, hb2 D _ S7.lst xD, S7.ne⟩, took_ok ok5 m0 m1, hb2 Dg _ hDg7 xDg, fun b u e => hb2 b u (s7 b u e) fun k => ne_of_none e (xf k)⟩
              have := hb1 k
              rw [if_pos (show k.ix < (refs x).length from ix_lt k)] at this
              exact this
        · rintro σ H4 ⟨o, v8, v9, v10, v11, v12, v13, v14, rfl, _, _, _, s4⟩
          exact ⟨_, _, _, _, _, _, _, _, _, _, _, _, _, _, _, rfl, s4⟩
    · rintro σ H0 ⟨v1, v2, v3, v4, v5, v6, v7, v8, v9, v10, v11, v12, v13, v14, v15, rfl, s0⟩
      refine ⟨rfl, rfl, fun x dx hx hd ne => ?_⟩
      rw [MK.eB]
      have gn : isNm (.str "car") = true := by decide +kernel
      refine ⟨x, dx, _, _, _, _, rfl, upd_same, (show (Str.ofString "car").length ≤ sizeLine by decide +kernel), trivial, trivial, trivial, fun z c l f H1 gd ef _ _ h1 _ => ⟨rfl, ?_⟩, fun z c l H1 gd e => ?_, fun e => ?_, fun _ e => ?_, fun c _ e1 _ e => ?_⟩
      · obtain ⟨q1, q2, q3, _⟩ := gd
        cases q1
        cases q2
        cases q3
        cases ef
        refine ⟨x, dx, _, rfl, h1, fl_no .b _ (by decide +kernel), x, dx, _, rfl, h1, rfl, ?_⟩
        exact q H1
      · obtain ⟨_, q2, _⟩ := gd
        cases q2
        exact absurd e (by decide)
      · rw [gn] at e; cases e
      · exact absurd e (by decide)
      · cases e1
        exact absurd e (by decide)
end
end Ev
namespace Ev
open PySem PySem.Spec PyProof.Rows L2 NdefX ClX Sx
theorem all_mk {l : PySem.W.OpenLaw} {w : World} {K : PySem.W.Frag} {h : Heap} {mg : Str → Option Value} {fa : Addr} (X : K.In h) (G : h.Ns mainGlobals mg) (hfa : mg "law" = some (.ref fa)) (htop : (l.prog.main.scope.names.lookup ("super" : Str)).isSome = false)
    {CE CG CR CB fa2 : Addr}
    {tA tN tL : Tok}
    {XN : Addr}
    {XC : Addr}
    {XL : Addr}
    {XF : Addr}
    {XA : Addr}
    {XE : Addr}
    {fRg fCk fCell fDig fMade : Addr}
    {ocRg kVRg docRg pmRg cdRg ctRg : Value}
    {odRg anRg : Option Addr}
    {slRg : Array (Option Value)}
    {ocCk kVCk docCk pmCk cdCk ctCk : Value}
    {odCk anCk : Option Addr}
    {slCk : Array (Option Value)}
    {pCap fCap : Addr}
    {rCap : List Value}
    {pLev fLev : Addr}
    {rLev : List Value}
    {pRoo fRoo : Addr}
    {rRoo : List Value}
    {pRea fRea : Addr}
    {rRea : List Value}
    {pFlo fFlo : Addr}
    {rFlo : List Value}
    {ocCap kVCap docCap pmCap cdCap ctCap : Value}
    {odCap anCap : Option Addr}
    {slCap : Array (Option Value)}
    {ocLev kVLev docLev pmLev cdLev ctLev : Value}
    {odLev anLev : Option Addr}
    {slLev : Array (Option Value)}
    {ocRoo kVRoo docRoo pmRoo cdRoo ctRoo : Value}
    {odRoo anRoo : Option Addr}
    {slRoo : Array (Option Value)}
    {ocRea kVRea docRea pmRea cdRea ctRea : Value}
    {odRea anRea : Option Addr}
    {slRea : Array (Option Value)}
    {ocFlo kVFlo docFlo pmFlo cdFlo ctFlo : Value}
    {odFlo anFlo : Option Addr}
    {slFlo : Array (Option Value)}
    {fFE fFG fFR fFB fPE fPG fTk fCT fSF fIE fIG fIR fIB : Addr}
    {ocFE kVFE docFE pmFE cdFE ctFE : Value}
    {odFE anFE : Option Addr}
    {slFE : Array (Option Value)}
    {ocFG kVFG docFG pmFG cdFG ctFG : Value}
    {odFG anFG : Option Addr}
    {slFG : Array (Option Value)}
    {ocFR kVFR docFR pmFR cdFR ctFR : Value}
    {odFR anFR : Option Addr}
    {slFR : Array (Option Value)}
    {ocFB kVFB docFB pmFB ctFB : Value}
    {odFB anFB : Option Addr}
    {slFB : Array (Option Value)}
    {ccFB coFB : Addr}
    {clFB cclFB : Value}
    {cldFB cddFB : Option Addr}
    {cslFB ccsFB : Array (Option Value)}
    {vsFB : Array Value}
    {fiFB : Str}
    {tfFB : Tok}
    {ocPE kVPE docPE pmPE cdPE ctPE : Value}
    {odPE anPE : Option Addr}
    {slPE : Array (Option Value)}
    {ocPG kVPG docPG pmPG ctPG : Value}
    {odPG anPG : Option Addr}
    {slPG : Array (Option Value)}
    {ccPG coPG : Addr}
    {clPG cclPG : Value}
    {cldPG cddPG : Option Addr}
    {cslPG ccsPG : Array (Option Value)}
    {vsPG : Array Value}
    {fiPG : Str}
    {tfPG : Tok}
    {ocTk kVTk docTk pmTk cdTk ctTk : Value}
    {odTk anTk : Option Addr}
    {slTk : Array (Option Value)}
    {ocCT kVCT docCT pmCT cdCT ctCT : Value}
    {odCT anCT : Option Addr}
    {slCT : Array (Option Value)}
    {ocSF kVSF docSF pmSF cdSF ctSF : Value}
    {odSF anSF : Option Addr}
    {slSF : Array (Option Value)}
    {TE : Addr}
    {tcE : Value}
    {tdE : Option Addr}
    {ttE : Tok}
    {tnE : Nat}
    {tsE : Array (Option Value)}
    {ocIE kVIE docIE pmIE cdIE ctIE : Value}
    {odIE anIE : Option Addr}
    {slIE : Array (Option Value)}
    {TG : Addr}
    {tcG : Value}
    {tdG : Option Addr}
    {ttG : Tok}
    {tnG : Nat}
    {tsG : Array (Option Value)}
    {ocIG kVIG docIG pmIG ctIG : Value}
    {odIG anIG : Option Addr}
    {slIG : Array (Option Value)}
    {ccIG coIG : Addr}
    {clIG cclIG : Value}
    {cldIG cddIG : Option Addr}
    {cslIG ccsIG : Array (Option Value)}
    {vsIG : Array Value}
    {fiIG : Str}
    {tfIG : Tok}
    {TR : Addr}
    {tcR : Value}
    {tdR : Option Addr}
    {ttR : Tok}
    {tnR : Nat}
    {tsR : Array (Option Value)}
    {DR : Addr}
    {tkR : Tok}
    {ocIR docIR pmIR ctIR : Value}
    {odIR anIR : Option Addr}
    {slIR : Array (Option Value)}
    {ccIR coIR : Addr}
    {clIR cclIR : Value}
    {cldIR cddIR : Option Addr}
    {cslIR ccsIR : Array (Option Value)}
    {vsIR : Array Value}
    {fiIR : Str}
    {tfIR : Tok}
    {TB : Addr}
    {tcB : Value}
    {tdB : Option Addr}
    {ttB : Tok}
    {tnB : Nat}
    {tsB : Array (Option Value)}
    {DB : Addr}
    {tkB : Tok}
    {ocIB docIB pmIB ctIB : Value}
    {odIB anIB : Option Addr}
    {slIB : Array (Option Value)}
    {ccIB coIB : Addr}
    {clIB cclIB : Value}
    {cldIB cddIB : Option Addr}
    {cslIB ccsIB : Array (Option Value)}
    {vsIB : Array Value}
    {fiIB : Str}
    {tfIB : Tok}
    {pN fN : Addr}
    {mc : Value}
    {rN : List Value}
    {tg : Tok}
    {ocN kVN docN pmN cdN ctN : Value}
    {odN anN : Option Addr}
    {slN : Array (Option Value)}
    {ocCell kVCell docCell pmCell cdCell ctCell : Value}
    {odCell anCell : Option Addr}
    {slCell : Array (Option Value)}
    {ocDig kVDig docDig pmDig cdDig ctDig : Value}
    {odDig anDig : Option Addr}
    {slDig : Array (Option Value)}
    {ocMade kVMade docMade pmMade cdMade ctMade : Value}
    {odMade anMade : Option Addr}
    {slMade : Array (Option Value)}
    {ocLaw kVLaw docLaw pmLaw cdLaw ctLaw : Value}
    {odLaw anLaw : Option Addr}
    {slLaw : Array (Option Value)}
    (a_Envelope : PySem.W.nsIn K mainGlobals "Envelope" = some (some (.ref CE)))
    (a_Goal : PySem.W.nsIn K mainGlobals "Goal" = some (some (.ref CG)))
    (a_Reserve : PySem.W.nsIn K mainGlobals "Reserve" = some (some (.ref CR)))
    (a_GoalReserve : PySem.W.nsIn K mainGlobals "GoalReserve" = some (some (.ref CB)))
    (z_isinstance : PySem.W.nsIn K mainGlobals "isinstance" = some none)
    (z_int : PySem.W.nsIn K mainGlobals "int" = some none)
    (z_bool : PySem.W.nsIn K mainGlobals "bool" = some none)
    (z_str : PySem.W.nsIn K mainGlobals "str" = some none)
    (z_len : PySem.W.nsIn K mainGlobals "len" = some none)
    (z_all : PySem.W.nsIn K mainGlobals "all" = some none)
    (z_min : PySem.W.nsIn K mainGlobals "min" = some none)
    (z_max : PySem.W.nsIn K mainGlobals "max" = some none)
    (z_range : PySem.W.nsIn K mainGlobals "range" = some none)
    (z_super : PySem.W.nsIn K mainGlobals "super" = some none)
    (z_set : PySem.W.nsIn K mainGlobals "set" = some none)
    (a_LARGEST_AMOUNT : PySem.W.nsIn K mainGlobals "LARGEST_AMOUNT" = some (some (.int 1000000000 tA)))
    (a_LONGEST_NAME : PySem.W.nsIn K mainGlobals "LONGEST_NAME" = some (some (.int 8 tN)))
    (a_LETTERS : PySem.W.nsIn K mainGlobals "LETTERS" = some (some (.str letters tL)))
    (a_InvalidName : PySem.W.nsIn K mainGlobals "InvalidName" = some (some (.ref XN)))
    (x1XN : PySem.W.excIn K XN [.type "ValueError", .type "Exception", .type "BaseException", .type "object"] "ValueError.__new__" = true)
    (x2XN : PySem.W.keepIn K (.ref XN) = true)
    (x3XN : PySem.W.subIn K (.ref XN) (.type "BaseException") = some true)
    (x4XN : PySem.W.typeIn K (.ref XN) = some (.type "type"))
    (a_InvalidCap : PySem.W.nsIn K mainGlobals "InvalidCap" = some (some (.ref XC)))
    (x1XC : PySem.W.excIn K XC [.type "ValueError", .type "Exception", .type "BaseException", .type "object"] "ValueError.__new__" = true)
    (x2XC : PySem.W.keepIn K (.ref XC) = true)
    (x3XC : PySem.W.subIn K (.ref XC) (.type "BaseException") = some true)
    (x4XC : PySem.W.typeIn K (.ref XC) = some (.type "type"))
    (a_InvalidLevel : PySem.W.nsIn K mainGlobals "InvalidLevel" = some (some (.ref XL)))
    (x1XL : PySem.W.excIn K XL [.type "ValueError", .type "Exception", .type "BaseException", .type "object"] "ValueError.__new__" = true)
    (x2XL : PySem.W.keepIn K (.ref XL) = true)
    (x3XL : PySem.W.subIn K (.ref XL) (.type "BaseException") = some true)
    (x4XL : PySem.W.typeIn K (.ref XL) = some (.type "type"))
    (a_InvalidFloor : PySem.W.nsIn K mainGlobals "InvalidFloor" = some (some (.ref XF)))
    (x1XF : PySem.W.excIn K XF [.type "ValueError", .type "Exception", .type "BaseException", .type "object"] "ValueError.__new__" = true)
    (x2XF : PySem.W.keepIn K (.ref XF) = true)
    (x3XF : PySem.W.subIn K (.ref XF) (.type "BaseException") = some true)
    (x4XF : PySem.W.typeIn K (.ref XF) = some (.type "type"))
    (a_InvalidAmount : PySem.W.nsIn K mainGlobals "InvalidAmount" = some (some (.ref XA)))
    (x1XA : PySem.W.excIn K XA [.type "ValueError", .type "Exception", .type "BaseException", .type "object"] "ValueError.__new__" = true)
    (x2XA : PySem.W.keepIn K (.ref XA) = true)
    (x3XA : PySem.W.subIn K (.ref XA) (.type "BaseException") = some true)
    (x4XA : PySem.W.typeIn K (.ref XA) = some (.type "type"))
    (a_NotEnough : PySem.W.nsIn K mainGlobals "NotEnough" = some (some (.ref XE)))
    (x1XE : PySem.W.excIn K XE [.type "ValueError", .type "Exception", .type "BaseException", .type "object"] "ValueError.__new__" = true)
    (x2XE : PySem.W.keepIn K (.ref XE) = true)
    (x3XE : PySem.W.subIn K (.ref XE) (.type "BaseException") = some true)
    (x4XE : PySem.W.typeIn K (.ref XE) = some (.type "type"))
    (q1CE : PySem.W.plainGet K CE Str.empty = true)
    (q2CE : PySem.W.hasDictIn K CE = true)
    (q3CE : PySem.W.plainOver K CE = true)
    (q4CE : PySem.W.findIn K (.ref CE) "__setattr__" = some (some (.builtin "object.__setattr__")))
    (q_labelCE : PySem.W.findIn K (.ref CE) "label" = some none)
    (q_mostCE : PySem.W.findIn K (.ref CE) "most" = some none)
    (q_heldCE : PySem.W.findIn K (.ref CE) "held" = some none)
    (q_doneCE : PySem.W.findIn K (.ref CE) "done" = some none)
    (q_keptCE : PySem.W.findIn K (.ref CE) "kept" = some none)
    (q1CG : PySem.W.plainGet K CG Str.empty = true)
    (q2CG : PySem.W.hasDictIn K CG = true)
    (q3CG : PySem.W.plainOver K CG = true)
    (q4CG : PySem.W.findIn K (.ref CG) "__setattr__" = some (some (.builtin "object.__setattr__")))
    (q_labelCG : PySem.W.findIn K (.ref CG) "label" = some none)
    (q_mostCG : PySem.W.findIn K (.ref CG) "most" = some none)
    (q_heldCG : PySem.W.findIn K (.ref CG) "held" = some none)
    (q_doneCG : PySem.W.findIn K (.ref CG) "done" = some none)
    (q_keptCG : PySem.W.findIn K (.ref CG) "kept" = some none)
    (q1CR : PySem.W.plainGet K CR Str.empty = true)
    (q2CR : PySem.W.hasDictIn K CR = true)
    (q3CR : PySem.W.plainOver K CR = true)
    (q4CR : PySem.W.findIn K (.ref CR) "__setattr__" = some (some (.builtin "object.__setattr__")))
    (q_labelCR : PySem.W.findIn K (.ref CR) "label" = some none)
    (q_mostCR : PySem.W.findIn K (.ref CR) "most" = some none)
    (q_heldCR : PySem.W.findIn K (.ref CR) "held" = some none)
    (q_doneCR : PySem.W.findIn K (.ref CR) "done" = some none)
    (q_keptCR : PySem.W.findIn K (.ref CR) "kept" = some none)
    (q1CB : PySem.W.plainGet K CB Str.empty = true)
    (q2CB : PySem.W.hasDictIn K CB = true)
    (q3CB : PySem.W.plainOver K CB = true)
    (q4CB : PySem.W.findIn K (.ref CB) "__setattr__" = some (some (.builtin "object.__setattr__")))
    (q_labelCB : PySem.W.findIn K (.ref CB) "label" = some none)
    (q_mostCB : PySem.W.findIn K (.ref CB) "most" = some none)
    (q_heldCB : PySem.W.findIn K (.ref CB) "held" = some none)
    (q_doneCB : PySem.W.findIn K (.ref CB) "done" = some none)
    (q_keptCB : PySem.W.findIn K (.ref CB) "kept" = some none)
    (a_in_range : PySem.W.nsIn K mainGlobals "in_range" = some (some (.ref fRg)))
    (a_check_amount : PySem.W.nsIn K mainGlobals "check_amount" = some (some (.ref fCk)))
    (a_law_cell : PySem.W.nsIn K mainGlobals "_law_cell" = some (some (.ref fCell)))
    (a_law_digits : PySem.W.nsIn K mainGlobals "_law_digits" = some (some (.ref fDig)))
    (a_law_made : PySem.W.nsIn K mainGlobals "_law_made" = some (some (.ref fMade)))
    (a_law : PySem.W.nsIn K mainGlobals "law" = some (some (.ref fa2)))
    (lRg : K.lookup fRg = some ⟨ocRg, odRg, .func (PySem.W.fnOf "in_range" "in_range" (defArgs sRange) (defBody sRange) (defScope sRange) .none kVRg docRg pmRg anRg cdRg ctRg), slRg⟩)
    (cRg : PySem.W.codeIn K cdRg "in_range" = true)
    (kRg : PySem.W.keepIn K (.ref fRg) = true)
    (lCk : K.lookup fCk = some ⟨ocCk, odCk, .func (PySem.W.fnOf "check_amount" "check_amount" (defArgs sCheck) (defBody sCheck) (defScope sCheck) .none kVCk docCk pmCk anCk cdCk ctCk), slCk⟩)
    (cCk : PySem.W.codeIn K cdCk "check_amount" = true)
    (kCk : PySem.W.keepIn K (.ref fCk) = true)
    (p1CapCE : PySem.W.findIn K (.ref CE) "cap" = some (some (.ref pCap)))
    (p1CapCG : PySem.W.findIn K (.ref CG) "cap" = some (some (.ref pCap)))
    (p1CapCR : PySem.W.findIn K (.ref CR) "cap" = some (some (.ref pCap)))
    (p1CapCB : PySem.W.findIn K (.ref CB) "cap" = some (some (.ref pCap)))
    (p2Cap : PySem.W.specialIn K (.ref pCap) "__get__" = some (some (.builtin "property.__get__")))
    (p3Cap : PySem.W.takesIn K (.ref pCap) = some true)
    (p4Cap : PySem.W.recIn K pCap "property" = some (.ref fCap :: rCap))
    (p1LevCE : PySem.W.findIn K (.ref CE) "level" = some (some (.ref pLev)))
    (p1LevCG : PySem.W.findIn K (.ref CG) "level" = some (some (.ref pLev)))
    (p1LevCR : PySem.W.findIn K (.ref CR) "level" = some (some (.ref pLev)))
    (p1LevCB : PySem.W.findIn K (.ref CB) "level" = some (some (.ref pLev)))
    (p2Lev : PySem.W.specialIn K (.ref pLev) "__get__" = some (some (.builtin "property.__get__")))
    (p3Lev : PySem.W.takesIn K (.ref pLev) = some true)
    (p4Lev : PySem.W.recIn K pLev "property" = some (.ref fLev :: rLev))
    (p1RooCE : PySem.W.findIn K (.ref CE) "room" = some (some (.ref pRoo)))
    (p1RooCG : PySem.W.findIn K (.ref CG) "room" = some (some (.ref pRoo)))
    (p1RooCR : PySem.W.findIn K (.ref CR) "room" = some (some (.ref pRoo)))
    (p1RooCB : PySem.W.findIn K (.ref CB) "room" = some (some (.ref pRoo)))
    (p2Roo : PySem.W.specialIn K (.ref pRoo) "__get__" = some (some (.builtin "property.__get__")))
    (p3Roo : PySem.W.takesIn K (.ref pRoo) = some true)
    (p4Roo : PySem.W.recIn K pRoo "property" = some (.ref fRoo :: rRoo))
    (p1ReaCG : PySem.W.findIn K (.ref CG) "reached" = some (some (.ref pRea)))
    (p1ReaCB : PySem.W.findIn K (.ref CB) "reached" = some (some (.ref pRea)))
    (p2Rea : PySem.W.specialIn K (.ref pRea) "__get__" = some (some (.builtin "property.__get__")))
    (p3Rea : PySem.W.takesIn K (.ref pRea) = some true)
    (p4Rea : PySem.W.recIn K pRea "property" = some (.ref fRea :: rRea))
    (p1FloCR : PySem.W.findIn K (.ref CR) "floor" = some (some (.ref pFlo)))
    (p1FloCB : PySem.W.findIn K (.ref CB) "floor" = some (some (.ref pFlo)))
    (p2Flo : PySem.W.specialIn K (.ref pFlo) "__get__" = some (some (.builtin "property.__get__")))
    (p3Flo : PySem.W.takesIn K (.ref pFlo) = some true)
    (p4Flo : PySem.W.recIn K pFlo "property" = some (.ref fFlo :: rFlo))
    (lCap : K.lookup fCap = some ⟨ocCap, odCap, .func (PySem.W.fnOf "cap" "Envelope.cap" (defArgs sCap) (defBody sCap) (defScope sCap) .none kVCap docCap pmCap anCap cdCap ctCap), slCap⟩)
    (cCap : PySem.W.codeIn K cdCap "Envelope.cap" = true)
    (kCap : PySem.W.keepIn K (.ref fCap) = true)
    (lLev : K.lookup fLev = some ⟨ocLev, odLev, .func (PySem.W.fnOf "level" "Envelope.level" (defArgs sLevel) (defBody sLevel) (defScope sLevel) .none kVLev docLev pmLev anLev cdLev ctLev), slLev⟩)
    (cLev : PySem.W.codeIn K cdLev "Envelope.level" = true)
    (kLev : PySem.W.keepIn K (.ref fLev) = true)
    (lRoo : K.lookup fRoo = some ⟨ocRoo, odRoo, .func (PySem.W.fnOf "room" "Envelope.room" (defArgs sRoom) (defBody sRoom) (defScope sRoom) .none kVRoo docRoo pmRoo anRoo cdRoo ctRoo), slRoo⟩)
    (cRoo : PySem.W.codeIn K cdRoo "Envelope.room" = true)
    (kRoo : PySem.W.keepIn K (.ref fRoo) = true)
    (lRea : K.lookup fRea = some ⟨ocRea, odRea, .func (PySem.W.fnOf "reached" "Goal.reached" (defArgs sReached) (defBody sReached) (defScope sReached) .none kVRea docRea pmRea anRea cdRea ctRea), slRea⟩)
    (cRea : PySem.W.codeIn K cdRea "Goal.reached" = true)
    (kRea : PySem.W.keepIn K (.ref fRea) = true)
    (lFlo : K.lookup fFlo = some ⟨ocFlo, odFlo, .func (PySem.W.fnOf "floor" "Reserve.floor" (defArgs sFloor) (defBody sFloor) (defScope sFloor) .none kVFlo docFlo pmFlo anFlo cdFlo ctFlo), slFlo⟩)
    (cFlo : PySem.W.codeIn K cdFlo "Reserve.floor" = true)
    (kFlo : PySem.W.keepIn K (.ref fFlo) = true)
    (m1Fe : PySem.W.findIn K (.ref CE) "free" = some (some (.ref fFE)))
    (m2Fe : PySem.W.isFn K (.ref fFE) = true)
    (m3Fe : PySem.W.keepIn K (.ref fFE) = true)
    (m1Fg : PySem.W.findIn K (.ref CG) "free" = some (some (.ref fFG)))
    (m2Fg : PySem.W.isFn K (.ref fFG) = true)
    (m3Fg : PySem.W.keepIn K (.ref fFG) = true)
    (m1Fr : PySem.W.findIn K (.ref CR) "free" = some (some (.ref fFR)))
    (m2Fr : PySem.W.isFn K (.ref fFR) = true)
    (m3Fr : PySem.W.keepIn K (.ref fFR) = true)
    (m1Fb : PySem.W.findIn K (.ref CB) "free" = some (some (.ref fFB)))
    (m2Fb : PySem.W.isFn K (.ref fFB) = true)
    (m3Fb : PySem.W.keepIn K (.ref fFB) = true)
    (m1Pe : PySem.W.findIn K (.ref CE) "put" = some (some (.ref fPE)))
    (m2Pe : PySem.W.isFn K (.ref fPE) = true)
    (m3Pe : PySem.W.keepIn K (.ref fPE) = true)
    (m1Pg : PySem.W.findIn K (.ref CG) "put" = some (some (.ref fPG)))
    (m2Pg : PySem.W.isFn K (.ref fPG) = true)
    (m3Pg : PySem.W.keepIn K (.ref fPG) = true)
    (m1Pr : PySem.W.findIn K (.ref CR) "put" = some (some (.ref fPE)))
    (m2Pr : PySem.W.isFn K (.ref fPE) = true)
    (m3Pr : PySem.W.keepIn K (.ref fPE) = true)
    (m1Pb : PySem.W.findIn K (.ref CB) "put" = some (some (.ref fPG)))
    (m2Pb : PySem.W.isFn K (.ref fPG) = true)
    (m3Pb : PySem.W.keepIn K (.ref fPG) = true)
    (m1Te : PySem.W.findIn K (.ref CE) "take" = some (some (.ref fTk)))
    (m2Te : PySem.W.isFn K (.ref fTk) = true)
    (m3Te : PySem.W.keepIn K (.ref fTk) = true)
    (m1Tg : PySem.W.findIn K (.ref CG) "take" = some (some (.ref fTk)))
    (m2Tg : PySem.W.isFn K (.ref fTk) = true)
    (m3Tg : PySem.W.keepIn K (.ref fTk) = true)
    (m1Tr : PySem.W.findIn K (.ref CR) "take" = some (some (.ref fTk)))
    (m2Tr : PySem.W.isFn K (.ref fTk) = true)
    (m3Tr : PySem.W.keepIn K (.ref fTk) = true)
    (m1Tb : PySem.W.findIn K (.ref CB) "take" = some (some (.ref fTk)))
    (m2Tb : PySem.W.isFn K (.ref fTk) = true)
    (m3Tb : PySem.W.keepIn K (.ref fTk) = true)
    (m1Qe : PySem.W.findIn K (.ref CE) "check_take" = some (some (.ref fCT)))
    (m2Qe : PySem.W.isFn K (.ref fCT) = true)
    (m3Qe : PySem.W.keepIn K (.ref fCT) = true)
    (m1Qg : PySem.W.findIn K (.ref CG) "check_take" = some (some (.ref fCT)))
    (m2Qg : PySem.W.isFn K (.ref fCT) = true)
    (m3Qg : PySem.W.keepIn K (.ref fCT) = true)
    (m1Qr : PySem.W.findIn K (.ref CR) "check_take" = some (some (.ref fCT)))
    (m2Qr : PySem.W.isFn K (.ref fCT) = true)
    (m3Qr : PySem.W.keepIn K (.ref fCT) = true)
    (m1Qb : PySem.W.findIn K (.ref CB) "check_take" = some (some (.ref fCT)))
    (m2Qb : PySem.W.isFn K (.ref fCT) = true)
    (m3Qb : PySem.W.keepIn K (.ref fCT) = true)
    (m1Sr : PySem.W.findIn K (.ref CR) "set_floor" = some (some (.ref fSF)))
    (m2Sr : PySem.W.isFn K (.ref fSF) = true)
    (m3Sr : PySem.W.keepIn K (.ref fSF) = true)
    (m1Sb : PySem.W.findIn K (.ref CB) "set_floor" = some (some (.ref fSF)))
    (m2Sb : PySem.W.isFn K (.ref fSF) = true)
    (m3Sb : PySem.W.keepIn K (.ref fSF) = true)
    (n1Ke : PySem.W.makesIn K CE = true)
    (n2Ke : PySem.W.findIn K (.ref CE) "__init__" = some (some (.ref fIE)))
    (n3Ke : PySem.W.isFn K (.ref fIE) = true)
    (n4Ke : PySem.W.keepIn K (.ref CE) = true)
    (n1Kg : PySem.W.makesIn K CG = true)
    (n2Kg : PySem.W.findIn K (.ref CG) "__init__" = some (some (.ref fIG)))
    (n3Kg : PySem.W.isFn K (.ref fIG) = true)
    (n4Kg : PySem.W.keepIn K (.ref CG) = true)
    (n1Kr : PySem.W.makesIn K CR = true)
    (n2Kr : PySem.W.findIn K (.ref CR) "__init__" = some (some (.ref fIR)))
    (n3Kr : PySem.W.isFn K (.ref fIR) = true)
    (n4Kr : PySem.W.keepIn K (.ref CR) = true)
    (n1Kb : PySem.W.makesIn K CB = true)
    (n2Kb : PySem.W.findIn K (.ref CB) "__init__" = some (some (.ref fIB)))
    (n3Kb : PySem.W.isFn K (.ref fIB) = true)
    (n4Kb : PySem.W.keepIn K (.ref CB) = true)
    (lFE : K.lookup fFE = some ⟨ocFE, odFE, .func (PySem.W.fnOf "free" "Envelope.free" (defArgs sFreeE) (defBody sFreeE) (defScope sFreeE) .none kVFE docFE pmFE anFE cdFE ctFE), slFE⟩)
    (cFE : PySem.W.codeIn K cdFE "Envelope.free" = true)
    (kFE : PySem.W.keepIn K (.ref fFE) = true)
    (lFG : K.lookup fFG = some ⟨ocFG, odFG, .func (PySem.W.fnOf "free" "Goal.free" (defArgs sFreeG) (defBody sFreeG) (defScope sFreeG) .none kVFG docFG pmFG anFG cdFG ctFG), slFG⟩)
    (cFG : PySem.W.codeIn K cdFG "Goal.free" = true)
    (kFG : PySem.W.keepIn K (.ref fFG) = true)
    (lFR : K.lookup fFR = some ⟨ocFR, odFR, .func (PySem.W.fnOf "free" "Reserve.free" (defArgs sFreeR) (defBody sFreeR) (defScope sFreeR) .none kVFR docFR pmFR anFR cdFR ctFR), slFR⟩)
    (cFR : PySem.W.codeIn K cdFR "Reserve.free" = true)
    (kFR : PySem.W.keepIn K (.ref fFR) = true)
    (lFB : K.lookup fFB = some ⟨ocFB, odFB, .func (PySem.W.fnX "free" "GoalReserve.free" (defArgs sFreeB) (defBody sFreeB) (defScope sFreeB) [("__class__", ccFB)] .none kVFB docFB pmFB anFB (.ref coFB) ctFB), slFB⟩)
    (cFB : PySem.W.codeIn K (.ref coFB) "GoalReserve.free" = true)
    (kFB : PySem.W.keepIn K (.ref fFB) = true)
    (eFB : K.lookup ccFB = some ⟨clFB, cldFB, .cell (some (.ref CB)), cslFB⟩)
    (oFB : K.lookup coFB = some ⟨cclFB, cddFB, .fields vsFB, ccsFB⟩)
    (vFB : vsFB[2]? = some (.str fiFB tfFB))
    (yFB : ((l.prog.main.file : Str) == fiFB) = true)
    (lPE : K.lookup fPE = some ⟨ocPE, odPE, .func (PySem.W.fnOf "put" "Envelope.put" (defArgs sPutE) (defBody sPutE) (defScope sPutE) .none kVPE docPE pmPE anPE cdPE ctPE), slPE⟩)
    (cPE : PySem.W.codeIn K cdPE "Envelope.put" = true)
    (kPE : PySem.W.keepIn K (.ref fPE) = true)
    (lPG : K.lookup fPG = some ⟨ocPG, odPG, .func (PySem.W.fnX "put" "Goal.put" (defArgs sPutG) (defBody sPutG) (defScope sPutG) [("__class__", ccPG)] .none kVPG docPG pmPG anPG (.ref coPG) ctPG), slPG⟩)
    (cPG : PySem.W.codeIn K (.ref coPG) "Goal.put" = true)
    (kPG : PySem.W.keepIn K (.ref fPG) = true)
    (ePG : K.lookup ccPG = some ⟨clPG, cldPG, .cell (some (.ref CG)), cslPG⟩)
    (oPG : K.lookup coPG = some ⟨cclPG, cddPG, .fields vsPG, ccsPG⟩)
    (vPG : vsPG[2]? = some (.str fiPG tfPG))
    (yPG : ((l.prog.main.file : Str) == fiPG) = true)
    (lTk : K.lookup fTk = some ⟨ocTk, odTk, .func (PySem.W.fnOf "take" "Envelope.take" (defArgs sTake) (defBody sTake) (defScope sTake) .none kVTk docTk pmTk anTk cdTk ctTk), slTk⟩)
    (cTk : PySem.W.codeIn K cdTk "Envelope.take" = true)
    (kTk : PySem.W.keepIn K (.ref fTk) = true)
    (lCT : K.lookup fCT = some ⟨ocCT, odCT, .func (PySem.W.fnOf "check_take" "Envelope.check_take" (defArgs sCkT) (defBody sCkT) (defScope sCkT) .none kVCT docCT pmCT anCT cdCT ctCT), slCT⟩)
    (cCT : PySem.W.codeIn K cdCT "Envelope.check_take" = true)
    (kCT : PySem.W.keepIn K (.ref fCT) = true)
    (lSF : K.lookup fSF = some ⟨ocSF, odSF, .func (PySem.W.fnOf "set_floor" "Reserve.set_floor" (defArgs sSetF) (defBody sSetF) (defScope sSetF) .none kVSF docSF pmSF anSF cdSF ctSF), slSF⟩)
    (cSF : PySem.W.codeIn K cdSF "Reserve.set_floor" = true)
    (kSF : PySem.W.keepIn K (.ref fSF) = true)
    (lIE : K.lookup fIE = some ⟨ocIE, odIE, .func (PySem.W.fnOf "__init__" "Envelope.__init__" (defArgs sIniE) (defBody sIniE) (defScope sIniE) (.ref TE) kVIE docIE pmIE anIE cdIE ctIE), slIE⟩)
    (cIE : PySem.W.codeIn K cdIE "Envelope.__init__" = true)
    (kIE : PySem.W.keepIn K (.ref fIE) = true)
    (dE : K.lookup TE = some ⟨tcE, tdE, .seq #[.int 0 ttE] tnE, tsE⟩)
    (lIG : K.lookup fIG = some ⟨ocIG, odIG, .func (PySem.W.fnX "__init__" "Goal.__init__" (defArgs sIniG) (defBody sIniG) (defScope sIniG) [("__class__", ccIG)] (.ref TG) kVIG docIG pmIG anIG (.ref coIG) ctIG), slIG⟩)
    (cIG : PySem.W.codeIn K (.ref coIG) "Goal.__init__" = true)
    (kIG : PySem.W.keepIn K (.ref fIG) = true)
    (eIG : K.lookup ccIG = some ⟨clIG, cldIG, .cell (some (.ref CG)), cslIG⟩)
    (oIG : K.lookup coIG = some ⟨cclIG, cddIG, .fields vsIG, ccsIG⟩)
    (vIG : vsIG[2]? = some (.str fiIG tfIG))
    (yIG : ((l.prog.main.file : Str) == fiIG) = true)
    (dG : K.lookup TG = some ⟨tcG, tdG, .seq #[.int 0 ttG] tnG, tsG⟩)
    (lIR : K.lookup fIR = some ⟨ocIR, odIR, .func (PySem.W.fnX "__init__" "Reserve.__init__" (defArgs sIniR) (defBody sIniR) (defScope sIniR) [("__class__", ccIR)] (.ref TR) (.ref DR) docIR pmIR anIR (.ref coIR) ctIR), slIR⟩)
    (cIR : PySem.W.codeIn K (.ref coIR) "Reserve.__init__" = true)
    (kIR : PySem.W.keepIn K (.ref fIR) = true)
    (eIR : K.lookup ccIR = some ⟨clIR, cldIR, .cell (some (.ref CR)), cslIR⟩)
    (oIR : K.lookup coIR = some ⟨cclIR, cddIR, .fields vsIR, ccsIR⟩)
    (vIR : vsIR[2]? = some (.str fiIR tfIR))
    (yIR : ((l.prog.main.file : Str) == fiIR) = true)
    (dR : K.lookup TR = some ⟨tcR, tdR, .seq #[.int 0 ttR] tnR, tsR⟩)
    (wR : PySem.W.nsIn K DR "floor" = some (some (.int 0 tkR)))
    (lIB : K.lookup fIB = some ⟨ocIB, odIB, .func (PySem.W.fnX "__init__" "GoalReserve.__init__" (defArgs sIniB) (defBody sIniB) (defScope sIniB) [("__class__", ccIB)] (.ref TB) (.ref DB) docIB pmIB anIB (.ref coIB) ctIB), slIB⟩)
    (cIB : PySem.W.codeIn K (.ref coIB) "GoalReserve.__init__" = true)
    (kIB : PySem.W.keepIn K (.ref fIB) = true)
    (eIB : K.lookup ccIB = some ⟨clIB, cldIB, .cell (some (.ref CB)), cslIB⟩)
    (oIB : K.lookup coIB = some ⟨cclIB, cddIB, .fields vsIB, ccsIB⟩)
    (vIB : vsIB[2]? = some (.str fiIB tfIB))
    (yIB : ((l.prog.main.file : Str) == fiIB) = true)
    (dB : K.lookup TB = some ⟨tcB, tdB, .seq #[.int 0 ttB] tnB, tsB⟩)
    (wB : PySem.W.nsIn K DB "floor" = some (some (.int 0 tkB)))
    (s1fb : PySem.W.mroIn K CB (.ref CB) = some true)
    (s2fb : PySem.W.ks_superIn K CB CB "free" = some (some (.ref fFR)))
    (s3fb : PySem.W.typeIn K (.ref fFR) = some (.type "function"))
    (s4fb : PySem.W.fnIn K fFR = true)
    (s5fb : PySem.W.isClsIn K CB = true)
    (s1pg : PySem.W.mroIn K CG (.ref CG) = some true)
    (s2pg : PySem.W.ks_superIn K CG CG "put" = some (some (.ref fPE)))
    (s3pg : PySem.W.typeIn K (.ref fPE) = some (.type "function"))
    (s4pg : PySem.W.fnIn K fPE = true)
    (s5pg : PySem.W.isClsIn K CG = true)
    (s1pb : PySem.W.mroIn K CB (.ref CG) = some true)
    (s2pb : PySem.W.ks_superIn K CB CG "put" = some (some (.ref fPE)))
    (s3pb : PySem.W.typeIn K (.ref fPE) = some (.type "function"))
    (s4pb : PySem.W.fnIn K fPE = true)
    (s5pb : PySem.W.isClsIn K CG = true)
    (s1gg : PySem.W.mroIn K CG (.ref CG) = some true)
    (s2gg : PySem.W.ks_superIn K CG CG "__init__" = some (some (.ref fIE)))
    (s3gg : PySem.W.typeIn K (.ref fIE) = some (.type "function"))
    (s4gg : PySem.W.fnIn K fIE = true)
    (s5gg : PySem.W.isClsIn K CG = true)
    (s1gb : PySem.W.mroIn K CB (.ref CG) = some true)
    (s2gb : PySem.W.ks_superIn K CB CG "__init__" = some (some (.ref fIE)))
    (s3gb : PySem.W.typeIn K (.ref fIE) = some (.type "function"))
    (s4gb : PySem.W.fnIn K fIE = true)
    (s5gb : PySem.W.isClsIn K CG = true)
    (s1rr : PySem.W.mroIn K CR (.ref CR) = some true)
    (s2rr : PySem.W.ks_superIn K CR CR "__init__" = some (some (.ref fIE)))
    (s3rr : PySem.W.typeIn K (.ref fIE) = some (.type "function"))
    (s4rr : PySem.W.fnIn K fIE = true)
    (s5rr : PySem.W.isClsIn K CR = true)
    (s1rb : PySem.W.mroIn K CB (.ref CR) = some true)
    (s2rb : PySem.W.ks_superIn K CB CR "__init__" = some (some (.ref fIG)))
    (s3rb : PySem.W.typeIn K (.ref fIG) = some (.type "function"))
    (s4rb : PySem.W.fnIn K fIG = true)
    (s5rb : PySem.W.isClsIn K CR = true)
    (s1bb : PySem.W.mroIn K CB (.ref CB) = some true)
    (s2bb : PySem.W.ks_superIn K CB CB "__init__" = some (some (.ref fIR)))
    (s3bb : PySem.W.typeIn K (.ref fIR) = some (.type "function"))
    (s4bb : PySem.W.fnIn K fIR = true)
    (s5bb : PySem.W.isClsIn K CB = true)
    (op : PySem.W.nsIn K cStatics "thirdparty.any" = some none)
    (u0 : PySem.W.typeIn K (.ref CE) = some mc)
    (u1 : PySem.W.readsIn K CE mc = true)
    (u2 : PySem.W.specialIn K (.ref CE) "__getattribute__" = some (some (.builtin "type.__getattribute__")))
    (u3 : PySem.W.findCls K (.ref CE) mc "is_name" = some (.get (.builtin "staticmethod.__get__") (.ref pN) .none (.ref CE)))
    (u4 : PySem.W.recIn K pN "staticmethod" = some (.ref fN :: rN))
    (u5 : PySem.W.keepIn K (.ref fN) = true)
    (u6 : PySem.W.findCls K (.ref CE) mc "LARGEST" = some (.val (.int 1000000 tg)))
    (lN : K.lookup fN = some ⟨ocN, odN, .func (PySem.W.fnOf "is_name" "Envelope.is_name" (defArgs sIsN) (defBody sIsN) (defScope sIsN) .none kVN docN pmN anN cdN ctN), slN⟩)
    (cN : PySem.W.codeIn K cdN "Envelope.is_name" = true)
    (kN : PySem.W.keepIn K (.ref fN) = true)
    (j1CE : PySem.W.findIn K (.ref CE) "__class__" = some (some (.builtin "object.__class__")))
    (j2CE : PySem.W.mroIn K CE (.type "object") = some true)
    (j1CG : PySem.W.findIn K (.ref CG) "__class__" = some (some (.builtin "object.__class__")))
    (j2CG : PySem.W.mroIn K CG (.type "object") = some true)
    (j1CR : PySem.W.findIn K (.ref CR) "__class__" = some (some (.builtin "object.__class__")))
    (j2CR : PySem.W.mroIn K CR (.type "object") = some true)
    (j1CB : PySem.W.findIn K (.ref CB) "__class__" = some (some (.builtin "object.__class__")))
    (j2CB : PySem.W.mroIn K CB (.type "object") = some true)
    (j3 : PySem.W.specialIn K (.builtin "object.__class__") "__get__" = some (some (.builtin "getset_descriptor.__get__")))
    (j4 : PySem.W.takesIn K (.builtin "object.__class__") = some true)
    (i_bg : PySem.W.kitOne K (.ref CB) (.ref CG) = some true)
    (i_br : PySem.W.kitOne K (.ref CB) (.ref CR) = some true)
    (i_be : PySem.W.kitOne K (.ref CB) (.ref CE) = some true)
    (i_gr : PySem.W.kitOne K (.ref CG) (.ref CR) = some false)
    (i_rg : PySem.W.kitOne K (.ref CR) (.ref CG) = some false)
    (i_eg : PySem.W.kitOne K (.ref CE) (.ref CG) = some false)
    (lCell : K.lookup fCell = some ⟨ocCell, odCell, .func (PySem.W.fnOf "_law_cell" "_law_cell" (defArgs sCell) (defBody sCell) (defScope sCell) .none kVCell docCell pmCell anCell cdCell ctCell), slCell⟩)
    (cCell : PySem.W.codeIn K cdCell "_law_cell" = true)
    (kCell : PySem.W.keepIn K (.ref fCell) = true)
    (lDig : K.lookup fDig = some ⟨ocDig, odDig, .func (PySem.W.fnOf "_law_digits" "_law_digits" (defArgs sDig) (defBody sDig) (defScope sDig) .none kVDig docDig pmDig anDig cdDig ctDig), slDig⟩)
    (cDig : PySem.W.codeIn K cdDig "_law_digits" = true)
    (kDig : PySem.W.keepIn K (.ref fDig) = true)
    (lMade : K.lookup fMade = some ⟨ocMade, odMade, .func (PySem.W.fnOf "_law_made" "_law_made" (defArgs sMade) (defBody sMade) (defScope sMade) .none kVMade docMade pmMade anMade cdMade ctMade), slMade⟩)
    (cMade : PySem.W.codeIn K cdMade "_law_made" = true)
    (kMade : PySem.W.keepIn K (.ref fMade) = true)
    (lLaw : K.lookup fa2 = some ⟨ocLaw, odLaw, .func (PySem.W.fnOf "law" "law" (defArgs sLaw) (defBody sLaw) (defScope sLaw) .none kVLaw docLaw pmLaw anLaw cdLaw ctLaw), slLaw⟩)
    (cLaw : PySem.W.codeIn K cdLaw "law" = true)
    (kLaw : PySem.W.keepIn K (.ref fa2) = true)
    : ∃ fd : FuncData, (∀ (s : Shared) (v : Value), BindsTo s fd ⟨[v], []⟩ [("script", v)]) ∧ ∀ base : Heap, K.In base → base.Ns mainGlobals mg → FnOk l.prog w K mg base CX0 8 fa fd ["script"] (spLaw K) := by
  let Ck : Kd → Addr := fun k => match k with | .e => CE | .g => CG | .r => CR | .b => CB
  have B : Bl mg := ⟨(PySem.W.mg_none_of X G z_isinstance), (PySem.W.mg_none_of X G z_int), (PySem.W.mg_none_of X G z_bool), (PySem.W.mg_none_of X G z_str), (PySem.W.mg_none_of X G z_len), (PySem.W.mg_none_of X G z_all), (PySem.W.mg_none_of X G z_min), (PySem.W.mg_none_of X G z_max), (PySem.W.mg_none_of X G z_range), (PySem.W.mg_none_of X G z_super)⟩
  have XXN : Ex K mg "InvalidName" XN := ⟨PySem.W.mg_of X G a_InvalidName, x1XN, x2XN, x3XN, x4XN⟩
  have XXC : Ex K mg "InvalidCap" XC := ⟨PySem.W.mg_of X G a_InvalidCap, x1XC, x2XC, x3XC, x4XC⟩
  have XXL : Ex K mg "InvalidLevel" XL := ⟨PySem.W.mg_of X G a_InvalidLevel, x1XL, x2XL, x3XL, x4XL⟩
  have XXF : Ex K mg "InvalidFloor" XF := ⟨PySem.W.mg_of X G a_InvalidFloor, x1XF, x2XF, x3XF, x4XF⟩
  have XXA : Ex K mg "InvalidAmount" XA := ⟨PySem.W.mg_of X G a_InvalidAmount, x1XA, x2XA, x3XA, x4XA⟩
  have XXE : Ex K mg "NotEnough" XE := ⟨PySem.W.mg_of X G a_NotEnough, x1XE, x2XE, x3XE, x4XE⟩
  have L : Cl K Ck := ⟨fun k => match k with | .e => ⟨q1CE, q2CE, q3CE, q4CE⟩ | .g => ⟨q1CG, q2CG, q3CG, q4CG⟩ | .r => ⟨q1CR, q2CR, q3CR, q4CR⟩ | .b => ⟨q1CB, q2CB, q3CB, q4CB⟩, fun k => match k with | .e => q_labelCE | .g => q_labelCG | .r => q_labelCR | .b => q_labelCB, fun k => match k with | .e => q_mostCE | .g => q_mostCG | .r => q_mostCR | .b => q_mostCB, fun k => match k with | .e => q_heldCE | .g => q_heldCG | .r => q_heldCR | .b => q_heldCB, fun k => match k with | .e => q_doneCE | .g => q_doneCG | .r => q_doneCR | .b => q_doneCB, fun k => match k with | .e => q_keptCE | .g => q_keptCG | .r => q_keptCR | .b => q_keptCB⟩
  have FRg := fun_mk (st := sRange) lRg cRg kRg
  have bRg := FRg.binds (ps := ["value", "low", "high"]) fun _ _ _ _ _ _ us hl => match us, hl with | [_, _, _], _ => rfl
  have FCk := fun_mk (st := sCheck) lCk cCk kCk
  have bCk := FCk.binds (ps := ["value"]) fun _ _ _ _ _ _ us hl => match us, hl with | [_], _ => rfl
  have FCap := fun_mk (st := sCap) lCap cCap kCap
  have bCap := FCap.binds (ps := ["self"]) fun _ _ _ _ _ _ us hl => match us, hl with | [_], _ => rfl
  have FLev := fun_mk (st := sLevel) lLev cLev kLev
  have bLev := FLev.binds (ps := ["self"]) fun _ _ _ _ _ _ us hl => match us, hl with | [_], _ => rfl
  have FRoo := fun_mk (st := sRoom) lRoo cRoo kRoo
  have bRoo := FRoo.binds (ps := ["self"]) fun _ _ _ _ _ _ us hl => match us, hl with | [_], _ => rfl
  have FRea := fun_mk (st := sReached) lRea cRea kRea
  have bRea := FRea.binds (ps := ["self"]) fun _ _ _ _ _ _ us hl => match us, hl with | [_], _ => rfl
  have FFlo := fun_mk (st := sFloor) lFlo cFlo kFlo
  have bFlo := FFlo.binds (ps := ["self"]) fun _ _ _ _ _ _ us hl => match us, hl with | [_], _ => rfl
  have PCk := fun (base : Heap) => (⟨fun k _ => match k with | .e => ⟨p1CapCE, p2Cap, p3Cap, ⟨_, p4Cap⟩⟩ | .g => ⟨p1CapCG, p2Cap, p3Cap, ⟨_, p4Cap⟩⟩ | .r => ⟨p1CapCR, p2Cap, p3Cap, ⟨_, p4Cap⟩⟩ | .b => ⟨p1CapCB, p2Cap, p3Cap, ⟨_, p4Cap⟩⟩, ok_cap FCap L, bCap⟩ : PropK l.prog w K mg base Ck Any "cap" 1 pCap fCap _ (spCap Ck))
  have PLk := fun (base : Heap) => (⟨fun k _ => match k with | .e => ⟨p1LevCE, p2Lev, p3Lev, ⟨_, p4Lev⟩⟩ | .g => ⟨p1LevCG, p2Lev, p3Lev, ⟨_, p4Lev⟩⟩ | .r => ⟨p1LevCR, p2Lev, p3Lev, ⟨_, p4Lev⟩⟩ | .b => ⟨p1LevCB, p2Lev, p3Lev, ⟨_, p4Lev⟩⟩, ok_level FLev L, bLev⟩ : PropK l.prog w K mg base Ck Any "level" 1 pLev fLev _ (spLevel Ck))
  have PRk := fun (base : Heap) => (⟨fun k hk => match k, hk with | .g, _ => ⟨p1ReaCG, p2Rea, p3Rea, ⟨_, p4Rea⟩⟩ | .b, _ => ⟨p1ReaCB, p2Rea, p3Rea, ⟨_, p4Rea⟩⟩, ok_reached FRea L, bRea⟩ : PropK l.prog w K mg base Ck (fun k => k.isG = true) "reached" 1 pRea fRea _ (spReached Ck))
  have PFk := fun (base : Heap) => (⟨fun k hk => match k, hk with | .r, _ => ⟨p1FloCR, p2Flo, p3Flo, ⟨_, p4Flo⟩⟩ | .b, _ => ⟨p1FloCB, p2Flo, p3Flo, ⟨_, p4Flo⟩⟩, ok_floor FFlo L, bFlo⟩ : PropK l.prog w K mg base Ck (fun k => k.isR = true) "floor" 1 pFlo fFlo _ (spFloor Ck))
  have PMk := fun (base : Heap) => (⟨fun k _ => match k with | .e => ⟨p1RooCE, p2Roo, p3Roo, ⟨_, p4Roo⟩⟩ | .g => ⟨p1RooCG, p2Roo, p3Roo, ⟨_, p4Roo⟩⟩ | .r => ⟨p1RooCR, p2Roo, p3Roo, ⟨_, p4Roo⟩⟩ | .b => ⟨p1RooCB, p2Roo, p3Roo, ⟨_, p4Roo⟩⟩, ok_room FRoo L (PCk base).ok bCap (fun k => (PCk base).pr k trivial) (PLk base).ok bLev (fun k => (PLk base).pr k trivial), bRoo⟩ : PropK l.prog w K mg base Ck Any "room" 3 pRoo fRoo _ (spRoom Ck))
  have FFE := fun_mk (st := sFreeE) lFE cFE kFE
  have bFE := FFE.binds (ps := ["self"]) fun _ _ _ _ _ _ us hl => match us, hl with | [_], _ => rfl
  have FFG := fun_mk (st := sFreeG) lFG cFG kFG
  have bFG := FFG.binds (ps := ["self"]) fun _ _ _ _ _ _ us hl => match us, hl with | [_], _ => rfl
  have FFR := fun_mk (st := sFreeR) lFR cFR kFR
  have bFR := FFR.binds (ps := ["self"]) fun _ _ _ _ _ _ us hl => match us, hl with | [_], _ => rfl
  have FFB : FunC K (l.prog.main.file : Str) "free" "GoalReserve.free" sFreeB [] [] CB fFB _ := ⟨⟨_, _, _, _, _, _, _, _, _, _, _, _, _, _, _, _, _, _, _, _, rfl, lFB, cFB, eFB, oFB, vFB, yFB, .inl ⟨rfl, rfl⟩, .inl rfl⟩, kFB⟩
  have bFB := FFB.bindsN (ps := ["self"]) fun _ _ _ _ _ _ _ us hl => match us, hl with | [_], _ => rfl
  have FPE := fun_mk (st := sPutE) lPE cPE kPE
  have bPE := FPE.binds (ps := ["self", "amount"]) fun _ _ _ _ _ _ us hl => match us, hl with | [_, _], _ => rfl
  have FPG : FunC K (l.prog.main.file : Str) "put" "Goal.put" sPutG [] [] CG fPG _ := ⟨⟨_, _, _, _, _, _, _, _, _, _, _, _, _, _, _, _, _, _, _, _, rfl, lPG, cPG, ePG, oPG, vPG, yPG, .inl ⟨rfl, rfl⟩, .inl rfl⟩, kPG⟩
  have bPG := FPG.bindsN (ps := ["self", "amount"]) fun _ _ _ _ _ _ _ us hl => match us, hl with | [_, _], _ => rfl
  have FTk := fun_mk (st := sTake) lTk cTk kTk
  have bTk := FTk.binds (ps := ["self", "amount"]) fun _ _ _ _ _ _ us hl => match us, hl with | [_, _], _ => rfl
  have FCT := fun_mk (st := sCkT) lCT cCT kCT
  have bCT := FCT.binds (ps := ["self", "amount"]) fun _ _ _ _ _ _ us hl => match us, hl with | [_, _], _ => rfl
  have FSF := fun_mk (st := sSetF) lSF cSF kSF
  have bSF := FSF.binds (ps := ["self", "value"]) fun _ _ _ _ _ _ us hl => match us, hl with | [_, _], _ => rfl
  have FIE : FunD K "__init__" "Envelope.__init__" (defArgs sIniE) (defBody sIniE) (defScope sIniE) [.int 0] [] fIE _ := ⟨⟨_, _, _, _, _, _, _, _, _, _, rfl, lIE, cIE, .inr ⟨by simp, TE, _, [.int 0 ttE], _, rfl, dE, rfl, .cons ⟨_, rfl⟩ .nil⟩, .inl rfl⟩, kIE⟩
  obtain ⟨dsE, vE, bIE⟩ := FIE.binds1 (ps := ["self", "name", "cap", "level"]) 4 1 (by simp) rfl fun _ _ _ _ _ _ _ us its h1 h2 => match us, its, h1, h2 with | [_, _, _, _], [_], _, _ => ⟨_, rfl, rfl⟩
  cases vE
  have FIG : FunC K (l.prog.main.file : Str) "__init__" "Goal.__init__" sIniG [.int 0] [] CG fIG _ := ⟨⟨_, _, _, _, _, _, _, _, _, _, _, _, _, _, _, _, _, _, _, _, rfl, lIG, cIG, eIG, oIG, vIG, yIG, .inr ⟨by simp, TG, _, [.int 0 ttG], _, rfl, dG, rfl, .cons ⟨_, rfl⟩ .nil⟩, .inl rfl⟩, kIG⟩
  obtain ⟨dsG, vG, bIG⟩ := FIG.binds1 (ps := ["self", "name", "cap", "level"]) 4 1 (by simp) rfl fun _ _ _ _ _ _ _ _ us its h1 h2 => match us, its, h1, h2 with | [_, _, _, _], [_], _, _ => ⟨_, rfl, rfl⟩
  cases vG
  have FIR : FunC K (l.prog.main.file : Str) "__init__" "Reserve.__init__" sIniR [.int 0] [("floor", .int 0)] CR fIR _ := ⟨⟨_, _, _, _, _, _, _, _, _, _, _, _, _, _, _, _, _, _, _, _, rfl, lIR, cIR, eIR, oIR, vIR, yIR, .inr ⟨by simp, TR, _, [.int 0 ttR], _, rfl, dR, rfl, .cons ⟨_, rfl⟩ .nil⟩, .inr ⟨DR, rfl, fun q hq => by rw [List.mem_singleton.mp hq]; exact ⟨_, wR, ⟨_, rfl⟩⟩⟩⟩, kIR⟩
  obtain ⟨itR, mvR, kbR⟩ := FIR.kbinds (ps := ["self", "name", "cap", "level", "floor"]) 4 ["floor"] [] (fun us _ _ ws => us ++ ws) (by simp) (by simp) (fun q hq => nomatch hq) (fun r1 _ _ r2 => r1.append r2) fun _ _ _ _ _ _ _ _ us its mv ws h1 h2 h3 h4 => match us, its, mv, ws, h1, h2, h3, h4 with | [_, _, _, _], [_], [], [_], _, _, _, _ => ⟨_, rfl, rfl⟩
  have FIB : FunC K (l.prog.main.file : Str) "__init__" "GoalReserve.__init__" sIniB [.int 0] [("floor", .int 0)] CB fIB _ := ⟨⟨_, _, _, _, _, _, _, _, _, _, _, _, _, _, _, _, _, _, _, _, rfl, lIB, cIB, eIB, oIB, vIB, yIB, .inr ⟨by simp, TB, _, [.int 0 ttB], _, rfl, dB, rfl, .cons ⟨_, rfl⟩ .nil⟩, .inr ⟨DB, rfl, fun q hq => by rw [List.mem_singleton.mp hq]; exact ⟨_, wB, ⟨_, rfl⟩⟩⟩⟩, kIB⟩
  obtain ⟨itB, mvB, kbB⟩ := FIB.kbinds (ps := ["self", "name", "cap", "level", "floor"]) 4 ["floor"] [] (fun us _ _ ws => us ++ ws) (by simp) (by simp) (fun q hq => nomatch hq) (fun r1 _ _ r2 => r1.append r2) fun _ _ _ _ _ _ _ _ us its mv ws h1 h2 h3 h4 => match us, its, mv, ws, h1, h2, h3, h4 with | [_, _, _, _], [_], [], [_], _, _, _, _ => ⟨_, rfl, rfl⟩
  have S : SupP K l.prog mg := ⟨op, (PySem.W.mg_none_of X G z_super), htop⟩
  have EC : EnvC K mg CE pN fN mc tg := ⟨PySem.W.mg_of X G a_Envelope, ⟨⟨u1, u2⟩, u3, ⟨_, u4⟩, u5⟩, ⟨u6, ⟨_, rfl⟩⟩⟩
  have FN := fun_mk (st := sIsN) lN cN kN
  have bN := FN.binds (ps := ["value"]) fun _ _ _ _ _ _ us hl => match us, hl with | [_], _ => rfl
  have J : Isi K Ck := ⟨fun k => match k with | .e => j1CE | .g => j1CG | .r => j1CR | .b => j1CB, j3, j4, fun k => match k with | .e => j2CE | .g => j2CG | .r => j2CR | .b => j2CB, i_bg, i_br, i_be, i_gr, i_rg, i_eg⟩
  have FCell := fun_mk (st := sCell) lCell cCell kCell
  have bCell := FCell.binds (ps := ["script", "index"]) fun _ _ _ _ _ _ us hl => match us, hl with | [_, _], _ => rfl
  have FDig := fun_mk (st := sDig) lDig cDig kDig
  have bDig := FDig.binds (ps := ["script", "index", "count", "base"]) fun _ _ _ _ _ _ us hl => match us, hl with | [_, _, _, _], _ => rfl
  have FMade := fun_mk (st := sMade) lMade cMade kMade
  have bMade := FMade.binds (ps := ["kind", "name", "cap", "level", "ground"]) fun _ _ _ _ _ _ us hl => match us, hl with | [_, _, _, _, _], _ => rfl
  have FLaw := fun_mk (st := sLaw) lLaw cLaw kLaw
  have efa := hfa.symm.trans (PySem.W.mg_of X G a_law)
  cases efa
  refine ⟨PySem.W.fnOf "law" "law" (defArgs sLaw) (defBody sLaw) (defScope sLaw) .none kVLaw docLaw pmLaw anLaw cdLaw ctLaw, fun s v => .of_eq rfl, fun base _ _ => ?_⟩
  have GRg : FnOk l.prog w K mg base CX0 1 fRg _ ["value", "low", "high"] spRange := ok_range FRg B
  have GCk : FnOk l.prog w K mg base (L2.CX l.prog w) 2 fCk _ ["value"] (spCheck XA) := ok_check FCk GRg bRg (PySem.W.mg_of X G a_in_range) kRg (PySem.W.mg_of X G a_LARGEST_AMOUNT) XXA
  have PC := PCk base
  have PL := PLk base
  have PR := PRk base
  have PF := PFk base
  have PM := PMk base
  have GFE : FnOk l.prog w K mg base CX0 3 fFE _ ["self"] (spFree Ck .e) := ok_freeE FFE L PL
  have GFG : FnOk l.prog w K mg base CX0 3 fFG _ ["self"] (spFree Ck .g) := ok_freeG FFG L PL PR
  have GFR : FnOk l.prog w K mg base CX0 3 fFR _ ["self"] (spFreeR Ck) := ok_freeR FFR B L PL PF
  have GFB : FnOk l.prog w K mg base (L2.CX l.prog w) 5 fFB _ ["self"] (spFree Ck .b) := ok_freeB FFB rfl L PR GFR bFR S ⟨s1fb, s2fb, s3fb, s4fb, s5fb⟩
  have GFr : FnOk l.prog w K mg base CX0 3 fFR _ ["self"] (spFree Ck .r) := GFR.imp fun vs H Q E ⟨a, dx, o, e, ha, q⟩ => ⟨a, dx, .r, o, e, ha, rfl, q⟩
  have GPE : FnOk l.prog w K mg base (L2.CX l.prog w) 5 fPE _ ["self", "amount"] (spPutE Ck XA) := ok_putE FPE B L GCk bCk (PySem.W.mg_of X G a_check_amount) kCk PM
  have GPe : ∀ k : Kd, k.isG = false → FnOk l.prog w K mg base (L2.CX l.prog w) 6 fPE _ ["self", "amount"] (spPut Ck XA k) := fun k hk => (GPE.imp fun vs H Q E ⟨a, dx, o, v, e, ha, kn, q1, q2⟩ => ⟨a, dx, k, o, v, e, ha, kn, fun n en hv => by
    have e1 : o.putE n = o.put k n := by unfold Ob.putE Ob.put; rw [hk]; rfl
    rw [e1]
    exact q1 n en hv, q2⟩).mono (by decide)
  have GPg : FnOk l.prog w K mg base (L2.CX l.prog w) 6 fPG _ ["self", "amount"] (spPut Ck XA .g) := ok_putG FPG L PM GPE bPE S rfl ⟨s1pg, s2pg, s3pg, s4pg, s5pg⟩
  have GPb : FnOk l.prog w K mg base (L2.CX l.prog w) 6 fPG _ ["self", "amount"] (spPut Ck XA .b) := ok_putG FPG L PM GPE bPE S rfl ⟨s1pb, s2pb, s3pb, s4pb, s5pb⟩
  have GN : FnOk l.prog w K mg base CX0 1 fN _ ["value"] spIsN := ok_isn FN B (PySem.W.mg_of X G a_LONGEST_NAME) (PySem.W.mg_of X G a_LETTERS)
  have GIE : FnOk l.prog w K mg base (L2.CX l.prog w) 2 fIE _ ["self", "name", "cap", "level"] (spIni Ck XN XC XL Any fl3) := ok_iniE FIE L GRg bRg (PySem.W.mg_of X G a_in_range) kRg EC GN bN (PySem.W.mg_of X G a_LONGEST_NAME) XXN XXC XXL
  have GIG : FnOk l.prog w K mg base (L2.CX l.prog w) 3 fIG _ ["self", "name", "cap", "level"] (spIni Ck XN XC XL (fun k => k.isG = true) flG) := ok_iniG FIG L GIE bIE S (fun k hk => match k, hk with | .g, _ => ⟨s1gg, s2gg, s3gg, s4gg, s5gg⟩ | .b, _ => ⟨s1gb, s2gb, s3gb, s4gb, s5gb⟩)
  have GSF : FnOk l.prog w K mg base (L2.CX l.prog w) 3 fSF _ ["self", "value"] (spSetF Ck XF) := ok_setF FSF L GRg bRg (PySem.W.mg_of X G a_in_range) kRg PC XXF
  have GIRr : FnOk l.prog w K mg base (L2.CX l.prog w) 4 fIR _ ["self", "name", "cap", "level", "floor"] (spIniR Ck XN XC XL XF .r) := ok_iniR (n := 2) (mk := fl3) (Pk := Any) (by decide) FIR L (k := .r) trivial GIE bIE S ⟨s1rr, s2rr, s3rr, s4rr, s5rr⟩ (fun _ _ _ => by kernel_rfl) (fun _ _ _ => by show 3 < 1000; decide) (fun _ _ _ => by kernel_rfl) (fun _ _ _ _ => by kernel_rfl) GSF bSF ⟨m1Sr, m2Sr, m3Sr⟩
  have GIRb : FnOk l.prog w K mg base (L2.CX l.prog w) 4 fIR _ ["self", "name", "cap", "level", "floor"] (spIniR Ck XN XC XL XF .b) := ok_iniR (n := 3) (mk := flG) (Pk := fun k => k.isG = true) (by decide) FIR L (k := .b) rfl GIG bIG S ⟨s1rb, s2rb, s3rb, s4rb, s5rb⟩ (fun _ _ _ => by kernel_rfl) (fun _ _ _ => by show 4 < 1000; decide) (fun _ _ _ => by kernel_rfl) (fun _ _ _ _ => by kernel_rfl) GSF bSF ⟨m1Sb, m2Sb, m3Sb⟩
  have GIB : FnOk l.prog w K mg base (L2.CX l.prog w) 5 fIB _ ["self", "name", "cap", "level", "floor"] (spIniR Ck XN XC XL XF .b) := ok_iniB (fun _ _ _ _ _ => rfl) FIB L GIRb kbR S ⟨s1bb, s2bb, s3bb, s4bb, s5bb⟩
  have MKs : Mks l.prog w K mg base Ck XN XC XL XF fIE fIG fIR fIB _ _ _ _ _ _ _ _ := ⟨PySem.W.mg_of X G a_Envelope, PySem.W.mg_of X G a_Goal, PySem.W.mg_of X G a_Reserve, PySem.W.mg_of X G a_GoalReserve, ⟨n1Ke, n2Ke, n3Ke, n4Ke⟩, ⟨n1Kg, n2Kg, n3Kg, n4Kg⟩, ⟨n1Kr, n2Kr, n3Kr, n4Kr⟩, ⟨n1Kb, n2Kb, n3Kb, n4Kb⟩, GIE.mono (by decide), GIG.mono (by decide), GIRr.mono (by decide), GIB, bIE, bIG, kbR, kbB, fun _ _ _ _ _ => rfl, fun _ _ _ _ _ => rfl⟩
  have GM : FnOk l.prog w K mg base (L2.CX l.prog w) 7 fMade _ ["kind", "name", "cap", "level", "ground"] (spMade Ck XN XC XL XF) := ok_made FMade MKs
  have GC : FnOk l.prog w K mg base CX0 1 fCell _ ["script", "index"] (spCell K) := ok_cell FCell B
  have GD : FnOk l.prog w K mg base CX0 2 fDig _ ["script", "index", "count", "base"] (spDig K) := ok_dig FDig B GC bCell (PySem.W.mg_of X G a_law_cell) kCell
  have Gfree : ∀ k : Kd, ∃ fd, FnOk l.prog w K mg base (L2.CX l.prog w) 5 (match k with | .e => fFE | .g => fFG | .r => fFR | .b => fFB) fd ["self"] (spFree Ck k) ∧ Binds K fd ["self"] [] := fun k => match k with
    | .e => ⟨_, FnOk.cx (GFE.mono (by decide)), bFE⟩
    | .g => ⟨_, FnOk.cx (GFG.mono (by decide)), bFG⟩
    | .r => ⟨_, FnOk.cx (GFr.mono (by decide)), bFR⟩
    | .b => ⟨_, GFB, bFB⟩
  have Gput : ∀ k : Kd, ∃ fd, FnOk l.prog w K mg base (L2.CX l.prog w) 6 (match k with | .e => fPE | .g => fPG | .r => fPE | .b => fPG) fd ["self", "amount"] (spPut Ck XA k) ∧ Binds K fd ["self", "amount"] [] := fun k => match k with
    | .e => ⟨_, GPe .e rfl, bPE⟩
    | .g => ⟨_, GPg, bPG⟩
    | .r => ⟨_, GPe .r rfl, bPE⟩
    | .b => ⟨_, GPb, bPG⟩
  have mFree : ∀ k : Kd, Meth K (Ck k) "free" (match k with | .e => fFE | .g => fFG | .r => fFR | .b => fFB) := fun k => match k with | .e => ⟨m1Fe, m2Fe, m3Fe⟩ | .g => ⟨m1Fg, m2Fg, m3Fg⟩ | .r => ⟨m1Fr, m2Fr, m3Fr⟩ | .b => ⟨m1Fb, m2Fb, m3Fb⟩
  have mPut : ∀ k : Kd, Meth K (Ck k) "put" (match k with | .e => fPE | .g => fPG | .r => fPE | .b => fPG) := fun k => match k with | .e => ⟨m1Pe, m2Pe, m3Pe⟩ | .g => ⟨m1Pg, m2Pg, m3Pg⟩ | .r => ⟨m1Pr, m2Pr, m3Pr⟩ | .b => ⟨m1Pb, m2Pb, m3Pb⟩
  have mCkT : ∀ k : Kd, Meth K (Ck k) "check_take" fCT := fun k => match k with | .e => ⟨m1Qe, m2Qe, m3Qe⟩ | .g => ⟨m1Qg, m2Qg, m3Qg⟩ | .r => ⟨m1Qr, m2Qr, m3Qr⟩ | .b => ⟨m1Qb, m2Qb, m3Qb⟩
  have M : Ms l.prog w K mg base Ck XA XE (fun k => match k with | .e => fPE | .g => fPG | .r => fPE | .b => fPG) (fun k => match k with | .e => fFE | .g => fFG | .r => fFR | .b => fFB) (fun _ => fTk) (fun k => (Gput k).choose) (fun k => (Gfree k).choose) (fun _ => _) :=
    ⟨fun k => (Gput k).choose_spec.1, fun k => (Gput k).choose_spec.2, mPut, fun k => (Gfree k).choose_spec.1, fun k => (Gfree k).choose_spec.2, mFree,
      fun k => ok_take FTk L (ok_ckt (fun {X} h1 h2 => by have z := @passL X; rw [h1, h2] at z; exact z) FCT L GCk bCk (PySem.W.mg_of X G a_check_amount) kCk XXE (Gfree k).choose_spec.1 (Gfree k).choose_spec.2 (mFree k)) bCT (mCkT k), fun _ => bTk, fun k => match k with | .e => ⟨m1Te, m2Te, m3Te⟩ | .g => ⟨m1Tg, m2Tg, m3Tg⟩ | .r => ⟨m1Tr, m2Tr, m3Tr⟩ | .b => ⟨m1Tb, m2Tb, m3Tb⟩⟩
  exact ok_law FLaw B (PySem.W.mg_none_of X G z_set) L GD bDig (PySem.W.mg_of X G a_law_digits) kDig GM bMade (PySem.W.mg_of X G a_law_made) kMade M J PL PR MKs
theorem walk {l : PySem.W.OpenLaw} {q : Program} {loose : List Str} {XP : (Str → Option Value) → Heap → Prop} {YP : World → Heap → Prop} {d : DefRec} {K : Params → PySem.W.Frag} (hn : l.most = some 63) (hdf : d.params.defaults = [])
    (hY : ∀ (w : World) (h : Heap), YP w h → (K w.params).In h)
    (F : ∀ (w : World) (mg : Str → Option Value) (fa : Addr) (h : Heap), (K w.params).In h → h.Ns mainGlobals mg → mg d.name = some (.ref fa) →
      ∃ fd : FuncData, (∀ (s : Shared) (u : Value), BindsTo s fd ⟨[u], []⟩ [("script", u)]) ∧ ∀ base : Heap, (K w.params).In base → base.Ns mainGlobals mg → FnOk l.prog w (K w.params) mg base CX0 8 fa fd ["script"] (spLaw (K w.params))) :
    PySem.W.WalkO q loose XP YP l.row.toRowW d [] (fun f vs => PySem.call f vs) :=
  L2.walk_of (n := 63) (k := 8) (x := "script") (CX := fun _ => CX0) (sp := fun w => spLaw (K w.params)) hn (by decide) hdf ⟨rfl, by decide, by decide⟩ hY F (fun _ _ a ns hl _ hS => ⟨a, ns, rfl, hS, hl, fun _ => rfl⟩) fun _ _ _ _ _ z => z
end Ev
open PySem PySem.W PyProof.Rows
set_option maxRecDepth 100000 in
set_option maxHeartbeats 0 in
theorem PySem.Challenge.cw_fillorder_k03_whole_goals_that_keep_a_fl_holds : PySem.Challenge.rw_fillorder_k03_whole_goals_that_keep_a_fl.Holds := by
  w_on; o_law; k_head; (case hw => w_witness2)
  k_fill
  refine Ev.walk (l := PySem.Challenge.rw_fillorder_k03_whole_goals_that_keep_a_fl) rfl rfl (fun w h Y => PySem.W.kIn_of Y) ?F
  case F =>
    intro w mg fa h KX G hmg
    refine' Ev.all_mk KX G hmg ?htop ?a_Envelope ?a_Goal ?a_Reserve ?a_GoalReserve ?z_isinstance ?z_int ?z_bool ?z_str ?z_len ?z_all ?z_min ?z_max ?z_range ?z_super ?z_set ?a_LARGEST_AMOUNT ?a_LONGEST_NAME ?a_LETTERS ?a_InvalidName ?x1XN ?x2XN ?x3XN ?x4XN ?a_InvalidCap ?x1XC ?x2XC ?x3XC ?x4XC ?a_InvalidLevel ?x1XL ?x2XL ?x3XL ?x4XL ?a_InvalidFloor ?x1XF ?x2XF ?x3XF ?x4XF ?a_InvalidAmount ?x1XA ?x2XA ?x3XA ?x4XA ?a_NotEnough ?x1XE ?x2XE ?x3XE ?x4XE ?q1CE ?q2CE ?q3CE ?q4CE ?q_labelCE ?q_mostCE ?q_heldCE ?q_doneCE ?q_keptCE ?q1CG ?q2CG ?q3CG ?q4CG ?q_labelCG ?q_mostCG ?q_heldCG ?q_doneCG ?q_keptCG ?q1CR ?q2CR ?q3CR ?q4CR ?q_labelCR ?q_mostCR ?q_heldCR ?q_doneCR ?q_keptCR ?q1CB ?q2CB ?q3CB ?q4CB ?q_labelCB ?q_mostCB ?q_heldCB ?q_doneCB ?q_keptCB ?a_in_range ?a_check_amount ?a_law_cell ?a_law_digits ?a_law_made ?a_law ?lRg ?cRg ?kRg ?lCk ?cCk ?kCk ?p1CapCE ?p1CapCG ?p1CapCR ?p1CapCB ?p2Cap ?p3Cap ?p4Cap ?p1LevCE ?p1LevCG ?p1LevCR ?p1LevCB ?p2Lev ?p3Lev ?p4Lev ?p1RooCE ?p1RooCG ?p1RooCR ?p1RooCB ?p2Roo ?p3Roo ?p4Roo ?p1ReaCG ?p1ReaCB ?p2Rea ?p3Rea ?p4Rea ?p1FloCR ?p1FloCB ?p2Flo ?p3Flo ?p4Flo ?lCap ?cCap ?kCap ?lLev ?cLev ?kLev ?lRoo ?cRoo ?kRoo ?lRea ?cRea ?kRea ?lFlo ?cFlo ?kFlo ?m1Fe ?m2Fe ?m3Fe ?m1Fg ?m2Fg ?m3Fg ?m1Fr ?m2Fr ?m3Fr ?m1Fb ?m2Fb ?m3Fb ?m1Pe ?m2Pe ?m3Pe ?m1Pg ?m2Pg ?m3Pg ?m1Pr ?m2Pr ?m3Pr ?m1Pb ?m2Pb ?m3Pb ?m1Te ?m2Te ?m3Te ?m1Tg ?m2Tg ?m3Tg ?m1Tr ?m2Tr ?m3Tr ?m1Tb ?m2Tb ?m3Tb ?m1Qe ?m2Qe ?m3Qe ?m1Qg ?m2Qg ?m3Qg ?m1Qr ?m2Qr ?m3Qr ?m1Qb ?m2Qb ?m3Qb ?m1Sr ?m2Sr ?m3Sr ?m1Sb ?m2Sb ?m3Sb ?n1Ke ?n2Ke ?n3Ke ?n4Ke ?n1Kg ?n2Kg ?n3Kg ?n4Kg ?n1Kr ?n2Kr ?n3Kr ?n4Kr ?n1Kb ?n2Kb ?n3Kb ?n4Kb ?lFE ?cFE ?kFE ?lFG ?cFG ?kFG ?lFR ?cFR ?kFR ?lFB ?cFB ?kFB ?eFB ?oFB ?vFB ?yFB ?lPE ?cPE ?kPE ?lPG ?cPG ?kPG ?ePG ?oPG ?vPG ?yPG ?lTk ?cTk ?kTk ?lCT ?cCT ?kCT ?lSF ?cSF ?kSF ?lIE ?cIE ?kIE ?dE ?lIG ?cIG ?kIG ?eIG ?oIG ?vIG ?yIG ?dG ?lIR ?cIR ?kIR ?eIR ?oIR ?vIR ?yIR ?dR ?wR ?lIB ?cIB ?kIB ?eIB ?oIB ?vIB ?yIB ?dB ?wB ?s1fb ?s2fb ?s3fb ?s4fb ?s5fb ?s1pg ?s2pg ?s3pg ?s4pg ?s5pg ?s1pb ?s2pb ?s3pb ?s4pb ?s5pb ?s1gg ?s2gg ?s3gg ?s4gg ?s5gg ?s1gb ?s2gb ?s3gb ?s4gb ?s5gb ?s1rr ?s2rr ?s3rr ?s4rr ?s5rr ?s1rb ?s2rb ?s3rb ?s4rb ?s5rb ?s1bb ?s2bb ?s3bb ?s4bb ?s5bb ?op ?u0 ?u1 ?u2 ?u3 ?u4 ?u5 ?u6 ?lN ?cN ?kN ?j1CE ?j2CE ?j1CG ?j2CG ?j1CR ?j2CR ?j1CB ?j2CB ?j3 ?j4 ?i_bg ?i_br ?i_be ?i_gr ?i_rg ?i_eg ?lCell ?cCell ?kCell ?lDig ?cDig ?kDig ?lMade ?cMade ?kMade ?lLaw ?cLaw ?kLaw
    (case htop => first | rfl | decide +kernel)
    (case a_Envelope => k_is)
    (case a_Goal => k_is)
    (case a_Reserve => k_is)
    (case a_GoalReserve => k_is)
    (case z_isinstance => k_is)
    (case z_int => k_is)
    (case z_bool => k_is)
    (case z_str => k_is)
    (case z_len => k_is)
    (case z_all => k_is)
    (case z_min => k_is)
    (case z_max => k_is)
    (case z_range => k_is)
    (case z_super => k_is)
    (case z_set => k_is)
    (case a_LARGEST_AMOUNT => k_is)
    (case a_LONGEST_NAME => k_is)
    (case a_LETTERS => k_is)
    (case a_InvalidName => k_is)
    (case x1XN => k_exc)
    (case x2XN => k_is)
    (case x3XN => k_is)
    (case x4XN => k_is)
    (case a_InvalidCap => k_is)
    (case x1XC => k_exc)
    (case x2XC => k_is)
    (case x3XC => k_is)
    (case x4XC => k_is)
    (case a_InvalidLevel => k_is)
    (case x1XL => k_exc)
    (case x2XL => k_is)
    (case x3XL => k_is)
    (case x4XL => k_is)
    (case a_InvalidFloor => k_is)
    (case x1XF => k_exc)
    (case x2XF => k_is)
    (case x3XF => k_is)
    (case x4XF => k_is)
    (case a_InvalidAmount => k_is)
    (case x1XA => k_exc)
    (case x2XA => k_is)
    (case x3XA => k_is)
    (case x4XA => k_is)
    (case a_NotEnough => k_is)
    (case x1XE => k_exc)
    (case x2XE => k_is)
    (case x3XE => k_is)
    (case x4XE => k_is)
    (case q1CE => k_is)
    (case q2CE => k_is)
    (case q3CE => k_is)
    (case q4CE => k_is)
    (case q_labelCE => k_is)
    (case q_mostCE => k_is)
    (case q_heldCE => k_is)
    (case q_doneCE => k_is)
    (case q_keptCE => k_is)
    (case q1CG => k_is)
    (case q2CG => k_is)
    (case q3CG => k_is)
    (case q4CG => k_is)
    (case q_labelCG => k_is)
    (case q_mostCG => k_is)
    (case q_heldCG => k_is)
    (case q_doneCG => k_is)
    (case q_keptCG => k_is)
    (case q1CR => k_is)
    (case q2CR => k_is)
    (case q3CR => k_is)
    (case q4CR => k_is)
    (case q_labelCR => k_is)
    (case q_mostCR => k_is)
    (case q_heldCR => k_is)
    (case q_doneCR => k_is)
    (case q_keptCR => k_is)
    (case q1CB => k_is)
    (case q2CB => k_is)
    (case q3CB => k_is)
    (case q4CB => k_is)
    (case q_labelCB => k_is)
    (case q_mostCB => k_is)
    (case q_heldCB => k_is)
    (case q_doneCB => k_is)
    (case q_keptCB => k_is)
    (case a_in_range => k_is)
    (case a_check_amount => k_is)
    (case a_law_cell => k_is)
    (case a_law_digits => k_is)
    (case a_law_made => k_is)
    (case a_law => k_is)
    (case lRg => k_is)
    (case cRg => k_is)
    (case kRg => k_is)
    (case lCk => k_is)
    (case cCk => k_is)
    (case kCk => k_is)
    (case p1CapCE => k_is)
    (case p1CapCG => k_is)
    (case p1CapCR => k_is)
    (case p1CapCB => k_is)
    (case p2Cap => k_is)
    (case p3Cap => k_is)
    (case p4Cap => k_is)
    (case p1LevCE => k_is)
    (case p1LevCG => k_is)
    (case p1LevCR => k_is)
    (case p1LevCB => k_is)
    (case p2Lev => k_is)
    (case p3Lev => k_is)
    (case p4Lev => k_is)
    (case p1RooCE => k_is)
    (case p1RooCG => k_is)
    (case p1RooCR => k_is)
    (case p1RooCB => k_is)
    (case p2Roo => k_is)
    (case p3Roo => k_is)
    (case p4Roo => k_is)
    (case p1ReaCG => k_is)
    (case p1ReaCB => k_is)
    (case p2Rea => k_is)
    (case p3Rea => k_is)
    (case p4Rea => k_is)
    (case p1FloCR => k_is)
    (case p1FloCB => k_is)
    (case p2Flo => k_is)
    (case p3Flo => k_is)
    (case p4Flo => k_is)
    (case lCap => k_is)
    (case cCap => k_is)
    (case kCap => k_is)
    (case lLev => k_is)
    (case cLev => k_is)
    (case kLev => k_is)
    (case lRoo => k_is)
    (case cRoo => k_is)
    (case kRoo => k_is)
    (case lRea => k_is)
    (case cRea => k_is)
    (case kRea => k_is)
    (case lFlo => k_is)
    (case cFlo => k_is)
    (case kFlo => k_is)
    (case m1Fe => k_is)
    (case m2Fe => k_is)
    (case m3Fe => k_is)
    (case m1Fg => k_is)
    (case m2Fg => k_is)
    (case m3Fg => k_is)
    (case m1Fr => k_is)
    (case m2Fr => k_is)
    (case m3Fr => k_is)
    (case m1Fb => k_is)
    (case m2Fb => k_is)
    (case m3Fb => k_is)
    (case m1Pe => k_is)
    (case m2Pe => k_is)
    (case m3Pe => k_is)
    (case m1Pg => k_is)
    (case m2Pg => k_is)
    (case m3Pg => k_is)
    (case m1Pr => k_is)
    (case m2Pr => k_is)
    (case m3Pr => k_is)
    (case m1Pb => k_is)
    (case m2Pb => k_is)
    (case m3Pb => k_is)
    (case m1Te => k_is)
    (case m2Te => k_is)
    (case m3Te => k_is)
    (case m1Tg => k_is)
    (case m2Tg => k_is)
    (case m3Tg => k_is)
    (case m1Tr => k_is)
    (case m2Tr => k_is)
    (case m3Tr => k_is)
    (case m1Tb => k_is)
    (case m2Tb => k_is)
    (case m3Tb => k_is)
    (case m1Qe => k_is)
    (case m2Qe => k_is)
    (case m3Qe => k_is)
    (case m1Qg => k_is)
    (case m2Qg => k_is)
    (case m3Qg => k_is)
    (case m1Qr => k_is)
    (case m2Qr => k_is)
    (case m3Qr => k_is)
    (case m1Qb => k_is)
    (case m2Qb => k_is)
    (case m3Qb => k_is)
    (case m1Sr => k_is)
    (case m2Sr => k_is)
    (case m3Sr => k_is)
    (case m1Sb => k_is)
    (case m2Sb => k_is)
    (case m3Sb => k_is)
    (case n1Ke => k_is)
    (case n2Ke => k_is)
    (case n3Ke => k_is)
    (case n4Ke => k_is)
    (case n1Kg => k_is)
    (case n2Kg => k_is)
    (case n3Kg => k_is)
    (case n4Kg => k_is)
    (case n1Kr => k_is)
    (case n2Kr => k_is)
    (case n3Kr => k_is)
    (case n4Kr => k_is)
    (case n1Kb => k_is)
    (case n2Kb => k_is)
    (case n3Kb => k_is)
    (case n4Kb => k_is)
    (case lFE => k_is)
    (case cFE => k_is)
    (case kFE => k_is)
    (case lFG => k_is)
    (case cFG => k_is)
    (case kFG => k_is)
    (case lFR => k_is)
    (case cFR => k_is)
    (case kFR => k_is)
    (case lFB => k_is)
    (case cFB => k_is)
    (case kFB => k_is)
    (case eFB => k_is)
    (case oFB => k_is)
    (case vFB => rfl)
    (case yFB => first | rfl | decide +kernel)
    (case lPE => k_is)
    (case cPE => k_is)
    (case kPE => k_is)
    (case lPG => k_is)
    (case cPG => k_is)
    (case kPG => k_is)
    (case ePG => k_is)
    (case oPG => k_is)
    (case vPG => rfl)
    (case yPG => first | rfl | decide +kernel)
    (case lTk => k_is)
    (case cTk => k_is)
    (case kTk => k_is)
    (case lCT => k_is)
    (case cCT => k_is)
    (case kCT => k_is)
    (case lSF => k_is)
    (case cSF => k_is)
    (case kSF => k_is)
    (case lIE => k_is)
    (case cIE => k_is)
    (case kIE => k_is)
    (case dE => k_is)
    (case lIG => k_is)
    (case cIG => k_is)
    (case kIG => k_is)
    (case eIG => k_is)
    (case oIG => k_is)
    (case vIG => rfl)
    (case yIG => first | rfl | decide +kernel)
    (case dG => k_is)
    (case lIR => k_is)
    (case cIR => k_is)
    (case kIR => k_is)
    (case eIR => k_is)
    (case oIR => k_is)
    (case vIR => rfl)
    (case yIR => first | rfl | decide +kernel)
    (case dR => k_is)
    (case wR => k_is)
    (case lIB => k_is)
    (case cIB => k_is)
    (case kIB => k_is)
    (case eIB => k_is)
    (case oIB => k_is)
    (case vIB => rfl)
    (case yIB => first | rfl | decide +kernel)
    (case dB => k_is)
    (case wB => k_is)
    (case s1fb => k_is)
    (case s2fb => ks_is)
    (case s3fb => k_is)
    (case s4fb => k_is)
    (case s5fb => k_is)
    (case s1pg => k_is)
    (case s2pg => ks_is)
    (case s3pg => k_is)
    (case s4pg => k_is)
    (case s5pg => k_is)
    (case s1pb => k_is)
    (case s2pb => ks_is)
    (case s3pb => k_is)
    (case s4pb => k_is)
    (case s5pb => k_is)
    (case s1gg => k_is)
    (case s2gg => ks_is)
    (case s3gg => k_is)
    (case s4gg => k_is)
    (case s5gg => k_is)
    (case s1gb => k_is)
    (case s2gb => ks_is)
    (case s3gb => k_is)
    (case s4gb => k_is)
    (case s5gb => k_is)
    (case s1rr => k_is)
    (case s2rr => ks_is)
    (case s3rr => k_is)
    (case s4rr => k_is)
    (case s5rr => k_is)
    (case s1rb => k_is)
    (case s2rb => ks_is)
    (case s3rb => k_is)
    (case s4rb => k_is)
    (case s5rb => k_is)
    (case s1bb => k_is)
    (case s2bb => ks_is)
    (case s3bb => k_is)
    (case s4bb => k_is)
    (case s5bb => k_is)
    (case op => k_is)
    (case u0 => k_is)
    (case u1 => k_is)
    (case u2 => k_is)
    (case u3 => k_is)
    (case u4 => k_is)
    (case u5 => k_is)
    (case u6 => k_is)
    (case lN => k_is)
    (case cN => k_is)
    (case kN => k_is)
    (case j1CE => k_is)
    (case j2CE => k_is)
    (case j1CG => k_is)
    (case j2CG => k_is)
    (case j1CR => k_is)
    (case j2CR => k_is)
    (case j1CB => k_is)
    (case j2CB => k_is)
    (case j3 => k_is)
    (case j4 => k_is)
    (case i_bg => kit_is)
    (case i_br => kit_is)
    (case i_be => kit_is)
    (case i_gr => kit_is)
    (case i_rg => kit_is)
    (case i_eg => kit_is)
    (case lCell => k_is)
    (case cCell => k_is)
    (case kCell => k_is)
    (case lDig => k_is)
    (case cDig => k_is)
    (case kDig => k_is)
    (case lMade => k_is)
    (case cMade => k_is)
    (case kMade => k_is)
    (case lLaw => k_is)
    (case cLaw => k_is)
    (case kLaw => k_is)
