import PyProof.Rows.All
import Wide.All
import OpenK.AllK
import Wide.FinOn
import HandS.ForMost
import HandS.ForExc
import HandS.Lambda
import HandS.Nested
import HandS.EndTab
import HandS.Conv
import HandS.Zip
import HandS.SetFor
import HandS.TupAny
import HandS.Gcd
import HandS.Wide
import HandS.WideBits
import HandS.IsInst
import HandS.ExcIs
import HandS.Flow
import KE.KMathGC
import KE.GoesMore
import PyProof.EnumMake
import PyProof.Draws
import HandS.ExcInit
import HandS.ExcSuper
import HandS.ExcField
import HandS.FStr
import KE.KExcSuper
import KE.KSuper
import HandS.TupMul
import KE.KTupSum
import KE.KExcIs
import HandS.Style
import PySem.Challenge.RW_swapshelves_k01_plans_validated
set_option Elab.async false
set_option linter.all false
set_option maxRecDepth 100000
section
open PySem PySem.W PyProof.Rows
set_option maxHeartbeats 0
open_top head for PySem.Challenge.rw_swapshelves_k01_plans_validated
end
set_option maxHeartbeats 4000000
/-! lambdas as values: made with or without one default, called where their cells still hold -/
namespace Sv
open PySem PySem.Spec PyProof.Rows L2 LamX NdefX

/-- a lambda: its text, what it captured, its defaults, its code object -/
structure LF where
  params : Arguments
  body : Expr
  scope : Scope
  qual : Str
  cl : List (Str × Addr)
  dV : Value
  c : Addr
def LF.fd (L : LF) (pm ctv : Value) : FuncData :=
  { PySem.W.kla_fn "<lambda>" L.qual L.params L.body L.scope L.cl pm (.ref L.c) ctv with defaults := L.dV }
def LF.obj (L : LF) (pm ctv : Value) : Obj := { cls := .type "function", data := .func (L.fd pm ctv) }
def LamO (f : Addr) (L : LF) : HO := .ext fun h => ∃ (od : Option Addr) (sl : Array (Option Value)) (pm ctv : Value), h.get? f = some (⟨.type "function", od, .func (L.fd pm ctv), sl⟩ : Obj)
theorem lamO_tbl {f : Addr} {L : LF} (ps : Array Value) : LamO f L ≠ .tbl ps := fun z => by
  unfold LamO at z
  cases z
theorem lamO_at {P : Program} {w : World} {H : Hp} {h : Heap} {f : Addr} {L : LF} (hok : HOk P w H h) (e : H f = some (LamO f L)) :
    ∃ (od : Option Addr) (sl : Array (Option Value)) (pm ctv : Value), h.get? f = some (⟨.type "function", od, .func (L.fd pm ctv), sl⟩ : Obj) := (hok f _ e).1

section
variable {M : Model} {A : Around} {E : Value → Shared → Prop} {s : Shared} {qual : Str} {params : Arguments} {body : Expr} {scope : Scope} {env : Env} {c P : Addr} {ps : Array Value}
  {pos : Pos} {fl : Nat} {mg : Str → Option Value} {clos : List (Str × Addr)} {dV : Value} {Q : Value → Shared → Prop}
/-- the end of its making, the code object new -/
theorem tail_new (hcl : closureFor scope env = pure clos) (hge : env.globals = mainGlobals) (hg : s.heap.Ns mainGlobals mg) (hcode : env.code = .ref c) (C : PySem.W.CodeHd s.heap c P)
    (hP : s.heap.get? P = some { cls := .none, data := .fields ps }) (ht : TriplesOk ps.toList) (hnf : codeAmong pos ps.toList = none) (hgP : mainGlobals ≠ P) (hb : s.heap.BuiltinsAt mg P)
    (h : ∀ c' ctv h' tk, Heap.ExtBut P s.heap h' → s.heap.objs.size ≤ c' → c' < h'.objs.size → h'.CodeRec (.ref c') qual →
      h'.get? P = some { cls := .none, data := .fields (ps ++ #[rawInt pos.line, rawInt pos.col, .ref c']) } →
      Q (.ref h'.objs.size) { s with heap := h'.push (LF.obj ⟨params, body, scope, qual, clos, dV, c'⟩ ((mg "__name__").getD .none) ctv), toks := tk }) :
    wpAny M A (makeTail "<lambda>" qual params (.expr body) scope env dV .none none pos fl) Q E s := by
  obtain ⟨bm, ob, e1, e2, _, e3, e4, e5, e6, e7⟩ := hb
  unfold makeTail
  rw [hcl, hge]
  refine wpAny_bind (wpAny_pure ?_)
  by_cases hz : clos.isEmpty = true
  · rw [if_pos hz]
    refine wpAny_bind (wpAny_pure (wpAny_bind (wpAny_functionCodeX hcode (C.code hP ht) (C.tab hP) hnf fun c' h' tk x1 x2 x3 _ x4 x5 _ => ?_)))
    have g1 := hg.extBut x1 hgP
    refine wpAny_bind (wpAny_builtinsFor g1 e1 e2 (x1 _ _ e3 e4) e5 e6 e7 (wpAny_bind (wpAny_nsGet g1 ?_)))
    exact wpAny_bind (wpAny_pure (wpAny_newObj_type (h c' .none h' tk x1 x2 x3 x4 x5.2) (by size_fits)))
  · rw [if_neg hz]
    refine wpAny_bind (wpAny_newTextTuple ?_)
    have kp : ∀ (oT : Obj) b o, s.heap.get? b = some o → (s.heap.push oT).get? b = some o := fun oT b o e => Heap.get?_push_of_some _ e
    refine wpAny_bind (wpAny_functionCodeX hcode ((C.keeps (kp _)).code (kp _ _ _ hP) ht) ((C.keeps (kp _)).tab (kp _ _ _ hP)) hnf fun c' h' tk x1 x2 x3 _ x4 x5 _ => ?_)
    have g1 := (hg.push _).extBut x1 hgP
    have x1' : Heap.ExtBut P s.heap h' := fun b o n e => x1 b o n (kp _ b o e)
    have x2' : s.heap.objs.size ≤ c' := Nat.le_trans (by rw [Heap.size_push]; omega) x2
    refine wpAny_bind (wpAny_builtinsFor g1 e1 e2 (x1' _ _ e3 e4) e5 e6 e7 (wpAny_bind (wpAny_nsGet g1 ?_)))
    exact wpAny_bind (wpAny_pure (wpAny_newObj_type (h c' _ h' tk x1' x2' x3 x4 x5.2) (by size_fits)))
/-- .. the code object found -/
theorem tail_hit {c' : Addr} (hcl : closureFor scope env = pure clos) (hge : env.globals = mainGlobals) (hg : s.heap.Ns mainGlobals mg) (hcode : env.code = .ref c) (C : PySem.W.CodeHd s.heap c P)
    (hP : s.heap.get? P = some { cls := .none, data := .fields ps }) (ht : TriplesOk ps.toList) (hf : codeAmong pos ps.toList = some (.ref c')) (hb : s.heap.BuiltinsAt mg P)
    (h : ∀ (ctv : Value) (h' : Heap) (tk : Tok), (∀ b o, s.heap.get? b = some o → h'.get? b = some o) → s.heap.objs.size ≤ h'.objs.size →
      Q (.ref h'.objs.size) { s with heap := h'.push (LF.obj ⟨params, body, scope, qual, clos, dV, c'⟩ ((mg "__name__").getD .none) ctv), toks := tk }) :
    wpAny M A (makeTail "<lambda>" qual params (.expr body) scope env dV .none none pos fl) Q E s := by
  obtain ⟨bm, ob, e1, e2, _, e3, e4, e5, e6, e7⟩ := hb
  unfold makeTail
  rw [hcl, hge]
  refine wpAny_bind (wpAny_pure ?_)
  by_cases hz : clos.isEmpty = true
  · rw [if_pos hz]
    refine wpAny_bind (wpAny_pure (wpAny_bind (wpAny_functionCode_hit hcode (C.code hP ht) hf ?_)))
    refine wpAny_bind (wpAny_builtinsFor hg e1 e2 e4 e5 e6 e7 (wpAny_bind (wpAny_nsGet hg ?_)))
    exact wpAny_bind (wpAny_pure (wpAny_newObj_type (h .none s.heap s.toks (fun _ _ e => e) (Nat.le_refl _)) (by size_fits)))
  · rw [if_neg hz]
    refine wpAny_bind (wpAny_newTextTuple ?_)
    have kp : ∀ (oT : Obj) b o, s.heap.get? b = some o → (s.heap.push oT).get? b = some o := fun oT b o e => Heap.get?_push_of_some _ e
    refine wpAny_bind (wpAny_functionCode_hit hcode ((C.keeps (kp _)).code (kp _ _ _ hP) ht) hf ?_)
    refine wpAny_bind (wpAny_builtinsFor (hg.push _) e1 e2 (kp _ _ _ e4) e5 e6 e7 (wpAny_bind (wpAny_nsGet (hg.push _) ?_)))
    have sz : ∀ oT : Obj, s.heap.objs.size ≤ (s.heap.push oT).objs.size := fun oT => by rw [Heap.size_push]; omega
    exact wpAny_bind (wpAny_pure (wpAny_newObj_type (h _ _ s.toks (kp _) (sz _)) (by size_fits)))
end

section
variable {X : Cx} {pins : List (Addr × Obj)} {σ : L2.St} {H : Hp} {s : Shared}
/-- a function object just made is known from now on -/
theorem inv_lam {L : LF} {t' : Nat} {pm ctv : Value} (I : Inv X pins σ H s) :
    Inv X pins σ (upd H s.heap.objs.size (LamO s.heap.objs.size L)) { s with heap := s.heap.push (L.obj pm ctv), toks := t' } := by
  refine I.laid (a := s.heap.objs.size) (fun b u e => Heap.get?_push_of_some _ e) (Nat.le_refl _) ?_
  have e : (s.heap.push (L.obj pm ctv)).get? s.heap.objs.size = some (L.obj pm ctv) := Heap.get?_push_size _ rfl
  exact ⟨⟨_, _, pm, ctv, e⟩, ⟨_, e⟩, fun h1 h2 ⟨a1, a2, a3, a4, z⟩ st => ⟨a1, a2, a3, a4, st _ z⟩⟩
/-- what is asked of the makers' tables -/
structure LamT (X : Cx) (T : List (Addr × Str)) (c P : Addr) : Prop where
  tb : TabB X.base X.mg c P
  code : X.env.code = .ref c
  mem : (P, X.env.qual ++ "<lambda>") ∈ T
  uni : ∀ p ∈ T, p.1 = P → p.2 = X.env.qual ++ "<lambda>"
theorem lam_tail {T : List (Addr × Str)} {c P : Addr} {params : Arguments} {body : Expr} {scope : Scope} {pos : Pos} {fl : Nat} {dV : Value} {E : Value → Shared → Prop} {Q : Value → Shared → Prop} (I : Inv X pins σ H s) (LT : LamT X T c P)
    (hT : Tabs T H) (hfree : ∀ y ∈ scope.names, y.2 = .free → ∃ c, X.env.cells.lookup y.1 = some c)
    (h : ∀ (f c' : Addr) (H1 : Hp) (s' : Shared), Inv X pins σ H1 s' → ExtN H H1 → (∀ b, H1 b = none → H b = none) → Tabs T H1 → H f = none →
      H1 f = some (LamO f ⟨params, body, scope, X.env.qual ++ "<lambda>", cloFrom X.env.cells scope.names [], dV, c'⟩) → H1 c' = some (CodeO c' (X.env.qual ++ "<lambda>")) → Q (.ref f) s') :
    wpAny (model X.prog X.w) X.A (makeTail "<lambda>" (X.env.qual ++ "<lambda>") params (.expr body) scope X.env dV .none none pos fl) Q E s := by
  obtain ⟨ps, hP, ht, ha⟩ := hT _ LT.mem
  have bP : s.heap.BuiltinsAt X.mg P := LT.tb.bm.keeps I.bk
  have gP : s.heap.get? P = some { cls := .none, data := .fields ps } := I.hok P _ hP
  cases hc : codeAmong pos ps.toList with
  | none =>
    refine tail_new (mg := X.mg) (c := c) (P := P) (ps := ps) (closure_ok hfree) I.ok.glob (I.mod.glob.keeps I.bk) LT.code (LT.tb.code.keeps I.bk) gP ht hc LT.tb.gP bP fun c' ctv h' tk x1 x2 x3 x4 x5 => ?_
    obtain ⟨c2, oc, vs, t, e2, hoc, hd, hv⟩ := x4
    cases e2
    have nC : H c' = none := I.hok.fresh x2
    have I1 := inv_table (t' := tk) (more := #[rawInt pos.line, rawInt pos.col, .ref c']) (h' := h') I hP (fun b o hb e => x1 b o hb e) x5 x2 ⟨oc, vs, t, hoc, hd, hv⟩
    generalize hG : upd (upd H P (.tbl (ps ++ #[rawInt pos.line, rawInt pos.col, .ref c']))) c' (CodeO c' (X.env.qual ++ "<lambda>")) = G at I1
    have atC : G c' = some (CodeO c' (X.env.qual ++ "<lambda>")) := by rw [← hG]; exact upd_same
    have hE : ExtN H G := fun b o e n => by
      rw [← hG, upd_ne (ne_of_none e nC), upd_ne (fun z => n ps (Option.some.inj (e.symm.trans (by rw [z]; exact hP))))]
      exact e
    have eL : (ps ++ #[rawInt pos.line, rawInt pos.col, .ref c']).toList = ps.toList ++ [rawInt pos.line, rawInt pos.col, .ref c'] := by simp
    have T1 : Tabs T G := fun p hp => by
      by_cases hb : p.1 = P
      · rw [LT.uni p hp hb, hb]
        refine ⟨_, by rw [← hG, upd_ne (ne_of_none hP nC), upd_same], by rw [eL]; exact PySem.TriplesOk_snoc _ _ _ _ ht, fun p' cv hcv => ?_⟩
        rw [eL] at hcv
        rcases among_app _ ht hcv with z | z
        · obtain ⟨c0, q1, q2⟩ := ha p' cv z
          exact ⟨c0, q1, hE _ _ q2 codeO_ne⟩
        · exact ⟨c', z, atC⟩
      · obtain ⟨ps', a1, a2, a3⟩ := hT p hp
        refine ⟨ps', by rw [← hG, upd_ne (ne_of_none a1 nC), upd_ne hb]; exact a1, a2, fun p' cv hcv => ?_⟩
        obtain ⟨c0, q1, q2⟩ := a3 p' cv hcv
        exact ⟨c0, q1, hE _ _ q2 codeO_ne⟩
    have nF := I1.hok.fresh (Nat.le_refl _)
    have I2 := inv_lam (L := ⟨params, body, scope, X.env.qual ++ "<lambda>", cloFrom X.env.cells scope.names [], dV, c'⟩) (t' := tk) (pm := (X.mg "__name__").getD .none) (ctv := ctv) I1
    refine h h'.objs.size c' _ _ I2 (fun b o e n => ?_) (fun b e => ?_) (T1.ext fun b o e => ?_) (I.hok.fresh (Nat.le_trans x2 (Nat.le_of_lt x3))) upd_same ?_
    · exact (upd_ne (ne_of_none (hE b o e n) nF)).trans (hE b o e n)
    · have e1 := upd_none e
      rw [← hG] at e1
      exact upd_none (upd_none e1)
    · exact (upd_ne (ne_of_none e nF)).trans e
    · exact (upd_ne (Nat.ne_of_lt x3)).trans atC
  | some cv =>
    obtain ⟨c', e, hco⟩ := ha pos cv hc
    subst e
    refine tail_hit (mg := X.mg) (c := c) (P := P) (ps := ps) (closure_ok hfree) I.ok.glob (I.mod.glob.keeps I.bk) LT.code (LT.tb.code.keeps I.bk) gP ht hc bP fun ctv h' tk x1 x2 => ?_
    have I1 : Inv X pins σ H { s with heap := h', toks := tk } := I.kept x1
    have nF : H h'.objs.size = none := I1.hok.fresh (Nat.le_refl _)
    have I2 := inv_lam (L := ⟨params, body, scope, X.env.qual ++ "<lambda>", cloFrom X.env.cells scope.names [], dV, c'⟩) (t' := tk) (pm := (X.mg "__name__").getD .none) (ctv := ctv) I1
    refine h h'.objs.size c' _ _ I2 (fun b o e n => ?_) (fun b e => upd_none e) (hT.ext fun b o e => ?_) nF upd_same ?_
    · exact (upd_ne (ne_of_none e nF)).trans e
    · exact (upd_ne (ne_of_none e nF)).trans e
    · exact (upd_ne (ne_of_none hco nF)).trans hco
end
/-- what the defaults' place holds -/
def DflAt (H : Hp) (dV : Value) (dvs : List V) : Prop := (dvs = [] ∧ dV = .none) ∨ (dvs ≠ [] ∧ ∃ T, dV = .ref T ∧ H T = some (.tup dvs))
/-- the reading of a lambda: a new function, mk its datum -/
def tLamV (T : List (Addr × Str)) (dvs : List V) (mk : Value → Addr → LF) : TE := fun _ H Q => Tabs T H ∧ ∀ (f c' : Addr) (dV : Value) (H1 : Hp), ExtN H H1 → (∀ b, H1 b = none → H b = none) → Tabs T H1 → H f = none →
  H1 f = some (LamO f (mk dV c')) → H1 c' = some (CodeO c' (mk dV c').qual) → DflAt H1 dV dvs → Q (.ref f) H1
section
variable {X : Cx}
theorem pe_lam0 {T : List (Addr × Str)} {c P : Addr} {params : Arguments} {body : Expr} {scope : Scope} {pos : Pos} (LT : LamT X T c P) (hd : defaultsOf params X.env = ([], []))
    (hfree : ∀ y ∈ scope.names, y.2 = .free → X.env.scope.names.lookup y.1 = some .cell ∨ X.env.scope.names.lookup y.1 = some .free) :
    PE X (.Lambda params body scope pos) (tLamV T [] fun dV c' => ⟨params, body, scope, X.env.qual ++ "<lambda>", cloFrom X.env.cells scope.names [], dV, c'⟩) := by
  refine ⟨fun pins s σ H Q I ⟨hT, h⟩ => PySem.W.kla_eval hd ?_⟩
  rw [makeFunction_eq]
  simp only [List.zip_nil_right, List.filterMap_nil, List.isEmpty_nil, if_true, pure_bind]
  have hf : ∀ y ∈ scope.names, y.2 = .free → ∃ c, X.env.cells.lookup y.1 = some c := fun y hy e => (hfree y hy e).elim (fun z => I.ok.has _ (.inl z)) fun z => I.ok.has _ (.inr z)
  exact lam_tail I LT hT hf fun f c' H1 s' I1 a1 a2 a3 a4 a5 a6 => ⟨.ref f, H1, I1, rfl, h f c' .none H1 a1 a2 a3 a4 a5 a6 (.inl ⟨rfl, rfl⟩)⟩
theorem pe_lam1 {T : List (Addr × Str)} {c P : Addr} {params : Arguments} {body : Expr} {scope : Scope} {pos : Pos} {i j : Int} {jn : Nat} {p2 : Pos} (LT : LamT X T c P)
    (hd : defaultsOf params X.env = ([eval (.Constant (.int i) jn p2) X.env], []))
    (hfree : ∀ y ∈ scope.names, y.2 = .free → X.env.scope.names.lookup y.1 = some .cell ∨ X.env.scope.names.lookup y.1 = some .free) :
    PE X (.Lambda params body scope pos) (tLamV T [.int i] fun dV c' => ⟨params, body, scope, X.env.qual ++ "<lambda>", cloFrom X.env.cells scope.names [], dV, c'⟩) := by
  refine ⟨fun pins s σ H Q I ⟨hT, h⟩ => ?_⟩
  rw [arm_eval_Lambda, hd]
  have hf : ∀ y ∈ scope.names, y.2 = .free → ∃ c, X.env.cells.lookup y.1 = some c := fun y hy e => (hfree y hy e).elim (fun z => I.ok.has _ (.inl z)) fun z => I.ok.has _ (.inr z)
  refine wpAny_bind (wpAny_evalAll_cons (thn ((pe_int (X := X) (i := i) (j := jn) (pos := p2)).run pins s σ H (fun v H1 => v = .int i ∧ H1 = H) I ⟨rfl, rfl⟩) fun u s1 ⟨v, H1, I1, r1, q1⟩ => ?_))
  obtain ⟨ev, eH⟩ := q1
  subst ev
  subst eH
  refine wpAny_evalAll_nil (wpAny_bind (wpAny_holding (wpAny_pure ?_)))
  rw [makeFunction_eq]
  simp only [List.zip_nil_right, List.filterMap_nil, List.isEmpty_nil, if_true, pure_bind, List.isEmpty_cons, Bool.false_eq_true, if_false]
  refine wpAny_bind (wpAny_newTextTuple ?_)
  have nT := I1.hok.fresh (Nat.le_refl s1.heap.objs.size)
  have I2 : Inv X pins σ (upd H1 s1.heap.objs.size (.tup [.int i])) { s1 with heap := s1.heap.push { cls := .type "tuple", data := .seq [u].toArray } } := by
    refine I1.laid (t' := s1.toks) (fun b o e => Heap.get?_push_of_some _ e) (Nat.le_refl _) ⟨(by decide : (1 : Nat) ≤ sizeLine), [u], .cons r1 .nil, ?_⟩
    exact ⟨_, Heap.get?_push_size _ rfl, rfl, ⟨_, rfl⟩⟩
  have hT2 : Tabs T (upd H1 s1.heap.objs.size (.tup [.int i])) := hT.ext fun b o e => by
    rw [upd_ne (ne_of_none e nT)]
    exact e
  refine lam_tail I2 LT hT2 hf fun f c' H2 s' I3 a1 a2 a3 a4 a5 a6 => ⟨.ref f, H2, I3, rfl, h f c' _ H2 (fun b o e n => ?_) (fun b e => upd_none (a2 b e)) a3 (upd_none a4) a5 a6 (.inr ⟨List.cons_ne_nil _ _, _, rfl, ?_⟩)⟩
  · exact a1 b o (by rw [upd_ne (ne_of_none e nT)]; exact e) n
  · exact a1 _ _ upd_same (fun ps z => nomatch z)
end
end Sv


set_option maxHeartbeats 4000000
/-! what a lambda promises; its call where only the state at the entry knows its cells -/
namespace Sv
open PySem PySem.Spec PyProof.Rows L2 LamX NdefX

def LF.nf (L : LF) : NF := ⟨"<lambda>", L.qual, L.params, [], L.scope, L.cl, L.c⟩
/-- how the defaults bind -/
def LBinds (L : LF) (ps : List Str) (dvs : List V) : Prop := ∀ (H : Hp) (P : Program) (w : World) (s : Shared), HOk P w H s.heap → DflAt H L.dV dvs →
  ∃ us, Vals dvs us ∧ ∀ pm ctv, BindsTo s (L.fd pm ctv) ⟨[], []⟩ (ps.zip us)
theorem lbinds0 {L : LF} (h : ∀ q cl pm cv ctv, bindArgs (PySem.W.kla_fn "<lambda>" q L.params L.body L.scope cl pm cv ctv) ⟨[], []⟩ = pure []) : LBinds L [] [] := fun H P w s hok d => by
  rcases d with ⟨_, e⟩ | ⟨e, _⟩
  · refine ⟨[], .nil, fun pm ctv => .of_eq ?_⟩
    have z := h L.qual L.cl pm (.ref L.c) ctv
    unfold LF.fd
    rw [e]
    exact z
  · exact absurd rfl e
theorem lbinds1 {L : LF} {a : Str} {v : V} (h : ∀ q cl pm cv ctv (T : Addr) (u : Value), ∃ k, bindArgs { PySem.W.kla_fn "<lambda>" q L.params L.body L.scope cl pm cv ctv with defaults := .ref T } ⟨[], []⟩ = seqItems? (.ref T) >>= k ∧
    k (some [u].toArray) = pure [(a, u)]) : LBinds L [a] [v] := fun H P w s hok d => by
  rcases d with ⟨e, _⟩ | ⟨_, T, e, hT⟩
  · cases e
  · obtain ⟨_, its, r, o, ho, _, n, hd⟩ := hok T _ hT
    obtain ⟨u, rfl, ru⟩ := Vals.one r
    refine ⟨[u], .cons ru .nil, fun pm ctv M A Q E q => ?_⟩
    obtain ⟨k, e1, e2⟩ := h L.qual L.cl pm (.ref L.c) ctv T u
    unfold LF.fd
    rw [e]
    rw [e1]
    refine wpAny_bind (wpAny_seqItems ho hd ?_)
    rw [e2]
    exact wpAny_pure q

/-- the promise of the lambda L at f, its cells holding ws -/
structure LOk (P : Program) (w : World) (K : PySem.W.Frag) (mg : Str → Option Value) (base : Heap) (k : Nat) (f : Addr) (L : LF) (fr : List Str) (dvs : List V) (tl : List (Option V) → XK → Hp → VK → Prop) : Prop where
  run : ∀ (A : Around) (outer : List Env) (s : Shared) (H : Hp) (ws : List (Option V)) (Q : VK) (E : XK), Room k A → Env0 P w K mg base A outer s H → H f = some (LamO f L) → H L.c = some (CodeO L.c L.qual) → DflAt H L.dV dvs →
    CellsAt L.cl fr ws s.heap H → tl ws E H Q → codeAny (model P w) A (.call (.ref f) ⟨[], []⟩) (CR (L2.CX P w) outer P w H s Q E) s
section
variable {P : Program} {w : World} {K : PySem.W.Frag} {mg : Str → Option Value} {base : Heap} {N ps fr : List Str} {L : LF} {f : Addr} {k : Nat} {dvs : List V} {tl : List (Option V) → XK → Hp → VK → Prop}
theorem lok_of (S : NScope N ps fr L.scope) (hb : LBinds L ps dvs) (hl : dvs.length = ps.length)
    (hbody : ∀ (A : Around) (outer : List Env) (s : Shared) (H : Hp) (ws : List (Option V)) (Q : VK) (E : XK), Room k (A.deeper (envF L.nf f s.heap.objs.size)) → ws.length = fr.length → tl ws E H Q →
      ∃ t, PE (ncx (L2.CX P w) P w K mg base N L.nf f A outer s H E) L.body t ∧ t (startF N dvs ws) H Q) : LOk P w K mg base (k + 1) f L fr dvs tl := by
  refine ⟨fun A outer s H ws Q E hr e0 hf hc hd C ht => ?_⟩
  have lim : s.heap.NoLimit := e0.mod.nolimit.keeps fun b o e => (e0.bs b o e).1
  obtain ⟨od, sl, pm, ctv, ho⟩ := lamO_at e0.hok hf
  obtain ⟨us, r, hbi⟩ := hb H P w s e0.hok hd
  obtain ⟨⟨oc, vs, t, hoc, hdc, hvc⟩, _, _⟩ := e0.hok L.c _ hc
  have hus : us.length = ps.length := by rw [← r.length]; exact hl
  refine PySem.W.kla_callFunE hr.depth ho rfl S.co S.gen rfl ⟨L.c, oc, vs, t, rfl, hoc, hdc, hvc⟩ (hbi pm ctv _ _ _ _ ?_)
  refine wpAny_newFunctionEnv S.nocell (fun ⟨n, _⟩ hy => S.par n (List.of_mem_zip hy).1) (fun h₁ hns hsb => ⟨lim.fresh _ hsb, ?_⟩) S.kind
  show codeAny _ _ (.expr L.body (envF L.nf f s.heap.objs.size)) _ _
  have kp : ∀ b o, s.heap.get? b = some o → h₁.get? b = some o := fun b o e => hsb.extBut b o (Nat.ne_of_lt (Heap.lt_size e)) (Heap.get?_push_of_some _ e)
  obtain ⟨t, hp, hq⟩ := hbody A outer s H ws Q E (hr.deeper _) C.len ht
  have I : Inv (ncx (L2.CX P w) P w K mg base N L.nf f A outer s H E) [] (startF N dvs ws) H { s with heap := h₁, toks := s.toks + (ps.zip us).length } := inv_startN (F := L.nf) S hr.hd e0 hl r C hns kp
  refine PySem.W.kla_codeExpr (wpAny_mono (hp.run [] _ _ H Q I hq) (fun u s' hs => ?_) fun e s' hs => hs)
  obtain ⟨v', H', J, rv, q⟩ := hs
  exact ⟨v', H', J.os, J.bare, J.base, J.hok, rv, q⟩
theorem LOk.mono {j : Nat} (o : LOk P w K mg base j f L fr dvs tl) (h : j ≤ k) : LOk P w K mg base k f L fr dvs tl := ⟨fun A outer s H ws Q E hr => o.run A outer s H ws Q E (hr.mono h)⟩
end
/-- what the cells held they hold behind anything that keeps the untracked -/
theorem cells_later {fs ex : List Addr} {cl : List (Str × Addr)} {fr : List Str} {ws : List (Option V)} {h h1 : Heap} {H H1 : Hp} (C : CellsAt cl fr ws h H) (nf : ∀ y c, cl.lookup y = some c → c ∉ fs) (nx : ∀ y c, cl.lookup y = some c → c ∉ ex) (u : Un fs ex H H1 h h1) :
    CellsAt cl fr ws h1 H1 := by
  have kp : ∀ y c, cl.lookup y = some c → ∀ v, h.IsCell c v → h1.IsCell c v := fun y c e v ⟨o, ho, hd⟩ => ⟨o, u.keep c o ho (C.all y c e).1 (nf y c e) (nx y c e), hd⟩
  refine ⟨C.len, fun y c e => ?_, C.inj, fun i y e => ?_⟩
  · obtain ⟨n, v, z⟩ := C.all y c e
    refine ⟨?_, v, kp y c e v z⟩
    obtain ⟨o, ho, _⟩ := z
    exact u.free c o ho n (nx y c e)
  · obtain ⟨c, hc, hv⟩ := C.has i y e
    refine ⟨c, hc, fun v ev => ?_⟩
    obtain ⟨uu, r, z⟩ := hv v ev
    exact ⟨uu, r, kp y c hc _ z⟩
/-- no cell of the running frame is one of the frames that run -/
def Far (X : Cx) : Prop := ∀ y c, X.env.cells.lookup y = some c → c ∉ frs X.stack
theorem far_def {X : Cx} {pins : List (Addr × Obj)} {σ : L2.St} {H : Hp} {s : Shared} (I : Inv X pins σ H s) (hf : ∀ y, X.fn y = true) : Far X := fun y c e hm => by
  rcases List.mem_cons.mp (I.stkSub c hm) with z | z
  · exact I.cne y c e z
  · obtain ⟨_, o, ho, _⟩ := I.ok.funs.mem z
    exact Nat.lt_irrefl _ (Nat.lt_of_lt_of_le (Heap.lt_size ho) (I.ok.cab y c (hf y) e))
/-- what is known where a comprehension's block begins -/
structure Blk0 (X : Cx) (σ : L2.St) (s : Shared) (H : Hp) (cl : List (Str × Addr)) (fp : List Addr) : Prop where
  inv : ∃ pins, Inv X pins σ H s ∧ ∀ b ∈ fp, FpOk X pins H b
  far : Far X → ∀ y c, cl.lookup y = some c → c ∉ frs X.stack
theorem blk_far {X : Cx} {pins : List (Addr × Obj)} {σ : L2.St} {H : Hp} {s : Shared} {scope : Scope} (I : Inv X pins σ H s) (hfree : ∀ y ∈ scope.names, y.2 = .free → ∃ c, X.env.cells.lookup y.1 = some c) (F : Far X) :
    ∀ y c, (cellsFrom (s.heap.objs.size + 1) scope.names (cloFrom X.env.cells scope.names [])).lookup y = some c → c ∉ frs X.stack := fun y c e hm => by
  rw [← Heap.size_push s.heap { cls := .type "dict", data := .dict #[] }] at e
  rcases cells_mem (PySem.mem_of_lookup e) with z | ⟨_, z, _⟩
  · rcases cloFrom_mem z with z | ⟨h1, h2⟩
    · cases z
    · obtain ⟨c1, hc⟩ := hfree _ h1 rfl
      have e2 : c = c1 := by
        rw [h2, hc]
        rfl
      exact F y c (by rw [e2]; exact hc) hm
  · rw [Heap.size_push] at z
    obtain ⟨_, o, ho, _⟩ := I.stack.mem hm
    exact Nat.lt_irrefl _ (Nat.lt_of_lt_of_le (Heap.lt_size ho) (Nat.le_of_succ_le z))
section
variable {X : Cx}
/-- a comprehension whose element may know the state where the block begins -/
theorem pe_lcI {elt tg iter : Expr} {ifs : List Expr} {scope : Scope} {own : List (Str × Nat)} {pos : Pos} {wi : TI} {g : TG} {tt : L2.St → TT} {te : L2.St → TE} (hc : X.calm = true) (hN : X.N.Nodup) (hi : PI X tg iter wi) (ok : BlkOk X.N X.env.scope scope own)
    (hg : ∀ (s : Shared) (H : Hp) (C : Addr) (cl : List (Str × Addr)) (fp : List Addr), PG (X.blk s H scope (compEnvC scope cl C X.env) fp) tg g)
    (ht : ∀ (σ : L2.St) (s : Shared) (H : Hp) (C : Addr) (cl : List (Str × Addr)) (fp : List Addr), Blk0 X σ s H cl fp → PTs (X.blk s H scope (compEnvC scope cl C X.env) fp) ifs (tt σ))
    (he : ∀ (σ : L2.St) (s : Shared) (H : Hp) (C : Addr) (cl : List (Str × Addr)) (fp : List Addr), Blk0 X σ s H cl fp → PE (X.blk s H scope (compEnvC scope cl C X.env) fp) elt (te σ))
    (hs : ∀ x, foldedSetIterable iter X.env x = pure x := by intro _; rfl) :
    PE X (.ListComp elt [⟨tg, iter, ifs, 0⟩] scope pos) (fun σ H Q => tLc wi g (tt σ) (te σ) (own.map (·.2)) σ H Q) := by
  refine ⟨fun pins s σ H Q I h => ?_⟩
  have hfree : ∀ y ∈ scope.names, y.2 = .free → ∃ c, X.env.cells.lookup y.1 = some c := fun y hy e => (ok.free y hy e).elim (fun k => I.ok.has _ (.inl k)) fun k => I.ok.has _ (.inr k)
  rw [eval_ListComp]
  refine wpAny_comprehension_free (use := none) rfl hs (closure_ok hfree) ok.kind (fun y hy e => by rw [ok.uniq y hy, e]) (thn (hi.run pins s σ H _ I h) fun xv s1 hx => thn hx fun itv s2 h2 => ?_)
  obtain ⟨it, fp, tn, J, H2, rfl, I2, T, st2, f2, q⟩ := h2
  refine wpAny_newObj_type (newEnv_comp ?_) (by show 0 ≤ sizeLine; decide)
  have nD : H2 s2.heap.objs.size = none := I2.hok.fresh (Nat.le_refl _)
  obtain ⟨W, ⟨m0, w0⟩, turn⟩ := q _ nD
  generalize hD : s2.heap.objs.size = D at nD w0 turn ⊢
  generalize hs3 : ({ s2 with heap := s2.heap.push { cls := .type "list", data := .seq ([] : List Value).toArray } } : Shared) = s3
  have h3 : s3.heap = s2.heap.push { cls := .type "list", data := .seq ([] : List Value).toArray } := by rw [← hs3]
  have I3 : Inv X pins σ (upd H2 D (.lst [])) s3 := by
    rw [← hs3]
    refine I2.laid (t' := s2.toks) (fun b o e => Heap.get?_push_of_some _ e) (Nat.le_of_eq hD) ⟨Nat.zero_le _, [], 0, .nil, ?_⟩
    rw [← hD]
    exact Heap.get?_push_size _ rfl
  have f3 : ∀ b ∈ fp, FpOk X pins (upd H2 D (.lst [])) b ∧ b < s3.heap.objs.size := fun b hb => by
    obtain ⟨o, e, _⟩ := T.obj _ _ st2 b hb
    have hlt := Heap.lt_size e
    refine ⟨⟨?_, (f2 b hb).2⟩, by rw [h3, Heap.size_push]; exact Nat.lt_succ_of_lt hlt⟩
    rw [upd_ne (by rw [← hD]; exact Nat.ne_of_lt hlt)]
    exact (f2 b hb).1
  have st3 : tn 0 s3.heap := T.keep _ _ _ st2 fun b _ o e => by rw [h3]; exact Heap.get?_push_of_some _ e
  have I4 := block_start I3 ok hN f3
  have K0 : Blk0 X σ s3 (upd H2 D (.lst [])) (cellsFrom (s3.heap.objs.size + 1) scope.names (cloFrom X.env.cells scope.names [])) fp := ⟨⟨pins, I3, fun b hb => (f3 b hb).1⟩, blk_far I3 hfree⟩
  have pg := hg s3 (upd H2 D (.lst [])) s3.heap.objs.size (cellsFrom (s3.heap.objs.size + 1) scope.names (cloFrom X.env.cells scope.names [])) fp
  have pt := ht σ s3 (upd H2 D (.lst [])) s3.heap.objs.size _ fp K0
  have pe := he σ s3 (upd H2 D (.lst [])) s3.heap.objs.size _ fp K0
  have nfp : ∀ b ∈ fp, (upd H2 D (.lst [])) b = none := fun b hb => (f3 b hb).1.1
  have fin0 : ∀ (C : Addr) (s' : Shared) (m : Str → Option Value) (H' : Hp), Inv X pins σ H' s' → Q (.ref D) H' → s'.heap.Ns C m → FpOk X pins H' C →
      compPost (model X.prog X.w) X.A X.xe none (fun u s' => EP X pins σ Q u s') (.ref D) C (.ok .next) s' := fun C s' m H' I' qq hn f =>
    ⟨m, hn, fun h'' sb => ⟨.ref D, H', I'.turned (t' := s'.toks) (fun b o hb e => (sb.2 b hb).trans e) f.1 f.2.1 f.2.2.2.1 f.2.2.2.2.1 f.2.2.2.2.2, rfl, qq⟩⟩
  generalize hce : compEnvC scope (cellsFrom (s3.heap.objs.size + 1) scope.names (cloFrom X.env.cells scope.names [])) s3.heap.objs.size X.env = ce at I4 pg pt pe
  have cL : ce.locals = s3.heap.objs.size := by subst hce; rfl
  generalize hH3 : upd H2 D (.lst []) = H3 at I3 I4 pg pt pe w0 nfp f3
  show codeAny _ _ (.compStart (.ListComp elt [⟨tg, iter, ifs, 0⟩] scope pos) 0 (.ref it) (.ref D) (compEnvC scope (cellsFrom (s3.heap.objs.size + 1) scope.names (cloFrom X.env.cells scope.names [])) s3.heap.objs.size X.env)) (compPost (model X.prog X.w) X.A X.xe none _ (.ref D) s3.heap.objs.size) { s3 with heap := pushCells (s3.heap.push { cls := .type "dict", data := .dict #[] }) scope.names }
  rw [hce]
  generalize hs4 : ({ s3 with heap := pushCells (s3.heap.push { cls := .type "dict", data := .dict #[] }) scope.names } : Shared) = s4 at I4 ⊢
  have st4 : tn 0 s4.heap := T.keep _ _ _ st3 fun b _ o e => by rw [← hs4]; exact pushCells_keeps _ _ _ _ (Heap.get?_push_of_some _ e)
  let Y : Cx := X.blk s3 H3 scope ce fp
  have stat : ∀ {σ' : L2.St} {H' : Hp} {s' : Shared}, Inv Y [] σ' H' s' → (∀ b ∈ fp, H' b = none) → ∀ b ∈ fp, FpOk Y [] H' b := fun {σ' H' s'} I' hn b hb =>
    ⟨hn b hb, (I'.ok.exf b hb).1, I'.ok.exfs b hb, .inl hb, fun x c e => (I'.ok.exf b hb).2 x c e, fun p hp => absurd (show p ∈ ([] : List (Addr × Obj)) ++ [] from hp) (by simp)⟩
  refine codeAny_compStart_list ?loop (T.self X.A 0 _ _ _ st4 ?loop)
  refine compLoop_any (fun n s' => ∃ i H', Inv Y [] (wipe σ (own.map (·.2))) H' s' ∧ tn i s'.heap ∧ (∀ b ∈ fp, H' b = none) ∧ W i n H') ?_ m0 ⟨0, H3, I4, st4, nfp, w0⟩
  rintro n s5 ⟨i, H5, I5, st5, n5, w5⟩
  rcases turn i n H5 w5 with ⟨stop, qq⟩ | ⟨go, Nx, hNx, step⟩
  · refine thnF (T.done Y rfl rfl rfl hc i [] s5 _ H5 (fun _ _ => False) I5 (stat I5 n5) st5 stop) fun r s6 ⟨hr, I6⟩ => ?_
    subst hr
    have I7 : Inv X pins σ H5 s6 := I3.call' (ch := fp) I6.os I6.base I6.hok I6.bare fun b hb => ⟨(f3 b hb).1.2.2.2.1, (f3 b hb).1.2.1, (f3 b hb).1.2.2.2.2.1, (f3 b hb).1.2.2.2.2.2⟩
    have nC : H5 s3.heap.objs.size = none := by
      have z : H5 ce.locals = none := I6.free
      rw [cL] at z
      exact z
    obtain ⟨m, hn, _⟩ := I6.loc
    have hn : s6.heap.Ns ce.locals m := hn
    rw [cL] at hn
    exact fin0 s3.heap.objs.size s6 m H5 I7 qq hn (I3.fpOk (Nat.le_refl _) nC)
  · refine thnF (T.item Y rfl rfl rfl hc i [] s5 _ H5 (fun _ _ => False) I5 (stat I5 n5) st5 go) fun r s6 ⟨u, hr, h6⟩ => ?_
    subst hr
    refine thnF h6 fun _ s7 ⟨x, H7, I7, r7, y7, st7, n7⟩ => ?_
    have I7' := I7.pinned (stat I7 n7) (T.obj _ _ st7)
    refine thnF (pg.run _ s7 _ H7 x u _ I7' r7 (step x H7 y7)) fun _ s8 ⟨σ8, H8, I8, hw8, q8⟩ => ?_
    refine thnF (pt.run _ s8 σ8 H8 _ I8 q8) fun b s9 ⟨H9, I9, q9⟩ => ?_
    have fin : ∀ {s' : Shared} {H' : Hp}, Inv Y ([] ++ pinsAt fp s7.heap) σ8 H' s' → Nx H' → ∃ m, m < n ∧ ∃ i H', Inv Y [] (wipe σ (own.map (·.2))) H' s' ∧ tn i s'.heap ∧ (∀ b ∈ fp, H' b = none) ∧ W i m H' := fun {s' H'} I' nx => by
      obtain ⟨m', hm, w'⟩ := hNx H' nx
      have pin' : ∀ b ∈ fp, ∀ o, s7.heap.get? b = some o → s'.heap.get? b = some o ∧ H' b = none := fun b hb o e =>
        let z := I'.pin (b, o) (List.mem_append_right _ (List.mem_append_right _ (mem_pinsAt hb e)))
        ⟨z.1, z.2.1⟩
      refine ⟨m', hm, i + 1, H', (I'.unpinned (pins := [])).weak (by rw [← hw8, wipe_length]) (fun j v e => ?_), T.keep _ _ _ st7 fun b hb o e => (pin' b hb o e).1, fun b hb => ?_, w'⟩
      · rw [← hw8] at e
        exact (wipe_some e).1
      · obtain ⟨o, e, _⟩ := T.obj _ _ st7 b hb
        exact (pin' b hb o e).2
    cases b with
    | false =>
      simp only [Bool.false_eq_true, if_false] at q9 ⊢
      exact fin I9 q9
    | true =>
      simp only [if_true] at q9 ⊢
      refine thnF (pe.run _ s9 σ8 H9 _ I9 q9) fun z s10 ⟨yv, H10, I10, r10, acc, hD10, hz10, nx⟩ => ?_
      exact app_ok (X := Y) I10 hD10 hz10 r10 fun s11 I11 => fin I11 nx
end
end Sv


set_option maxHeartbeats 4000000
/-! a def that is handed a lambda and calls it -/
namespace Sv
open PySem PySem.Spec PyProof.Rows L2 LamX NdefX

/-- at this state the lambda stands at f, its cells hold ws -/
structure LamAt (P : Program) (w : World) (K : PySem.W.Frag) (mg : Str → Option Value) (base : Heap) (k : Nat) (fs : List Addr) (s : Shared) (H : Hp) (f : Addr) (L : LF) (fr : List Str) (dvs : List V) (ws : List (Option V)) (tl : List (Option V) → XK → Hp → VK → Prop) : Prop where
  fn : H f = some (LamO f L)
  code : H L.c = some (CodeO L.c L.qual)
  dfl : DflAt H L.dV dvs
  ok : LOk P w K mg base k f L fr dvs tl
  cells : CellsAt L.cl fr ws s.heap H
  far : ∀ y c, L.cl.lookup y = some c → c ∉ fs
section
variable {CXg : CXT} {P : Program} {w : World} {K : PySem.W.Frag} {mg : Str → Option Value} {base : Heap} {Ng : List Str} {qg : Str} {sg : Scope} {g : Addr} {cdg : Value} {A : Around} {outer : List Env} {s : Shared} {H : Hp} {Eg : XK}
  {k i : Nat} {a : Str} {pn : List (Addr × Obj)} {xe : Value → Shared → Prop} {W : WX} {E : XK} {f : Addr} {L : LF} {fr : List Str} {dvs : List V} {ws : List (Option V)} {tl : List (Option V) → XK → Hp → VK → Prop} {p1 p2 : Pos}
/-- x() in the def that was handed the lambda -/
theorem pe_actL (LA : LamAt P w K mg base k (frs outer) s H f L fr dvs ws tl) (tk : Takes ((cxOf CXg P w K mg base Ng qg sg g cdg A outer s H Eg).tr pn xe) W)
    (hr : Room k (A.deeper (envOfC qg sg s.heap.objs.size g cdg))) (hN : Ng[i]? = some a) (hv : Vis sg a) (hd : (a == ("__debug__" : Str)) = false := by decide) (hcd : (a == ("__classdict__" : Str)) = false := by decide) :
    PE ((cxOf CXg P w K mg base Ng qg sg g cdg A outer s H Eg).tr pn xe) (.Call (.Name a p1) [] [] p2)
      (fun σZ HZ Q => σZ[i]? = some (some (.ref f)) ∧ HZ f = some (LamO f L) ∧ HZ L.c = some (CodeO L.c L.qual) ∧ DflAt HZ L.dV dvs ∧ ∃ (E' : XK) (Q' : VK), (∀ cls d H', E' cls d H' → W cls d σZ H') ∧ (∀ v H', Q' v H' → Q v H') ∧ tl ws E' HZ Q') := by
  refine ⟨fun pinsZ sZ σZ HZ Q IZ ⟨hs, h1, h2, h3, E', Q', hE, hQ, h4⟩ => ?_⟩
  refine wpAny_Call_Name_kw (thn ((pe_var (pos := p1) hN hv hd hcd).run pinsZ sZ σZ HZ (fun v H1 => v = .ref f ∧ H1 = HZ) IZ ⟨.ref f, hs, rfl, rfl⟩) fun u s1 ⟨v, H1, I1, r1, e1, e2⟩ => ?_)
  subst e1
  subst e2
  obtain rfl : u = Value.ref f := r1
  obtain ⟨od, sl, pm, ctv, ho⟩ := lamO_at I1.hok h1
  refine PySem.W.callWith_F0 ⟨_, _, _, _, ho⟩ ?_
  have C1 : CellsAt L.cl fr ws s1.heap H1 := cells_later (fs := frs outer) (ex := []) LA.cells LA.far (fun y c e z => nomatch z) I1.base
  refine wpAny_call (codeAny_mono (LA.ok.run _ _ s1 H1 ws Q' E' hr I1.env0 h1 h2 h3 C1 h4) fun r s' hq => ?_)
  cases r with
  | error e => exact tk e s' (XE.of_call I1 hE hq)
  | ok fl =>
    cases fl with
    | ret u =>
      obtain ⟨v', H', J, rv, q⟩ := I1.after hq
      exact ⟨v', H', J, rv, hQ _ _ q⟩
    | next => exact False.elim hq
    | brk => exact False.elim hq
    | cont => exact False.elim hq
end
/-- a def of one parameter, its promise told of the very state -/
structure FnSt (P : Program) (w : World) (K : PySem.W.Frag) (mg : Str → Option Value) (base : Heap) (k : Nat) (g : Addr) (Kn : List Addr → Shared → Hp → V → VK → Prop) : Prop where
  run : ∀ (A : Around) (outer : List Env) (s : Shared) (H : Hp) (u : Value) (v : V) (Q : VK), Room k A → Env0 P w K mg base A outer s H → RelV v u → Kn (frs outer) s H v Q → codeAny (model P w) A (.call (.ref g) ⟨[u], []⟩) (CR CX0 outer P w H s Q E0) s
theorem fnst_of {P : Program} {w : World} {K : PySem.W.Frag} {mg : Str → Option Value} {base : Heap} {x : Str} {st : Stmt} {g : Addr} {fd : FuncData} {N : List Str} {a : Str} {k : Nat} {Kn : List Addr → Shared → Hp → V → VK → Prop}
    (F : Fun K x x st g fd) (S : FnScope N [a] (defScope st)) (hb : Binds K fd [a] [])
    (hbody : ∀ (cdv : Value) (A : Around) (outer : List Env) (s : Shared) (H : Hp) (v : V) (Q : VK), Room k (A.deeper (envOfC x (defScope st) s.heap.objs.size g cdv)) → Env0 P w K mg base A outer s H → Kn (frs outer) s H v Q →
      ∃ t, PSs (cxOf CX0 P w K mg base N x (defScope st) g cdv A outer s H E0).nox (defBody st) t ∧ t { nx := fun _ H' => Q .non H', rt := Q } (L2.start N [v]) H) : FnSt P w K mg base (k + 1) g Kn := by
  obtain ⟨oc, od, kV, doc, pm, an, cdv, ct, osl, rfl, lk, hcd⟩ := F.ex
  refine ⟨fun A outer s H u v Q hr e0 r hk => ?_⟩
  refine run_ofS (N := N) (ps := [a]) (us := [u]) (vs := [v]) lk hcd S hr e0 (hb s [u] (e0.mod.kin.keeps fun b o e => (e0.bs b o e).1) rfl) (.cons r .nil) rfl fun hr' => ?_
  obtain ⟨t, ht, hq⟩ := hbody cdv A outer s H v Q hr' e0 hk
  exact ⟨t, ht.nox, hq⟩
section
variable {Y : Cx} {x : Str} {g : Addr} {e : Expr} {te : TE} {k : Nat} {p pos : Pos} {Kn : List Addr → Shared → Hp → V → VK → Prop}
/-- its call -/
theorem pe_callSt (G : FnSt Y.prog Y.w Y.K Y.mg Y.base k g Kn) (hr : Room k Y.A) (hg : Gl Y x) (hm : Y.mg x = some (.ref g)) (hk : PySem.W.keepIn Y.K (.ref g) = true) (he : PE Y e te) (hdb : (x == ("__debug__" : Str)) = false := by decide)
    (hst : starEach [e] Y.env = (false, eval e Y.env) :: starEach [] Y.env := by rfl) : PE Y (.Call (.Name x p) [e] [] pos) (fun σ H Q => te σ H fun v H1 => ∀ pins s, Inv Y pins σ H1 s → Kn (frs Y.stack) s H1 v Q) := by
  refine ⟨fun pins s σ H Q I h => ?_⟩
  refine wpAny_Call_Name_kw (ld_glob I hg hm ?_ hdb)
  refine PySem.W.callWith_K (h₀ := Y.base) I.ok.mod.kin hk (thn ((pa_cons he pa_nil hst).run pos pins s σ H (fun vs H1 => match vs with | [v] => ∀ pins s, Inv Y pins σ H1 s → Kn (frs Y.stack) s H1 v Q | _ => False) I h) fun us s1 ⟨vs, H1, I1, r, q⟩ => ⟨I1.kIn, ?_⟩) hst (by rfl)
  match vs, r, q with
  | [v], r, q =>
    obtain ⟨u, rfl, ru⟩ := Vals.one r
    refine wpAny_call (codeAny_mono (G.run Y.A Y.stack s1 H1 u v Q hr I1.env0 ru (q pins s1 I1)) fun r s' hq => ?_)
    cases r with
    | error e => exact (show False from hq).elim
    | ok fl =>
      cases fl with
      | ret u => exact I1.after hq
      | next => exact False.elim hq
      | brk => exact False.elim hq
      | cont => exact False.elim hq
  | [], _, q => exact q.elim
  | _ :: _ :: _, _, q => exact q.elim
end
end Sv


set_option maxHeartbeats 4000000
/-! a few more rules: enumerate of a tuple, lcm, len(set(tuple)), a count of truth values -/
namespace Sv
open PySem PySem.Spec PyProof.Rows L2
section
open AutoSeq1 (wpAny_loadPart')
theorem enum_newT (l : Addr) (items : Array Value) (n : Nat) (dct : Option Addr) (sl : Array (Option Value)) :
    Meets (Builtin.«enumerate.__new__» ⟨[.type "enumerate", .ref l], []⟩) (fun _ R s => s.heap.get? l = some { cls := .type "tuple", dict := dct, data := .seq items n, slots := sl } ∧
      R (.ok (.ret (.ref (s.heap.push { cls := .type "tuple_iterator", data := .fields #[.ref l, .int 0 0] }).objs.size)))
        { s with heap := (s.heap.push { cls := .type "tuple_iterator", data := .fields #[.ref l, .int 0 0] }).push { cls := .type "enumerate", data := .fields #[.none, .bool false, .ref s.heap.objs.size, rawInt 0, .none, .none] } }) :=
  .of_wp fun prog w A R s h => by
    obtain ⟨hp, g, d, tk, os⟩ := s
    obtain ⟨hl, h⟩ := h
    have hsub := sub_enumerate
    have hL : Heap.IsTuple (Shared.heap ⟨hp, g, d, tk, os⟩) l items := ⟨_, hl, rfl, n, rfl⟩
    wp_walk using wpAny_loadPart' hl
    refine wpAny_stack_any fun st => wpAny_pure ?_
    split
    · rename_i c _ _ _ _ _
      cases (c == Value.type "enumerate")
      · wp_walk using wpAny_loadPart' hl, wpAny_pyIter_tuple hL
        exact ⟨_, rfl, h⟩
      · wp_walk using wpAny_loadPart' hl, wpAny_pyIter_tuple hL
        exact ⟨_, rfl, h⟩
    · wp_walk using wpAny_loadPart' hl, wpAny_pyIter_tuple hL
      exact ⟨_, rfl, h⟩
end
section
variable {prog : Program} {w : World} {A : Around} {E : Value → Shared → Prop} {s : Shared}
theorem call_enumT {l : Addr} {items : Array Value} {Q : Value → Shared → Prop} (hL : s.heap.IsTuple l items)
    (h : ∀ h', IsEnum h' (s.heap.objs.size + 1) s.heap.objs.size 0 .none → h'.IsTupleIter s.heap.objs.size l 0 → h'.objs.size = s.heap.objs.size + 2 → (∀ b o, s.heap.get? b = some o → h'.get? b = some o) → Q (.ref (s.heap.objs.size + 1)) { s with heap := h' }) :
    wpAny (model prog w) A (call (.type "enumerate") [.ref l]) Q E s := by
  obtain ⟨⟨c, dct, dt, sl⟩, hl, hc, n, hd⟩ := hL
  obtain rfl : c = .type "tuple" := hc
  obtain rfl : dt = .seq items n := hd
  refine callType_new F.called_enumerate (by decide) (F.typeCall_enumerate_1 _) (F.newCall_enumerate_1 _) (fun obj => F.args_object_init_2 obj _) F.entry_enumerate_new (enum_newT l items n dct sl) ⟨hl, ?_⟩
  have hz : ∀ o : Obj, (s.heap.push o).objs.size = s.heap.objs.size + 1 := fun o => Heap.size_push ..
  have g2 : ∀ (o1 o2 : Obj), o2.isFreed = false → ((s.heap.push o1).push o2).get? (s.heap.objs.size + 1) = some o2 := fun o1 o2 e => by
    have q := Heap.get?_push_size (s.heap.push o1) (o := o2) e
    rw [hz] at q
    exact q
  show _ ∧ _
  rw [hz]
  refine ⟨⟨_, g2 _ _ rfl, rfl⟩, h _ (g2 _ _ rfl) ⟨_, Heap.get?_push_of_some _ (Heap.get?_push_size _ rfl), rfl, rfl⟩ (by rw [Heap.size_push, hz]) fun b o y => Heap.get?_push_of_some _ (Heap.get?_push_of_some _ y)⟩
end
/-- a tuple's items with their numbers, each in a new pair -/
def IteT (K : PySem.W.Frag) (a : Addr) : It :=
  ⟨fun i H => ∃ (xs : List V) (x : V), SqT K H a xs ∧ xs[i]? = some x, fun i H v H' => ∃ T x, v = .ref T ∧ H T = none ∧ H' = upd H T (.tup [.int (i : Nat), x]) ∧ ∀ xs, SqT K H a xs → xs[i]? = some x,
    fun i H => ∃ xs : List V, SqT K H a xs ∧ i = xs.length⟩
theorem turn_enumT {P : Program} {w : World} {K : PySem.W.Frag} {elts : List Expr} {kk : Nat} {tpos : Pos} (a e it : Addr) (hai : a ≠ it) (hea : e ≠ a) :
    Turn P w K (.Tuple elts kk tpos) (IteT K a) [e, it] e (fun i h => (∃ old, IsEnum h e it ((i : Nat) : Int) old) ∧ h.IsTupleIter it a i ∧ e ≠ it) where
  mem := by simp
  obj := fun i h st b hb => by
    obtain ⟨⟨old, he⟩, ⟨o, ho, hc, hd⟩, _⟩ := st
    rcases (by simpa using hb : b = e ∨ b = it) with z | z
    · subst z
      exact ⟨_, he, fun v q => nomatch q⟩
    · subst z
      exact ⟨o, ho, fun v q => by rw [hd] at q; cases q⟩
  keep := fun i h h' st k => ⟨st.1.elim fun old he => ⟨old, k e (by simp) _ he⟩, st.2.1.at fun o q => k it (by simp) o q, st.2.2⟩
  item := by
    intro X hP hw hK hc i pins s σ H E I hf st hg
    subst hP hw hK
    obtain ⟨⟨old, he⟩, hit, hne⟩ := st
    obtain ⟨xs, x, hq, hx⟩ := hg
    obtain ⟨its, rv, p, hz⟩ := I.tuple hq
    obtain ⟨u, hu, ru⟩ := rv.get hx
    have hi : i < its.toArray.size := by
      obtain ⟨hlt, _⟩ := List.getElem?_eq_some_iff.mp hu
      simpa using hlt
    have hel : e < s.heap.objs.size := Heap.lt_size he
    have hil : it < s.heap.objs.size := by obtain ⟨_, q, _⟩ := hit; exact Heap.lt_size q
    have hh : X.A.in1.handled = none := by
      have := I.ok.hd hc
      simpa using this
    refine wpAny_pyNext_enum_itemD (Draws.tuple hh it a hai its.toArray) he ⟨hit, p⟩ hi hne (by simp; exact ⟨hne, hea⟩) fun y h' tk hy ho hst' hT hsz hk => ?_
    obtain rfl : y = u := by
      have q : its.toArray[i]? = some y := hy
      rw [show its.toArray[i]? = some u by simpa using hu] at q
      exact (Option.some.inj q).symm
    refine ⟨_, rfl, wpAny_letOwnedTupleGo_enum (s := { s with heap := h', toks := tk + 1 }) ho fun h'' he' sb => ?_⟩
    have hT2 : h''.get? s.heap.objs.size = some { cls := .type "tuple", data := .seq #[.int i tk, y] } := (sb.2 _ (Nat.ne_of_gt hel)).trans hT
    have new : ObjOk X.prog X.w (upd H s.heap.objs.size (.tup [.int (i : Nat), x])) h'' s.heap.objs.size (.tup [.int (i : Nat), x]) :=
      ⟨by show 2 ≤ sizeLine; decide, [.int i tk, y], .cons ⟨_, rfl⟩ (.cons ru .nil), ⟨_, hT2, rfl, _, rfl⟩⟩
    have I1 : Inv X pins σ (upd H s.heap.objs.size (.tup [.int (i : Nat), x])) { s with heap := h'', toks := tk + 1 } :=
      I.turnedNew (ch := [e, it]) (fun b ob hb q => (sb.2 b (fun z => hb (by simp [z]))).trans (hk b ob (fun z => hb (by simp [z])) (fun z => hb (by simp [z])) q)) hf (Nat.le_refl _) new
    refine ⟨.ref s.heap.objs.size, _, I1, rfl, ⟨_, x, rfl, I.hok.fresh (Nat.le_refl _), rfl, fun ys hy => by rw [I.tuple_inj hy hq]; exact hx⟩, ⟨⟨y, ?_⟩, hst'.1.at fun o q => (sb.2 it (Ne.symm hne)).trans q, hne⟩, fun b hb => ?_⟩
    · rw [show ((i + 1 : Nat) : Int) = (i : Int) + 1 by omega]
      exact he'
    · have hb' : b < s.heap.objs.size := by
        rcases (by simpa using hb : b = e ∨ b = it) with z | z
        · rw [z]; exact hel
        · rw [z]; exact hil
      rw [upd_ne (Nat.ne_of_lt hb')]
      exact (hf b hb).1
  done := by
    intro X hP hw hK hc i pins s σ H E I hf st hg
    subst hP hw hK
    obtain ⟨⟨old, he⟩, hit, hne⟩ := st
    obtain ⟨xs, hq, hx⟩ := hg
    obtain ⟨its, rv, p, hz⟩ := I.tuple hq
    obtain ⟨f0, f1, f2, f3, f4, f5⟩ := hf it (by simp)
    have hl := rv.length
    have hh : X.A.in1.handled = none := by
      have := I.ok.hd hc
      simpa using this
    refine wpAny_pyNext_enum_endD (Draws.tuple hh it a hai its.toArray) he ⟨?_, p⟩ fun h' eb => ⟨rfl, I.turned (t' := s.toks) (fun b o hb q => eb b o hb q) f0 f1 f3 f4 f5⟩
    rw [List.size_toArray, ← hl, ← hx]
    exact hit
  self := fun A i s Q E st h => let ⟨⟨_, he⟩, _⟩ := st; wpAny_pyIter_enum he h
def iEnumT (K : PySem.W.Frag) (ta : TA) : TI := fun σ H R => ta σ H fun vs H1 => ∃ a xs, vs = [.ref a] ∧ SqT K H1 a xs ∧ R (IteT K a) H1
theorem pi_enumT {X : Cx} {e : Expr} {ta : TA} {p pos tpos : Pos} {elts : List Expr} {kk : Nat} (hg : Gl X "enumerate") (hm : X.mg "enumerate" = none) (ha : PA X [e] ta) (hs : starEach [e] X.env = [(false, eval e X.env)] := by rfl) :
    PI X (.Tuple elts kk tpos) (.Call (.Name "enumerate" p) [e] [] pos) (iEnumT X.K ta) := by
  refine ⟨fun pins s σ H R I h => ?_⟩
  refine Call_ (ld_blt I hg hm boot_enumerate (PyProof.Rows.callWith_type1 (thn (ha.run pos pins s σ H _ I h) fun us s1 ⟨vs, H1, I1, r1, a, xs, ex, hq, q⟩ => ?_) hs rfl))
  subst ex
  obtain rfl := r1.ref1
  obtain ⟨its, rv, p', hz⟩ := I1.tuple hq
  have hal : a < s1.heap.objs.size := (let ⟨_, q, _⟩ := p'; Heap.lt_size q)
  refine call_enumT p' fun h' he hit hsz hk => wpAny_pyIter_enum he ?_
  have I2 : Inv X pins σ H1 { s1 with heap := h' } := I1.kept (t' := s1.toks) hk
  refine ⟨s1.heap.objs.size + 1, [s1.heap.objs.size + 1, s1.heap.objs.size], _, _, H1, rfl, I2, turn_enumT a (s1.heap.objs.size + 1) s1.heap.objs.size (Nat.ne_of_lt hal) (Nat.ne_of_gt (Nat.lt_succ_of_lt hal)), ⟨⟨.none, he⟩, hit, Nat.succ_ne_self _⟩, fun b hb => ?_, q⟩
  have hle : s1.heap.objs.size ≤ b := by
    rcases (by simpa using hb : b = s1.heap.objs.size + 1 ∨ b = s1.heap.objs.size) with z | z
    · rw [z]; exact Nat.le_add_right _ _
    · rw [z]; exact Nat.le_refl _
  exact I1.fpOk hle (I1.hok.fresh hle)
theorem for_enumT {K : PySem.W.Frag} {a : Addr} {xs : List V} {g : TG} {tb : TS} {D : Ends} {σ : L2.St} {H : Hp} (Pv : Nat → L2.St → Hp → Prop) (h0 : Pv 0 σ H) (hl : ∀ i σ H, i ≤ xs.length → Pv i σ H → SqT K H a xs)
    (turn : ∀ i x σ H T, xs[i]? = some x → Pv i σ H → H T = none → g (.ref T) σ (upd H T (.tup [.int (i : Nat), x])) fun σ' H' => tb { nx := fun σ2 H2 => Pv (i + 1) σ2 H2, rt := D.rt, bk := D.nx, ct := fun σ2 H2 => Pv (i + 1) σ2 H2 } σ' H')
    (after : ∀ σ H, Pv xs.length σ H → D.nx σ H) : ∃ W : Nat → Nat → L2.St → Hp → Prop, (∃ m, W 0 m σ H) ∧ ∀ i m σ H, W i m σ H →
      ((IteT K a).stop i H ∧ D.nx σ H) ∨ ((IteT K a).go i H ∧ ∃ Nx : L2.St → Hp → Prop, (∀ σ' H', Nx σ' H' → ∃ m', m' < m ∧ W (i + 1) m' σ' H') ∧ ∀ x H', (IteT K a).yld i H x H' → g x σ H' fun σ2 H2 => tb { nx := Nx, rt := D.rt, bk := D.nx, ct := Nx } σ2 H2) := by
  refine ⟨fun i m σ H => i + m = xs.length ∧ Pv i σ H, ⟨xs.length, Nat.zero_add _, h0⟩, fun i m σ H ⟨em, hP⟩ => ?_⟩
  have hS := hl i σ H (by omega) hP
  by_cases hi : i < xs.length
  · have gx : xs[i]? = some xs[i] := List.getElem?_eq_getElem hi
    refine .inr ⟨⟨xs, _, hS, gx⟩, fun σ' H' => Pv (i + 1) σ' H', fun σ' H' h => ⟨m - 1, by omega, by omega, h⟩, fun x H' hy => ?_⟩
    obtain ⟨T, y, rfl, nT, rfl, hy⟩ := hy
    have ey : y = xs[i] := Option.some.inj ((hy xs hS).symm.trans gx)
    rw [ey]
    exact turn i _ σ H T gx hP nT
  · have e : i = xs.length := by omega
    refine .inl ⟨⟨xs, hS, e⟩, after σ H ?_⟩
    rw [← e]
    exact hP

/-! ### lcm -/
def rLcm : List V → Hp → VK → Prop := fun vs H Q => ∃ a b : Nat, vs = [.int a, .int b] ∧ a < 2 ^ 64 ∧ b < 2 ^ 64 ∧ Q (.int ((Nat.lcm a b : Nat) : Int)) H
theorem cr_lcm {X : Cx} : CallR X (.builtin "math.lcm") rLcm := by
  intro pins s σ H vs us Q I r h
  obtain ⟨a, b, rfl, ha, hb, q⟩ := h
  obtain ⟨t, u, rfl⟩ := Vals.int2 r
  exact PySem.W.mc_lcm (by simpa using ha) (by simpa using hb) fun _ => ⟨.int _, H, I.tok _, ⟨_, rfl⟩, by simpa using q⟩
/-! ### len(set(t)), t a tuple of ints -/
theorem nodup_sub_len : ∀ {l m : List Int}, l.Nodup → (∀ x ∈ l, x ∈ m) → l.length ≤ m.length
  | [], _, _, _ => Nat.zero_le _
  | x :: r, m, nd, h => by
    have hx : x ∈ m := h x (List.mem_cons_self ..)
    have nr := (List.nodup_cons.mp nd)
    have ih := nodup_sub_len (l := r) (m := m.erase x) nr.2 fun y hy => (List.mem_erase_of_ne (fun e => nr.1 (by rw [← e]; exact hy))).mpr (h y (List.mem_cons_of_mem _ hy))
    rw [List.length_erase_of_mem hx] at ih
    have : 0 < m.length := List.length_pos_of_mem hx
    show r.length + 1 ≤ m.length
    omega
theorem nodup_of_len : ∀ {l m : List Int}, m.Nodup → (∀ x ∈ m, x ∈ l) → l.length ≤ m.length → l.Nodup
  | [], _, _, _, _ => List.nodup_nil
  | x :: r, m, nd, h, hl => by
    have hx : x ∉ r := fun hm => by
      have q := nodup_sub_len (l := m) (m := r) nd fun y hy => (List.mem_cons.mp (h y hy)).elim (fun e => by rw [e]; exact hm) id
      simp at hl
      omega
    refine List.nodup_cons.mpr ⟨hx, nodup_of_len (m := m.erase x) (nd.erase x) (fun y hy => ?_) ?_⟩
    · have hm := List.mem_of_mem_erase hy
      rcases List.mem_cons.mp (h y hm) with e | e
      · rw [e] at hy
        exact absurd hy (nd.not_mem_erase)
      · exact e
    · by_cases hm : x ∈ m
      · rw [List.length_erase_of_mem hm]
        simp at hl
        omega
      · rw [List.erase_of_not_mem hm]
        simp at hl
        omega
/-- how many: all of them, just where none stands twice -/
def tLenSetT (K : PySem.W.Frag) (ta : TE) : TE := fun σ H Q => ta σ H fun x H1 => ∃ (l : Addr) (ns : List Int), x = .ref l ∧ SqT K H1 l (ns.map V.int) ∧ ns.length ≤ 4000 ∧ ∀ c : Nat, c ≤ ns.length → (c = ns.length ↔ ns.Nodup) → Q (.int c) H1
theorem pe_lenSetT {X : Cx} {a : Expr} {ta : TE} {p p2 q pos : Pos} (hg : Gl X "len") (hm : X.mg "len" = none) (hg2 : Gl X "set") (hm2 : X.mg "set" = none) (ha : PE X a ta) (hc : X.calm = true := by rfl)
    (na : starEach [a] X.env = (false, eval a X.env) :: starEach [] X.env := by rfl) : PE X (.Call (.Name "len" p) [.Call (.Name "set" p2) [a] [] q] [] pos) (tLenSetT X.K ta) := by
  refine ⟨fun pins s σ H Q I h => Call_ (ld_blt I hg hm boot_len ?_)⟩
  refine PyProof.Rows.callWith_builtin1 (PyProof.Rows.args_cons (Call_ (ld_blt I hg2 hm2 boot_set ?_)) rfl) rfl rfl
  refine PyProof.Rows.callWith_type1 (PyProof.Rows.args_cons (thn (ha.run pins s σ H _ I h) fun v s1 ⟨x, H1, I1, r1, q1⟩ => PyProof.Rows.args_nil ?_) na) na rfl
  obtain ⟨l, ns, rfl, hq, hl, q1⟩ := q1
  cases r1
  obtain ⟨its, r, pl, hz⟩ := I1.tuple hq
  refine call_set_tupI ns (I1.ok.hd hc) pl (by simpa using RZ.intsAre_vals r) (by unfold scanBound; omega) fun h' tk c hS hcl hk => PyProof.Rows.args_nil ?_
  obtain ⟨o, es, ep, t, ho, hex, hd, _, nd, hmem, _, hf, hn, _⟩ := hS
  have I2 : Inv X pins σ H1 { s1 with heap := h', toks := tk } := I1.kept hk
  have hmm : ∀ k, k ∈ es.toList.map keyOf ↔ k ∈ ns := fun k => by rw [← hmem k]; exact decide_eq_true_iff
  have hlen : (es.toList.map keyOf).length = c := by rw [List.length_map, Array.length_toList]; exact hn
  refine call_len_set ho hex hd hf (by rw [hn] <;> omega) ⟨.int c, H1, I2.tok _, ⟨_, by rw [hn]⟩, q1 c hcl ⟨fun e => ?_, fun e => ?_⟩⟩
  · exact nodup_of_len nd (fun x hx => (hmm x).mp hx) (by rw [hlen, e]; exact Nat.le_refl _)
  · have q := nodup_sub_len e fun x hx => (hmm x).mpr hx
    rw [hlen] at q
    omega
/-! ### xs.count(y), y and the items plain -/
theorem count_eqU {x : V} : ∀ {xs : List V} {us : List Value}, Vals xs us → xs.all flatV = true → us.countP (eqU x) = xs.countP fun y => eqV y x
  | _, _, .nil, _ => rfl
  | y :: xs, u :: us, .cons r t, f => by
    rw [List.all_cons, Bool.and_eq_true] at f
    rw [List.countP_cons, List.countP_cons, count_eqU t f.2, eqU_of r f.1]
def rCntV (K : PySem.W.Frag) : V → List V → Hp → VK → Prop := fun x xs H Q => ∃ (p : Addr) (ys : List V) (y : V), x = .ref p ∧ xs = [y] ∧ SqL K H p ys ∧ flatV y = true ∧ ys.all flatV = true ∧ Q (.int (ys.countP fun z => eqV z y : Nat)) H
theorem mt_countV {X : Cx} : MtR X "list.count" (rCntV X.K) := by
  intro pins s σ H x xs v us Q I rx rxs h
  obtain ⟨p, ys, y, rfl, rfl, hs, fy, fys, q⟩ := h
  cases rx
  obtain ⟨u, rfl, ru⟩ := rxs.one
  obtain ⟨its, rv, ⟨⟨cls, dd, data, sl⟩, n, ho, hc, hdn, hd⟩, hlen⟩ := I.list hs
  simp only at hc hd
  subst hc hd
  refine call_meets PySem.F.slot_list_count ⟨_, ho, rfl⟩ PySem.F.entry_list_count (PySem.F.args_list_count_2 _ _)
    (SeqAt.list_countAt p its.toArray n dd sl u (eqU y)) ⟨ho, fun u' hu' => mem_eqAt ru fy rv fys u' (by simpa using hu'), ?_⟩
  refine ⟨.int (ys.countP fun z => eqV z y : Nat), H, I.tok _, ⟨s.toks, ?_⟩, q⟩
  rw [← count_eqU rv fys]
end Sv



set_option maxHeartbeats 4000000
/-! an exception class of the program whose __init__ begins with super().__init__(..) -/
namespace Sv
open PySem PySem.Spec PyProof.Rows L2 NdefX
section
open PySem.W PySem.Calls
variable {prog : Program} {w : World} {A : Around} {E : Value → Shared → Prop} {h : Heap} {g : Array GenState} {d : Drawn} {t : Nat} {os : OsState}
variable {nm q : Str} {C N : Addr} {bs bm : List Value} {hdct : Bool} {sn : List Str} {sub : List Value} {ab : Bool} {col : Option Bool} {dd : Option Addr} {k0 k1 k2 k3 k5 : Option Value}
/-- the bound ValueError.__init__, called -/
theorem call_mw {u e t0 : Addr} {rest : List Value} {Q : Value → Shared → Prop}
    (hC : h.get? C = some (excClassObj nm q C N bs bm hdct sn sub ab col dd k0 k1 k2 k3 k5 "ValueError.__new__")) (he : h.get? e = some (HandSPX.excO C t0)) (hu : h.get? u = some (kxs_mw "ValueError.__init__" e)) (hrest : rest.length ≤ sizeLine)
    (hq : ∀ h' t1, (∀ b o, b ≠ e → h.get? b = some o → h'.get? b = some o) → h'.get? e = some (HandSPX.excO C t1) → Q .none ⟨h', g, d, t, os⟩) :
    wpAny (model prog w) A (call (.ref u) rest) Q E ⟨h, g, d, t, os⟩ := by
  refine wpAny_call (codeAny_of_tree ?_)
  show wpAny _ A.in1 (callAny (.ref u) ⟨rest, []⟩) _ _ _
  simp only [callAny]
  refine wpAny_bind (wpAny_load hu ?_)
  simp only [kxs_mw, show (Value.type "method-wrapper" == Value.type "method" || Value.type "method-wrapper" == Value.type "builtin_function_or_method" || Value.type "method-wrapper" == Value.type "method-wrapper") = true by decide, if_true]
  refine W.KFB.if_so (by decide) ?_
  refine wpAny_bind (ESX.check_bound F.excBase_ValueError hC he rfl ?_)
  refine wpAny_bind (wpAny_pure (wpAny_pure ?_))
  refine ⟨Code.quiet_builtin _ (by decide +kernel), codeAny_builtin F.excBase_ValueError.initEntry ?_⟩
  rw [Around.under_plainId F.excBase_ValueError.init.plain _]
  wp_walk
  refine hq _ h.objs.size (fun b o hb ho => ?_) ?_
  · rw [Heap.get?_update_other _ _ (Ne.symm hb)]
    exact Heap.get?_push_of_some _ ho
  · rw [Heap.get?_update_self _ (Heap.get?_push_of_some _ he) rfl]
    rfl
end
/-- what is asked of such a class and of its __init__ -/
structure SupF (P : Program) (K : PySem.W.Frag) (mg : Str → Option Value) (C fI cc : Addr) (F : NF) (ar : Arg) : Prop where
  T : OexC K C
  cl : F.cl = [(("__class__" : Str), cc)]
  cell : ∃ cl cld csl, K.lookup cc = some ⟨cl, cld, .cell (some (.ref C)), csl⟩
  code : PySem.W.codeIn K (.ref F.c) F.qual = true
  file : ∃ (ccl : Value) (cdd : Option Addr) (vs : Array Value) (ccs : Array (Option Value)) (fl : Str) (tf : Tok), K.lookup F.c = some ⟨ccl, cdd, .fields vs, ccs⟩ ∧ vs[2]? = some (.str fl tf) ∧ ((P.main.file : Str) == fl) = true
  top : (P.main.scope.names.lookup ("super" : Str)).isSome = false
  sup : mg "super" = none
  ks : F.scope.names.lookup ("super" : Str) = some .globalImplicit
  kc : F.scope.names.lookup ("__class__" : Str) = some .free
  hp : (F.params.posonlyargs ++ F.params.args).head? = some ar
  hs : PySem.W.ks_superIn K C C "__init__" = some (some (.builtin "ValueError.__init__"))
  ho : PySem.W.nsIn K PySem.cStatics "thirdparty.any" = some none
  hB : PySem.W.subIn K (.ref C) (.type "ValueError") = some true
  hm : PySem.W.mroIn K C (.ref C) = some true
section
variable {P : Program} {w : World} {K : PySem.W.Frag} {mg : Str → Option Value} {base : Heap} {C fI cc : Addr} {F : NF} {ar : Arg}
theorem boot_super : bootBuiltins "super" = some (.type "super") := by decide +kernel
/-- super().__init__(e) as a statement -/
theorem sup_stmt {X : Cx} {pins : List (Addr × Obj)} {σ : L2.St} {H : Hp} {s : Shared} {a : Addr} {e : Expr} {te : TE} {p0 p1 p2 p3 p4 : Pos} {body : List Stmt} {Q : Flow → Shared → Prop} (S : SupF X.prog X.K X.mg C fI cc F ar) (I : Inv X pins σ H s)
    (henv : X.env = envF F fI X.env.locals) (hf : ∃ oc od osl doc pm ctv, X.K.lookup fI = some ⟨oc, od, .func (F.fd doc pm ctv), osl⟩) (hi : X.N[0]? = some ar.arg) (hσ : σ[0]? = some (some (.ref a))) (hv : X.env.scope.names.lookup ar.arg = some .local) (ha : H a = some (exo a C none)) (he : PE X e te)
    (hst : starEach [e] X.env = (false, eval e X.env) :: starEach [] X.env)
    (hev : ∃ pl, eval (.Call (.Attribute (.Call (.Name "super" p0) [] [] p1) "__init__" p2) [e] [] p3) X.env = (do
      let ov ← attributeBase (.Call (.Name "super" p0) [] [] p1) "__init__" X.env (eval (.Call (.Name "super" p0) [] [] p1) X.env)
      standAt p2.atName
      let (f, first) ← holding [ov] (getMethod ov "__init__" pl)
      callWith p3 f first (backTo p3 (starEach [e] X.env)) []))
    (hin : interactive X.env = false) (hsw : swapsWith (.Call (.Attribute (.Call (.Name "super" p0) [] [] p1) "__init__" p2) [e] [] p3) none p4.line X.env = pure false)
    {W : VK} (h : te σ H W) (hW : ∀ v H1, W v H1 → H1 a = some (exo a C none) ∧ ∀ s', Inv X pins σ H1 s' → Q .next s') :
    _root_.PySem.wpAt (model X.prog X.w) X.A (.func body X.env) (exec (.Expr (.Call (.Attribute (.Call (.Name "super" p0) [] [] p1) "__init__" p2) [e] [] p3) p4) X.env) Q X.xe s := by
  obtain ⟨pl, hev⟩ := hev
  refine PySem.ks_wpAt_Expr_any ?_ hin hsw
  refine PySem.ks_wpAt_MethodCall (pl := pl) ?_ hev
  have KX : X.K.In s.heap := I.kIn
  obtain ⟨cl, cld, csl, hcell⟩ := S.cell
  obtain ⟨ccl, cdd, vs, ccs, fl, tf, hcode, hvs, hfile⟩ := S.file
  obtain ⟨oc, od, osl, doc, pm, ctv, hfo⟩ := hf
  obtain ⟨nm, q, N, bs, bm, sn, sub, ab, col, dd, k0, k1, k2, k3, k5, hC, hbm⟩ := S.T.cls
  have hcl : PySem.W.clsIn X.K C = some { name := nm, bases := bs, mro := .ref C :: bm, ns := N, qualname := q, hasDict := true, slotNames := sn, subclasses := sub, abstract := ab, collection := col, hasDel := false } := by unfold PySem.W.clsIn; rw [hC] <;> rfl
  have ek : ∀ y, X.env.kindOf y = F.scope.names.lookup y := fun y => by rw [henv]; rfl
  have efn : X.env.func = some fI := by rw [henv]
  have eco : X.env.code = .ref F.c := by rw [henv]
  have ecl : X.env.cells = F.cl := by rw [henv]
  refine PySem.ks_wpAt_super_base (ar := ar) (by rw [ek]; exact S.ks) (by rw [ek]; exact S.kc) (by decide) efn (KX _ _ hfo) rfl S.hp eco (KX _ _ hcode) rfl hvs hfile S.top ?_
  obtain ⟨mb, hb1, hb2⟩ := I.mod.blt
  refine PySem.W.ks_loadName_global I.ok.kind (by rw [ek]; exact S.ks) (Calls.loadGlobal_builtin (by rw [I.ok.glob]; exact I.mod.glob.keeps I.bk) S.sup (by rw [I.ok.blt]; exact hb1.keeps I.bk) ((hb2 _ (by decide +kernel)).trans boot_super) ⟨rfl, ?_⟩)
  refine wpAny_loadName_free I.ok.kind (by rw [ek]; exact S.kc) (c := cc) (by rw [ecl, S.cl]; rfl) ⟨_, KX _ _ hcell, rfl⟩ ?_
  obtain ⟨m, hn, hl⟩ := I.loc
  obtain ⟨ua, rua, la⟩ := hl 0 ar.arg (.ref a) hi hσ (.inl hv)
  obtain rfl : ua = Value.ref a := rua
  have hma : m ar.arg = some (.ref a) := by
    rcases la with ⟨_, z⟩ | ⟨z, _⟩
    · exact z
    · have hv' : X.env.kindOf ar.arg = some .local := hv
      rcases z with z | z <;> rw [hv'] at z <;> cases z
  refine wpAny_loadName_local I.ok.kind hv hn hma ?_
  refine PySem.ks_wpAny_isType_cls (KX _ _ hC) rfl ⟨rfl, ?_⟩
  obtain ⟨t1, hoa⟩ := exo_at I.hok ha
  obtain ⟨hp, g, d, tk, os⟩ := s
  refine PySem.ks_wpAny_call_super (C := C) (KX _ _ hC) rfl hoa rfl (fun c z => nomatch z) (PySem.W.looks_mroIn KX S.hm) (fun h' hso kp => ?_)
  have I1 : Inv X pins σ H ⟨h', g, d, tk, os⟩ := I.kept (t' := tk) kp
  have KX1 := I1.kIn
  have IA : PySem.W.InstAt h' a { cls := .ref C, dict := none, data := .fields #[.ref t1, .none, .none, .none, .bool false, .none] } C none := ⟨kp _ _ hoa, rfl, rfl, trivial⟩
  have hm := S.hs
  unfold PySem.W.ks_superIn at hm
  rw [hcl] at hm
  refine PySem.W.kxs_getMethod PySem.W.kxs_ValueError hso (PySem.W.looks_opaque KX1 S.ho) (l₀ := .ref C :: bm) (fun A Q E s k q => wpAny_bind ((PySem.W.looks_clsIn KX1 hcl) A _ E s k (wpAny_pure q))) rfl KX1 hm (IA.type.andThen (PySem.W.looks_subIn KX1 S.hB)) (PySem.W.ks_ne KX1 IA hcl) (by decide) ?_
  have hmw : (h'.push (PySem.W.kxs_mw "ValueError.__init__" a)).get? h'.objs.size = some (PySem.W.kxs_mw "ValueError.__init__" a) := Heap.get?_push_size _ rfl
  have I2 : Inv X pins σ H ⟨h'.push (PySem.W.kxs_mw "ValueError.__init__" a), g, d, tk + 1, os⟩ := I1.kept (t' := tk + 1) fun b o e => Heap.get?_push_of_some _ e
  generalize hG : h'.push (PySem.W.kxs_mw "ValueError.__init__" a) = G at hmw I2
  have fpo : FpOk X pins H h'.objs.size := I1.fpOk (Nat.le_refl _) (I1.hok.fresh (Nat.le_refl _))
  have I3 := I2.pinned (fp := [h'.objs.size]) (fun b hb => by rw [List.mem_singleton.mp hb]; exact fpo) (fun b hb => by rw [List.mem_singleton.mp hb]; exact ⟨_, hmw, fun v z => nomatch z⟩)
  have hpl : (backTo p3 (starEach [e] X.env)).any (·.1) = false := by rw [hst]; rfl
  refine PySem.W.kxs_callWith (i := "ValueError.__init__") (x := a) hpl ?_
  rw [hst]
  refine PySem.Calls.evalArgs_plain ?_
  show wpAny _ _ (spliced (backTo p3 ((false, eval e X.env) :: starEach [] X.env))) _ _ _
  rw [← hst]
  refine wpAny_mono ((pa_cons he pa_nil hst).run p3 _ _ σ H (fun vs H1 => match vs with | [v] => W v H1 | _ => False) I3 h) (fun us s1 hs => ?_) fun _ _ x => x
  · obtain ⟨vs1, H1, J, rv, hw⟩ := hs
    obtain ⟨v, rfl, ea, hq⟩ : ∃ v, vs1 = [v] ∧ H1 a = some (exo a C none) ∧ ∀ s', Inv X pins σ H1 s' → Q .next s' := by
      match vs1, hw with
      | [v], hw => exact ⟨v, rfl, hW v H1 hw⟩
      | [], hw => exact hw.elim
      | _ :: _ :: _, hw => exact hw.elim
    obtain ⟨u, rfl, ru⟩ := Vals.one rv
    have hpin := (J.pin (h'.objs.size, _) (List.mem_append_right _ (List.mem_append_right _ (mem_pinsAt (List.mem_singleton.mpr rfl) hmw)))).1
    refine ⟨hpin, ?_⟩
    obtain ⟨t2, hoa2⟩ := exo_at J.hok ea
    obtain ⟨hp1, g1, d1, tk1, os1⟩ := s1
    refine call_mw (J.kIn _ _ hC) hoa2 hpin (by show 1 ≤ sizeLine; decide) fun h3 t3 k3 hx => ?_
    have J2 := J.write (t' := tk1) (x := a) (e := a) (o := exo a C none) (by rw [ea]; exact True.intro) (.inl rfl) k3 ⟨_, hx⟩ (exo_ok hx)
    have eu : upd H1 a (exo a C none) = H1 := by
      funext b
      by_cases hb : b = a
      · rw [hb, upd_same, ea]
      · rw [upd_ne hb]
    rw [eu] at J2
    exact hq _ J2.unpinned
/-- THE RULE for such an __init__ -/
theorem fnOk_sup {N ps : List Str} {e : Expr} {rest : List Stmt} {p0 p1 p2 p3 p4 : Pos} {sp : Sp} {k : Nat} {oc : Value} {od : Option Addr} {osl : Array (Option Value)} {doc pm ctv : Value} (S : SupF P K mg C fI cc F ar) (lk : K.lookup fI = some ⟨oc, od, .func (F.fd doc pm ctv), osl⟩)
    (NS : NScope N ps ["__class__"] F.scope) (hN : N[0]? = some ar.arg) (hv : F.scope.names.lookup ar.arg = some .local) (hbd : F.body = .Expr (.Call (.Attribute (.Call (.Name "super" p0) [] [] p1) "__init__" p2) [e] [] p3) p4 :: rest)
    (len : ∀ vs H Q E, sp vs H Q E → vs.length = ps.length)
    (hst : ∀ env, starEach [e] env = (false, eval e env) :: starEach [] env)
    (hev : ∀ L, ∃ pl, eval (.Call (.Attribute (.Call (.Name "super" p0) [] [] p1) "__init__" p2) [e] [] p3) (envF F fI L) = (do
      let ov ← attributeBase (.Call (.Name "super" p0) [] [] p1) "__init__" (envF F fI L) (eval (.Call (.Name "super" p0) [] [] p1) (envF F fI L))
      standAt p2.atName
      let (f, first) ← holding [ov] (getMethod ov "__init__" pl)
      callWith p3 f first (backTo p3 (starEach [e] (envF F fI L))) []))
    (hin : ∀ L, interactive (envF F fI L) = false) (hsw : ∀ L, swapsWith (.Call (.Attribute (.Call (.Name "super" p0) [] [] p1) "__init__" p2) [e] [] p3) none p4.line (envF F fI L) = pure false)
    (hbody : ∀ (A : Around) (outer : List Env) (s : Shared) (H : Hp) (vs : List V) (Q : VK) (E : XK), Room k (A.deeper (envF F fI s.heap.objs.size)) → sp vs H Q E →
      ∃ (a : Addr) (te : TE) (tr : TS), (startF N vs [some (.ref C)])[0]? = some (some (.ref a)) ∧ H a = some (exo a C none) ∧ PE (ncx CX0 P w K mg base N F fI A outer s H E) e te ∧ PSs (ncx CX0 P w K mg base N F fI A outer s H E) rest tr ∧
        te (startF N vs [some (.ref C)]) H fun _ H1 => H1 a = some (exo a C none) ∧ tr { nx := fun _ H' => Q .non H', rt := Q } (startF N vs [some (.ref C)]) H1) :
    FnOk P w K mg base CX0 (k + 1) fI (F.fd doc pm ctv) ps sp := by
  refine ⟨len, fun A outer s H args us vs Q E hr e0 hbi r hsp => ?_⟩
  have KX : K.In s.heap := e0.mod.kin.keeps fun b o e => (e0.bs b o e).1
  have nT : ∀ b o, K.lookup b = some o → H b = none := fun b o e => (e0.bs b o (e0.mod.kin b o e)).2
  have lim : s.heap.NoLimit := e0.mod.nolimit.keeps fun b o e => (e0.bs b o e).1
  obtain ⟨cl, cld, csl, hcell⟩ := S.cell
  have hl := len _ _ _ _ hsp
  have ecl : ∀ y c, F.cl.lookup y = some c → y = "__class__" ∧ c = cc := fun y c e => by
    rw [S.cl] at e
    by_cases h : y = "__class__"
    · subst h
      exact ⟨rfl, (Option.some.inj e).symm⟩
    · have h2 : (y == ("__class__" : Str)) = false := by simpa using h
      simp [List.lookup, h2] at e
  have CA : CellsAt F.cl ["__class__"] [some (.ref C)] s.heap H := by
    refine ⟨rfl, fun y c e => ?_, fun x y c e1 e2 => (ecl x c e1).1.trans (ecl y c e2).1.symm, fun i y e => ?_⟩
    · obtain ⟨rfl, rfl⟩ := ecl y c e
      exact ⟨nT _ _ hcell, _, _, KX _ _ hcell, rfl⟩
    · have hi : i = 0 ∧ y = "__class__" := by
        cases i with
        | zero => exact ⟨rfl, (Option.some.inj e).symm⟩
        | succ n => simp at e
      obtain ⟨rfl, rfl⟩ := hi
      refine ⟨cc, by rw [S.cl]; rfl, fun v ev => ?_⟩
      obtain rfl : V.ref C = v := Option.some.inj (Option.some.inj ev)
      exact ⟨.ref C, rfl, _, KX _ _ hcell, rfl⟩
  refine PySem.ks_codeAny_call_defAt (body := F.body) hr.depth (KX _ _ lk) rfl lim (PySem.W.codeRec_of KX S.code) rfl hbi NS.nocell (fun ⟨n, _⟩ hy => NS.par n (List.of_mem_zip hy).1) (fun h₁ hns kp => ?_) NS.co NS.gen NS.kind
  have I : Inv (ncx CX0 P w K mg base N F fI A outer s H E) [] (startF N vs [some (.ref C)]) H { s with heap := h₁, toks := s.toks + (ps.zip us).length } := inv_startN NS hr.hd e0 (by rw [hl]) r CA hns kp
  obtain ⟨a, te, tr, h0, ha, he, hp, hq⟩ := hbody A outer s H vs Q E (hr.deeper _) hsp
  show _root_.PySem.wpAt _ (A.deeper (envF F fI s.heap.objs.size)) (.func F.body (envF F fI s.heap.objs.size)) (execs F.body (envF F fI s.heap.objs.size)) _ _ _
  rw [hbd]
  refine PySem.ks_wpAt_execs_cons ?_
  refine sup_stmt (X := ncx CX0 P w K mg base N F fI A outer s H E) (te := te) S I rfl ⟨oc, od, osl, doc, pm, ctv, lk⟩ hN h0 hv ha he (hst _) (hev _) (hin _) (hsw _) hq fun v H1 hw => ⟨hw.1, fun s' J => ?_⟩
  refine _root_.PySem.wpAt_of_wpAny (wpAny_mono (hp.run [] s' (startF N vs [some (.ref C)]) H1 _ J hw.2) (fun fl s2 hs => ?_) fun e s2 hs => hs)
  have fin : ∀ {σ' : L2.St} {H' : Hp} {v : V} {u : Value}, Inv (ncx CX0 P w K mg base N F fI A outer s H E) [] σ' H' s2 → L2.RelV v u → Q v H' → CE outer P w H s Q u s2 :=
    fun {σ' H' v u} J rv q => ⟨v, H', J.os, J.bare, J.base, J.hok, rv, q⟩
  cases fl with
  | ret u =>
    obtain ⟨v, σ', H', J, rv, q⟩ := hs
    exact fin J rv q
  | next =>
    obtain ⟨σ', H', J, q⟩ := hs
    exact fin (v := V.non) (u := Value.none) J rfl q
  | brk =>
    obtain ⟨_, _, _, q⟩ := hs
    exact False.elim q
  | cont =>
    obtain ⟨_, _, _, q⟩ := hs
    exact False.elim q
end
end Sv


set_option maxHeartbeats 4000000
namespace Sv
open PySem PySem.Spec PyProof.Rows L2
theorem b_isinstance : bootBuiltins "isinstance" = some (.builtin "isinstance") := by decide +kernel
theorem b_len : bootBuiltins "len" = some (.builtin "len") := by decide +kernel
theorem b_max : bootBuiltins "max" = some (.builtin "max") := by decide +kernel
theorem b_bool : bootBuiltins "bool" = some (.type "bool") := by decide +kernel
theorem b_int : bootBuiltins "int" = some (.type "int") := by decide +kernel
theorem b_str : bootBuiltins "str" = some (.type "str") := by decide +kernel
theorem b_list : bootBuiltins "list" = some (.type "list") := by decide +kernel
theorem b_tuple : bootBuiltins "tuple" = some (.type "tuple") := by decide +kernel
theorem b_dict : bootBuiltins "dict" = some (.type "dict") := by decide +kernel
theorem pe_ty {X : Cx} {x : Str} {T : String} {pos : Pos} (hg : Gl X x) (hm : X.mg x = none) (hv : bootBuiltins x = some (.type T)) (hn : x ≠ "__name__" := by decide) (hd : (x == ("__debug__" : Str)) = false := by decide) : PE X (.Name x pos) (tC (.ty T)) :=
  pe_bltn hg hm hv rfl hn hd
theorem b_sum : bootBuiltins "sum" = some (.builtin "sum") := by decide +kernel
def topS (i : Nat) : Stmt := PySem.Challenge.pw_swapshelves_k01_plans_validated.main.body.getD i (.Pass ⟨0, 0, 0, 0⟩)
abbrev sWithin : Stmt := topS 19
abbrev sPattern : Stmt := topS 25
abbrev sVisits : Stmt := topS 26
abbrev sPlacesOf : Stmt := topS 32
abbrev sPlaces : Stmt := topS 27
abbrev sCheckPlan : Stmt := topS 28
abbrev sCheckSizes : Stmt := topS 29
abbrev sCheckRoutes : Stmt := topS 30
abbrev sIsRoute : Stmt := topS 31
abbrev sNumPlaces : Stmt := topS 33
abbrev sVisitsIn : Stmt := topS 34
abbrev sCommon : Stmt := topS 35
abbrev sRoutePat : Stmt := topS 36
abbrev sSplit : Stmt := topS 38
abbrev sInitial : Stmt := topS 40
abbrev sMix : Stmt := topS 42
abbrev sNext : Stmt := topS 43
abbrev sAlike : Stmt := topS 44
abbrev sError : Stmt := topS 45
abbrev sPlan : Stmt := topS 46
abbrev sState : Stmt := topS 47
abbrev sFirstBad : Stmt := topS 48
abbrev sSpoilt : Stmt := topS 49
abbrev sMeet : Stmt := topS 50
abbrev sLaw : Stmt := topS 51
theorem scWithin : FnScope ["number", "low", "high"] ["number", "low", "high"] (defScope sWithin) := ⟨rfl, rfl, rfl, by decide +kernel, rfl, by decide +kernel, by decide +kernel⟩
section
variable {P : Program} {w : World} {K : PySem.W.Frag} {mg : Str → Option Value} {base : Heap}
def spWithin : Sp := fun vs H Q _ => ∃ n lo hi : Int, vs = [.int n, .int lo, .int hi] ∧ Q (.bl (decide (lo ≤ n ∧ n ≤ hi))) H
theorem isi_ty {K : PySem.W.Frag} {H : Hp} {Q : VK} {x : V} {a b : String} {r : Bool} (t : TyX K H x (.type a)) (h : kitB a b = some r) (q : Q (.bl r) H) : rIsi K [x, .ty b] H Q :=
  ⟨x, .ty b, _, _, r, rfl, .ty b, t, kit_ty h, q⟩
theorem ok_within {f : Addr} {fd : FuncData} {k : Nat} (F : Fun K "is_within" "is_within" sWithin f fd) (mi : mg "isinstance" = none) (mb : mg "bool" = none) (mn : mg "int" = none) :
    FnOk P w K mg base CX0 (k + 1) f fd ["number", "low", "high"] spWithin := by
  refine F.ok scWithin (fun vs H Q E h => ?_) (fun cdv A outer s H vs Q E hr h => ?_)
  · obtain ⟨n, lo, hi, rfl, _⟩ := h
    rfl
  · obtain ⟨n, lo, hi, rfl, q⟩ := h
    refine ⟨_, pss_cons (ps_if (pw_or (pt_val (pe_callB call_isi (by rfl) mi b_isinstance (pa_cons (pv 0) (pa_cons (pe_ty (by rfl) mb b_bool) pa_nil))))
        (pw_or1 (pt_not (pt_val (pe_callB call_isi (by rfl) mi b_isinstance (pa_cons (pv 0) (pa_cons (pe_ty (by rfl) mn b_int) pa_nil))))))).pt
      (pss_one (ps_ret pe_bl)) pss_nil)
      (pss_one (ps_ret (pe_chain op_le op_le (pv 1) (pv 0) (pv 2)))), ?_⟩
    refine ⟨.int n, rfl, .int n, .ty "bool", _, _, false, rfl, .ty "bool", .base (.int n), kit_ty (by decide +kernel), false, rfl, iteF ?_⟩
    refine ⟨.int n, rfl, .int n, .ty "int", _, _, true, rfl, .ty "int", .base (.int n), kit_ty (by decide +kernel), true, rfl, iteF ?_⟩
    refine ⟨.int lo, rfl, .int n, rfl, lo, n, rfl, rfl, _, rfl, ?_⟩
    by_cases h1 : lo ≤ n
    · rw [decide_eq_true h1]
      refine iteT ⟨.int hi, rfl, n, hi, rfl, rfl, ?_⟩
      show Q (.bl (decide (n ≤ hi))) H
      have e : decide (n ≤ hi) = decide (lo ≤ n ∧ n ≤ hi) := by simp [h1]
      rw [e]
      exact q
    · rw [decide_eq_false h1]
      have e : decide (lo ≤ n ∧ n ≤ hi) = false := by simp [h1]
      rw [e] at q
      exact iteF q
end
theorem tyx_tup {K : PySem.W.Frag} {H : Hp} {a : Addr} {xs : List V} (h : SqT K H a xs) : TyX K H (.ref a) (.type "tuple") := by
  rcases h with (h | ⟨o, h⟩) | ⟨o, its, n, h1, h2, _⟩
  · exact .base (.tup h)
  · exact .fTuple h
  · exact .kTuple h1 h2
structure Bt (mg : Str → Option Value) : Prop where
  isinstance : mg "isinstance" = none
  bool : mg "bool" = none
  int : mg "int" = none
  str : mg "str" = none
  list : mg "list" = none
  tuple : mg "tuple" = none
  dict : mg "dict" = none
  len : mg "len" = none
  range : mg "range" = none
  enumerate : mg "enumerate" = none
  max : mg "max" = none
  sum : mg "sum" = none
structure Df (K : PySem.W.Frag) (mg : Str → Option Value) (x : Str) (st : Stmt) (ps : List Str) (f : Addr) (fd : FuncData) : Prop where
  F : Fun K x x st f fd
  b : Binds K fd ps []
  g : mg x = some (.ref f)
theorem same_upd {H : Hp} {p : Addr} {o : HO} (h : H p = none) : Same H (upd H p o) := fun b x e => by
  rw [upd_ne (ne_of_none e h)]
  exact e
theorem same_of {H H' : Hp} {p : Addr} {o : HO} (e : Same H H') (h : H p = none) : Same H (upd H' p o) := fun b x q => by
  rw [upd_ne (ne_of_none q h)]
  exact e b x q
theorem sqT_same {K : PySem.W.Frag} {H H' : Hp} {a : Addr} {xs : List V} (e : Same H H') (h : SqT K H a xs) : SqT K H' a xs := by
  rcases h with (h | ⟨o, h⟩) | h
  · exact .inl (.inl (e _ _ h))
  · exact .inl (.inr ⟨o, e _ _ h⟩)
  · exact .inr h
theorem sz1000 {n : Nat} (h : n ≤ 1000) : n ≤ sizeLine := Nat.le_of_lt (small1000 h)
theorem yes_go {σ2 : L2.St} {H2 : Hp} {A B : Hp → Prop} (h : A H2) : tYes σ2 H2 (fun b H3 => if b = true then A H3 else B H3) := by
  show (if true = true then A H2 else B H2)
  rw [if_pos rfl]
  exact h
theorem ixN_nat {n j : Nat} (h : j < n) : ixN n (j : Int) = some j := by
  unfold ixN
  rw [if_pos (by omega), if_pos (by omega), Int.toNat_natCast]
/-! ### the law's source of draws -/
structure LawH (H : Hp) (h l : Addr) : Prop where
  ex : ∃ (m i : Int) (cs : List Int), H h = some (.lst [.int m, .ref l, .int i]) ∧ H l = some (.lst (cs.map V.int)) ∧ cs.length ≤ 1000
def SameX (h l : Addr) (H H' : Hp) : Prop := ∀ b o, b ≠ h → b ≠ l → H b = some o → H' b = some o
theorem LawH.ne {H : Hp} {h l : Addr} (x : LawH H h l) : h ≠ l := by
  obtain ⟨m, i, cs, e1, e2, _⟩ := x.ex
  intro z
  subst z
  rw [e1] at e2
  have e3 := HO.lst.inj (Option.some.inj e2)
  match cs, e3 with
  | [], e3 => cases e3
  | [_], e3 => cases e3
  | _ :: _ :: _, e3 => cases e3
theorem LawH.same {H H' : Hp} {h l : Addr} (x : LawH H h l) (e : Same H H') : LawH H' h l := by
  obtain ⟨m, i, cs, e1, e2, e3⟩ := x.ex
  exact ⟨m, i, cs, e _ _ e1, e _ _ e2, e3⟩
theorem SameX.of {H H' : Hp} {h l : Addr} (e : Same H H') : SameX h l H H' := fun b o _ _ q => e b o q
theorem SameX.trans {H H1 H2 : Hp} {h l : Addr} (a : SameX h l H H1) (b : SameX h l H1 H2) : SameX h l H H2 := fun c o h1 h2 q => b c o h1 h2 (a c o h1 h2 q)
section
variable {P : Program} {w : World} {K : PySem.W.Frag} {mg : Str → Option Value} {base : Heap}
theorem scNext : FnScope ["_law_h", "_law_limit", "_law_cell"] ["_law_h", "_law_limit"] (defScope sNext) := ⟨rfl, rfl, rfl, by decide +kernel, rfl, by decide +kernel, by decide +kernel⟩
theorem scMix : FnScope ["_law_script", "_law_seed", "_law_mixed", "_law_cell"] ["_law_script", "_law_seed"] (defScope sMix) := ⟨rfl, rfl, rfl, by decide +kernel, rfl, by decide +kernel, by decide +kernel⟩
def spNext : Sp := fun vs H Q _ => ∃ (h l : Addr) (lim : Int), vs = [.ref h, .int lim] ∧ LawH H h l ∧ 0 < lim ∧ lim < 2 ^ 64 ∧ ∀ r H', 0 ≤ r → r < lim → LawH H' h l → SameX h l H H' → Q (.int r) H'
theorem ok_next {f : Addr} {fd : FuncData} (F : Fun K "_law_next" "_law_next" sNext f fd) (B : Bt mg) : FnOk P w K mg base CX0 1 f fd ["_law_h", "_law_limit"] spNext := by
  refine F.ok scNext (fun vs H Q E h => ?_) (fun cdv A outer s H vs Q E hr h => ?_)
  · obtain ⟨h, l, lim, rfl, _⟩ := h
    rfl
  · obtain ⟨h, l, lim, rfl, LH, p1, p2, q⟩ := h
    have LHx := LH
    have hne := LH.ne
    obtain ⟨m, i, cs, e1, e2, e3⟩ := LH.ex
    refine ⟨_, pss_cons (ps_set (i := 2) scNext.nd rfl (Or.inl rfl) (pe_ix ix_list (pe_op op_cat (pe_ix ix_list (pv 0) pe_int (fun _ _ => rfl)) (pe_lst (pa_cons pe_int pa_nil)))
        (pe_op op_mod (pe_callTy call_int1 (by rfl) B.int b_int (pa_cons (pe_ix ix_list (pv 0) pe_int (fun _ _ => rfl)) pa_nil)) (pe_callB (call_max2 rfl) (by rfl) B.max b_max (pa_cons pe_int (pa_cons (pe_callB call_len_seq (by rfl) B.len b_len (pa_cons (pe_ix ix_list (pv 0) pe_int (fun _ _ => rfl)) pa_nil)) pa_nil)))) (fun _ _ => rfl)))
      (pss_cons (ps_if (pt_cmpR op_ge (pv 2) (pe_op op_pow pe_int pe_int) (nomark _))
        (pss_cons (ps_asg (pe_op op_fdivW (pv 2) (pv 1)) (pg_sub (pe_ix ix_list (pv 0) pe_int (fun _ _ => rfl)) (pe_op op_mod (pe_callTy call_int1 (by rfl) B.int b_int (pa_cons (pe_ix ix_list (pv 0) pe_int (fun _ _ => rfl)) pa_nil)) (pe_callB call_len_seq (by rfl) B.len b_len (pa_cons (pe_ix ix_list (pv 0) pe_int (fun _ _ => rfl)) pa_nil))) set_list))
        (pss_one (ps_ret (pe_op op_mod (pe_callTy call_int1 (by rfl) B.int b_int (pa_cons (pv 2) pa_nil)) (pv 1))))) pss_nil)
      (pss_cons (ps_asg (pe_op op_mod (pe_op op_add (pe_op op_add (pe_op op_mul (pe_ix ix_list (pv 0) pe_int (fun _ _ => rfl)) pe_int) (pe_op op_mul (pv 2) pe_int)) pe_int) pe_int) (pg_sub (pv 0) pe_int set_list))
      (pss_cons (ps_asg (pe_op op_add (pe_ix ix_list (pv 0) pe_int (fun _ _ => rfl)) pe_int) (pg_sub (pv 0) pe_int set_list))
      (pss_one (ps_ret (pe_op op_mod (pe_op op_fdiv (pe_ix ix_list (pv 0) pe_int (fun _ _ => rfl)) pe_int) (pv 1))))))), ?_⟩
    refine ⟨.ref h, rfl, h, _, 1, .ref l, rfl, rfl, .inl (.inl e1), rfl, (by show 1 ≤ sizeLine; decide), fun z hz => ?_⟩
    have hl1 : l ≠ z := ne_of_none e2 hz
    have hl2 : h ≠ z := ne_of_none e1 hz
    refine ⟨l, z, _, _, rfl, rfl, by rw [upd_ne hl1]; exact e2, upd_same, ?_, fun u hu => ?_⟩
    · rw [List.length_map]
      show cs.length + 1 ≤ sizeLine
      exact small1000 e3
    have sm1 : Same H (upd H z (.lst [.int 0])) := same_upd hz
    have sm2 : Same H (upd (upd H z (.lst [.int 0])) u (.lst (cs.map V.int ++ [.int 0]))) := same_of sm1 (Same.free sm1 hu)
    generalize hG : upd (upd H z (.lst [.int 0])) u (.lst (cs.map V.int ++ [.int 0])) = G at sm2 ⊢
    have g1 := sm2 _ _ e1
    have g2 := sm2 _ _ e2
    have g3 : G u = some (.lst ((cs ++ [0]).map V.int)) := by rw [← hG, upd_same, List.map_append]; rfl
    have hmax : (if ((cs.map V.int).length : Int) > 1 then ((cs.map V.int).length : Int) else 1) = ((max 1 cs.length : Nat) : Int) := by
      rw [List.length_map]
      split <;> omega
    have hM : (0 : Int) < ((max 1 cs.length : Nat) : Int) := by omega
    have i0 := Int.emod_nonneg i (Int.ne_of_gt hM)
    have i1 := Int.emod_lt_of_pos i hM
    obtain ⟨k, hk⟩ : ∃ k : Nat, i % ((max 1 cs.length : Nat) : Int) = (k : Int) := ⟨_, (Int.toNat_of_nonneg i0).symm⟩
    have hk1 : k < (cs ++ [0]).length := by
      rw [List.length_append]
      show k < cs.length + 1
      omega
    obtain ⟨cell, hcell⟩ : ∃ c, (cs ++ [0])[k]? = some c := ⟨_, List.getElem?_eq_getElem hk1⟩
    refine ⟨.ref h, rfl, h, _, 2, .int i, rfl, rfl, .inl (.inl g1), rfl, .inl ⟨i, rfl, ?_⟩⟩
    refine ⟨.ref h, rfl, h, _, 1, .ref l, rfl, rfl, .inl (.inl g1), rfl, l, _, rfl, .inl (.inl (.inl g2)), 1, _, rfl, ?_⟩
    refine ⟨i, ((max 1 cs.length : Nat) : Int), rfl, congrArg V.int hmax, hM, ?_⟩
    refine ⟨u, _, (k : Int), .int cell, rfl, congrArg V.int hk, .inl (.inl g3), atI_nat (by rw [List.getElem?_map, hcell]; rfl), ?_⟩
    -- the test
    refine ⟨.int cell, rfl, 10, 18, rfl, rfl, ⟨by decide, by decide, by decide⟩, cell, 10 ^ (18 : Int).toNat, rfl, rfl, _, rfl, ite2 (fun hc => ?_) (fun hc => ?_)⟩
    · have hc2 : (10 : Int) ^ (18 : Int).toNat ≤ cell := of_decide_eq_true hc
      have hc3 : (0 : Int) < cell := Int.lt_of_lt_of_le (by decide) hc2
      have hk2 : k < cs.length := by
        by_cases hkl : k < cs.length
        · exact hkl
        · have : k = cs.length := by
            rw [List.length_append] at hk1
            have : k < cs.length + 1 := hk1
            omega
          rw [this, List.getElem?_append_right (Nat.le_refl _), Nat.sub_self] at hcell
          have : (0 : Int) = cell := Option.some.inj hcell
          omega
      have hl0 : (0 : Int) < ((cs.map V.int).length : Int) := by rw [List.length_map]; omega
      have hkk : i % ((cs.map V.int).length : Int) = (k : Int) := by
        rw [List.length_map, ← hk]
        congr 1
        omega
      refine ⟨.int cell, rfl, .int lim, rfl, cell, lim, rfl, rfl, wide_div (b := 64) p1 (by omega) (by decide) (by decide), ?_⟩
      refine ⟨.ref h, rfl, h, _, 1, .ref l, rfl, rfl, .inl (.inl g1), rfl, ?_⟩
      refine ⟨.ref h, rfl, h, _, 2, .int i, rfl, rfl, .inl (.inl g1), rfl, .inl ⟨i, rfl, ?_⟩⟩
      refine ⟨.ref h, rfl, h, _, 1, .ref l, rfl, rfl, .inl (.inl g1), rfl, l, _, rfl, .inl (.inl (.inl g2)), i, _, rfl, rfl, hl0, ?_⟩
      refine ⟨l, cs.map V.int, (k : Int), k, rfl, congrArg V.int hkk, g2, ixN_nat (by rw [List.length_map]; exact hk2), ?_⟩
      refine ⟨.int cell, rfl, .inl ⟨cell, rfl, .int lim, rfl, cell, lim, rfl, rfl, p1, ?_⟩⟩
      refine q _ _ (Int.emod_nonneg _ (Int.ne_of_gt p1)) (Int.emod_lt_of_pos _ p1) ⟨m, i, cs.set k (cell / lim), ?_, ?_, ?_⟩ (fun b o h1 h2 hb => ?_)
      · rw [upd_ne hne]
        exact g1
      · rw [upd_same, List.map_set]
      · rw [List.length_set]
        exact e3
      · rw [upd_ne h2]
        exact sm2 _ _ hb
    · refine ⟨.ref h, rfl, h, _, 0, .int m, rfl, rfl, .inl (.inl g1), rfl, m, 48271, rfl, rfl, .inr ⟨by decide, by decide⟩, ?_⟩
      refine ⟨.int cell, rfl, cell, 69621, rfl, rfl, .inr ⟨by decide, by decide⟩, _, _, rfl, rfl, _, 11, rfl, rfl, _, 2147483647, rfl, rfl, (by decide : (0 : Int) < 2147483647), ?_⟩
      refine ⟨.ref h, rfl, h, _, 0, 0, rfl, rfl, g1, rfl, ?_⟩
      obtain ⟨m', hm'⟩ : ∃ m' : Int, (m * 48271 + cell * 69621 + 11) % 2147483647 = m' := ⟨_, rfl⟩
      have hmv : (fun i j => V.int (i % j)) (m * 48271 + cell * 69621 + 11) 2147483647 = V.int m' := congrArg V.int hm'
      rw [hmv]
      have g1' : (upd G h (.lst ([V.int m, V.ref l, V.int i].set 0 (V.int m')))) h = some (.lst [.int m', .ref l, .int i]) := upd_same
      refine ⟨.ref h, rfl, h, _, 2, .int i, rfl, rfl, .inl (.inl g1'), rfl, i, 1, rfl, rfl, ?_⟩
      refine ⟨.ref h, rfl, h, _, 2, 2, rfl, rfl, g1', rfl, ?_⟩
      generalize hG2 : upd (upd G h (.lst ([V.int m, V.ref l, V.int i].set 0 (V.int m')))) h (.lst ([V.int m', V.ref l, V.int i].set 2 (V.int (i + 1)))) = G2
      have g1'' : G2 h = some (.lst [.int m', .ref l, .int (i + 1)]) := by rw [← hG2]; exact upd_same
      refine ⟨.ref h, rfl, h, _, 0, .int m', rfl, rfl, .inl (.inl g1''), rfl, m', 7, rfl, rfl, ⟨by decide, by decide⟩, .int lim, rfl, _, lim, rfl, rfl, p1, ?_⟩
      refine q _ _ (Int.emod_nonneg _ (Int.ne_of_gt p1)) (Int.emod_lt_of_pos _ p1) ⟨m', i + 1, cs, g1'', ?_, e3⟩ (fun b o h1 h2 hb => ?_)
      · rw [← hG2, upd_ne (Ne.symm hne), upd_ne (Ne.symm hne)]
        exact g2
      · rw [← hG2, upd_ne h1, upd_ne h1]
        exact sm2 _ _ hb
/-! ### _law_mix -/
def spMix (K : PySem.W.Frag) : Sp := fun vs H Q _ => ∃ (a : Addr) (ns : List Int) (seed : Int), vs = [.ref a, .int seed] ∧ SqL K H a (ns.map V.int) ∧ ns.length ≤ 63 ∧ ∀ H' h l, LawH H' h l → Same H H' → H h = none → H l = none → Q (.ref h) H'
theorem ok_mix {f : Addr} {fd : FuncData} (F : Fun K "_law_mix" "_law_mix" sMix f fd) (B : Bt mg) : FnOk P w K mg base CX0 1 f fd ["_law_script", "_law_seed"] (spMix K) := by
  refine F.ok scMix (fun vs H Q E h => ?_) (fun cdv A outer s H vs Q E hr h => ?_)
  · obtain ⟨a, ns, seed, rfl, _⟩ := h
    rfl
  · obtain ⟨a, ns, seed, rfl, hA, hl, q⟩ := h
    refine ⟨_, pss_cons (ps_set (i := 2) scMix.nd rfl (Or.inl rfl) (pv 1))
      (pss_cons (ps_for PassesOwn.never rfl (pi_list (pv 0)) (pg_name (i := 3) scMix.nd rfl (Or.inl rfl))
        (pss_one (ps_set (i := 2) scMix.nd rfl (Or.inl rfl) (pe_op op_mod (pe_op op_add (pe_op op_add (pe_op op_mul (pv 2) pe_int) (pe_op op_mod (pv 3) pe_int)) pe_int) pe_int))))
      (pss_one (ps_ret (pe_lst (pa_cons (pv 2) (pa_cons (pe_callTy call_list_of (by rfl) B.list b_list (pa_cons (pv 0) pa_nil)) (pa_cons pe_int pa_nil))))))), ?_⟩
    refine ⟨.int seed, rfl, .ref a, rfl, a, rfl, ⟨_, hA⟩, for_list (xs := ns.map V.int) (fun i σ H' => (∃ m y3, σ = [some (.ref a), some (.int seed), some (.int m), y3]) ∧ H' = H) ⟨⟨seed, none, rfl⟩, rfl⟩ (fun i σ H' _ h => by rw [h.2]; exact hA) (fun i x σ H' hx ⟨⟨m, y3, es⟩, eH⟩ => ?_) (fun σ H' ⟨⟨m, y3, es⟩, eH⟩ => ?_)⟩
    · subst es
      subst eH
      rw [List.getElem?_map] at hx
      cases hn : ns[i]? with
      | none => rw [hn] at hx; cases hx
      | some n =>
        rw [hn] at hx
        obtain rfl : V.int n = x := Option.some.inj hx
        refine ⟨.int m, rfl, m, 48271, rfl, rfl, .inr ⟨by decide, by decide⟩, .int n, rfl, n, 2147483629, rfl, rfl, (by decide : (0 : Int) < 2147483629), _, _, rfl, rfl, _, 1, rfl, rfl, _, 2147483647, rfl, rfl, (by decide : (0 : Int) < 2147483647), ⟨_, _, rfl⟩, rfl⟩
    · subst es
      subst eH
      refine ⟨.int m, rfl, .ref a, rfl, a, _, rfl, .inl hA, fun l hl2 => ⟨(by show 3 ≤ sizeLine; decide), fun h hh => ?_⟩⟩
      have ln : l ≠ h := ne_of_none upd_same hh
      refine q _ h l ⟨m, 0, ns, upd_same, by rw [upd_ne ln]; exact upd_same, by omega⟩ (same_of (same_upd hl2) (Same.free (same_upd hl2) hh)) (Same.free (same_upd hl2) hh) hl2
end
end Sv


set_option maxHeartbeats 4000000
set_option exponentiation.threshold 2000
namespace Sv
open PySem PySem.Spec PyProof.Rows L2 NdefX
/-! ### InvalidPlan -/
def clsInit : Stmt → Stmt | .ClassDef _ _ _ b _ _ _ _ _ _ _ => b.getD 0 (.Pass ⟨0, 0, 0, 0⟩) | s => s
abbrev sPlanInit : Stmt := clsInit (topS 3)
def nfPlan (cc c0 : Addr) : NF := ⟨"__init__", "InvalidPlan.__init__", defArgs sPlanInit, defBody sPlanInit, defScope sPlanInit, [("__class__", cc)], c0⟩
def arPlan : Arg := (defArgs sPlanInit).args.getD 0 ⟨"x", none, ⟨0, 0, 0, 0⟩⟩
def nPI : List Str := ["self", "part", "index", "__class__"]
theorem nsPlan (cc c0 : Addr) : NScope nPI ["self", "part", "index"] ["__class__"] (nfPlan cc c0).scope := by
  show NScope nPI ["self", "part", "index"] ["__class__"] (defScope sPlanInit)
  exact nscope_by (by decide +kernel)
section
variable {P : Program} {w : World} {K : PySem.W.Frag} {mg : Str → Option Value} {base : Heap}
/-- the promise of InvalidPlan.__init__ -/
def spPI (C : Addr) : Sp := fun vs H Q _ => ∃ (a : Addr) (part : Str) (i : Int), vs = [.ref a, .str part, .int i] ∧ H a = some (exo a C none) ∧ part.length ≤ 1000 ∧ i.natAbs < 2 ^ 100 ∧
  ∀ d, H d = none → d ≠ a → Q .non (upd (upd (upd H d (exd d [("part", .str part)])) a (exo a C (some d))) d (exd d [("index", .int i), ("part", .str part)]))
theorem ok_planInit {C fI cc c0 : Addr} {oc : Value} {od : Option Addr} {osl : Array (Option Value)} {doc pm ctv : Value} (S : SupF P K mg C fI cc (nfPlan cc c0) arPlan) (lk : K.lookup fI = some ⟨oc, od, .func ((nfPlan cc c0).fd doc pm ctv), osl⟩)
    (n1 : PySem.W.findIn K (.ref C) "part" = some none) (n2 : PySem.W.findIn K (.ref C) "index" = some none) :
    FnOk P w K mg base CX0 1 fI ((nfPlan cc c0).fd doc pm ctv) ["self", "part", "index"] (spPI C) := by
  refine fnOk_sup (N := nPI) S lk (nsPlan cc c0) rfl rfl rfl (fun vs H Q E h => ?_) (fun _ => rfl) (fun _ => ⟨_, rfl⟩) (fun _ => rfl) (fun _ => rfl) (fun A outer s H vs Q E hr h => ?_)
  · obtain ⟨a, part, i, rfl, _⟩ := h
    rfl
  · obtain ⟨a, part, i, rfl, ha, hl, hi, q⟩ := h
    refine ⟨a, _, _, rfl, ha, pe_joined (.cons pe_str (.cons (pe_fmt (pv 1)) (.cons pe_str (.cons (pe_fmt (pv 2)) .nil)))),
      pss_cons (ps_ost (pv 0) (pv 1)) (pss_one (ps_ost (pv 0) (pv 2))), ?_⟩
    have hz : sizeLine = 16777216 := sizeLine_eq
    have hlog : i.natAbs.log2 < 1920 := by
      have : i.natAbs < 2 ^ 1920 := Nat.lt_trans hi (Nat.pow_lt_pow_right (by decide) (by decide))
      by_cases h0 : i.natAbs = 0
      · rw [h0]
        decide
      · exact (Nat.log2_lt h0).mpr this
    have l4 : (Str.ofString (toString i)).length ≤ 1921 := int_text_len_1921 hlog
    refine ⟨"invalid ", rfl, ?_, .str part, rfl, .inl ⟨part, rfl, by omega, part, rfl, ?_, ", at index ", rfl, ?_, .int i, rfl, .inr ⟨i, rfl, hlog, _, rfl, ?_, ha, ?_⟩⟩⟩
    · decide
    · rw [Str.length_append]
      have : (Str.empty ++ ("invalid " : Str)).length = 8 := by decide
      omega
    · rw [Str.length_append, Str.length_append]
      have : (Str.empty ++ ("invalid " : Str)).length = 8 := by decide
      have : (", at index " : Str).length = 11 := by decide
      omega
    · rw [Str.length_append, Str.length_append, Str.length_append]
      have : (Str.empty ++ ("invalid " : Str)).length = 8 := by decide
      have : (", at index " : Str).length = 11 := by decide
      omega
    · refine ⟨.str part, rfl, .ref a, rfl, a, C, rfl, S.T, n1, .inl ⟨ha, fun d hd hda => ?_⟩⟩
      refine ⟨.int i, rfl, .ref a, rfl, a, C, rfl, S.T, n2, .inr ⟨d, [("part", .str part)], upd_same, ?_, (by show 1 ≤ 900; decide), q d hd hda⟩⟩
      rw [upd_ne hda, upd_same]
/-- the facts of InvalidPlan -/
structure Pl (P : Program) (K : PySem.W.Frag) (mg : Str → Option Value) (C fI : Addr) (fd : FuncData) : Prop where
  ex : ∃ (cc c0 : Addr) (oc : Value) (od : Option Addr) (osl : Array (Option Value)) (doc pm ctv : Value), fd = (nfPlan cc c0).fd doc pm ctv ∧ SupF P K mg C fI cc (nfPlan cc c0) arPlan ∧ K.lookup fI = some ⟨oc, od, .func fd, osl⟩
  n1 : PySem.W.findIn K (.ref C) "part" = some none
  n2 : PySem.W.findIn K (.ref C) "index" = some none
  g : mg "InvalidPlan" = some (.ref C)
  iC : PySem.W.findIn K (.ref C) "__init__" = some (some (.ref fI))
  tI : PySem.W.typeIn K (.ref fI) = some (.type "function")
  b : Binds K fd ["self", "part", "index"] []
  x : XfC K C
theorem Pl.T {C fI : Addr} {fd : FuncData} (p : Pl P K mg C fI fd) : OexC K C := by
  obtain ⟨cc, c0, oc, od, osl, doc, pm, ctv, _, S, _⟩ := p.ex
  exact S.T
theorem Pl.ok {C fI : Addr} {fd : FuncData} (p : Pl P K mg C fI fd) : FnOk P w K mg base CX0 1 fI fd ["self", "part", "index"] (spPI C) := by
  obtain ⟨cc, c0, oc, od, osl, doc, pm, ctv, rfl, S, lk⟩ := p.ex
  exact ok_planInit S lk p.n1 p.n2
/-- what is wanted where InvalidPlan(part, i) is raised -/
def PlanE (C : Addr) (H : Hp) (part : Str) (i : Int) (Q : XK) : Prop := ∀ (H' : Hp) (dd : Addr) (fs : List (Str × V)), Same H H' → H' dd = some (.xd fs) → fs.lookup ("part" : Str) = some (V.str part) → fs.lookup ("index" : Str) = some (V.int i) → Q (.ref C) (some dd) H'
theorem PlanE.imp {C : Addr} {H H1 : Hp} {part : Str} {i : Int} {Q : XK} (h : PlanE C H part i Q) (e : Same H H1) : PlanE C H1 part i Q := fun H' dd fs sm => h H' dd fs (e.trans sm)
theorem pmk_plan {X : Cx} {C fI : Addr} {fd : FuncData} {e1 e2 : Expr} {t1 t2 : TE} {p pos : Pos} (T : Pl X.prog X.K X.mg C fI fd) (hr : Room 2 X.A) (hg : Gl X "InvalidPlan") (h1 : PE X e1 t1) (h2 : PE X e2 t2)
    (s1 : starEach [e1, e2] X.env = (false, eval e1 X.env) :: starEach [e2] X.env := by rfl) (s2 : starEach [e2] X.env = (false, eval e2 X.env) :: starEach [] X.env := by rfl) (hpl : (backTo pos (starEach [e2] X.env)).any (·.1) = false := by rfl) :
    PMk X (.Call (.Name "InvalidPlan" p) [e1, e2] [] pos) (tMkO C (spPI C) [] (tCons t1 (tCons t2 tNil))) := by
  have G : FnOk X.prog X.w X.K X.mg X.base CX0 1 fI fd ["self", "part", "index"] (spPI C) := T.ok
  exact pmk_oex T.T T.iC T.tI G hr T.b .nil pass0 hg T.g (pa_cons h1 (pa_cons h2 pa_nil s2) s1) (by decide) s1 hpl
theorem mk_go {C : Addr} {H : Hp} {part : Str} {i : Int} {Q : XK} (hl : part.length ≤ 1000) (hi : i.natAbs < 2 ^ 100) (q : PlanE C H part i Q) : [V.str part, V.int i].length ≤ 1000 ∧ ∀ a, H a = none → spPI C (.ref a :: ([V.str part, V.int i] ++ [])) (upd H a (exo a C none))
    (fun v H2 => v = .non ∧ ∃ (d : Addr) (fs : List (Str × V)), H2 a = some (exo a C (some d)) ∧ H2 d = some (exd d fs) ∧ H d = none ∧ Q (.ref C) (some d) (upd (del H2 a) d (.xd fs))) (fun _ _ _ => False) := by
  refine ⟨by show 2 ≤ 1000; decide, fun a ha => ⟨a, part, i, rfl, upd_same, hl, hi, fun d hd hda => ⟨rfl, d, _, ?_, upd_same, ?_, q _ d _ (fun b o hb => ?_) upd_same rfl rfl⟩⟩⟩
  · rw [upd_ne (Ne.symm hda), upd_same]
  · rw [upd_ne hda] at hd
    exact hd
  · have hd' : H d = none := by
      rw [upd_ne hda] at hd
      exact hd
    have b1 := ne_of_none hb hd'
    have b2 := ne_of_none hb ha
    rw [upd_ne b1, del_ne b2, upd_ne b1, upd_ne b2, upd_ne b1, upd_ne b2]
    exact hb
end
end Sv


set_option maxHeartbeats 4000000
namespace Sv
open PySem PySem.Spec PyProof.Rows L2
/-! ### plans as data -/
abbrev Ro := List (Option Int)
def eV : Option Int → V
  | none => .non
  | some i => .int i
def rV (r : Ro) : List V := r.map eV
theorem rV_len (r : Ro) : (rV r).length = r.length := by unfold rV; simp
theorem rV_get {r : Ro} {i : Nat} {e : Option Int} (h : r[i]? = some e) : (rV r)[i]? = some (eV e) := by
  unfold rV
  rw [List.getElem?_map, h]
  rfl
theorem rV_lt {r : Ro} {i : Nat} {x : V} (h : (rV r)[i]? = some x) : ∃ e, r[i]? = some e ∧ x = eV e := by
  unfold rV at h
  rw [List.getElem?_map] at h
  cases e : r[i]? with
  | none => rw [e] at h; cases h
  | some y =>
    rw [e] at h
    exact ⟨y, rfl, (Option.some.inj h).symm⟩
theorem iV_lt {zs : List Int} {i : Nat} {x : V} (h : (zs.map V.int)[i]? = some x) : ∃ z, zs[i]? = some z ∧ x = .int z := by
  rw [List.getElem?_map] at h
  cases e : zs[i]? with
  | none => rw [e] at h; cases h
  | some y =>
    rw [e] at h
    exact ⟨y, rfl, (Option.some.inj h).symm⟩
theorem refs_lt {qs : List Addr} {i : Nat} {x : V} (h : (qs.map V.ref)[i]? = some x) : ∃ q, qs[i]? = some q ∧ x = .ref q := by
  rw [List.getElem?_map] at h
  cases e : qs[i]? with
  | none => rw [e] at h; cases h
  | some y =>
    rw [e] at h
    exact ⟨y, rfl, (Option.some.inj h).symm⟩
/-- the first that p does not hold of -/
def fst {α : Type} (p : α → Bool) : List α → Nat → Option Nat
  | [], _ => none
  | x :: r, i => if p x = true then fst p r (i + 1) else some i
theorem fst_some {α : Type} {p : α → Bool} : ∀ {l : List α} {i k : Nat} {x : α}, (∀ (j : Nat) (y : α), j < i → l[j]? = some y → p y = true) → l[i]? = some x → p x = false → fst p l k = some (i + k)
  | [], i, k, x, _, h, _ => by simp at h
  | y :: l, 0, k, x, _, h, hp => by
    obtain rfl := Option.some.inj h
    unfold fst
    rw [hp]
    simp
  | y :: l, i + 1, k, x, hb, h, hp => by
    unfold fst
    rw [hb 0 y (by omega) rfl, if_pos rfl, fst_some (l := l) (i := i) (k := k + 1) (fun j z hj hz => hb (j + 1) z (by omega) (by simpa using hz)) (by simpa using h) hp]
    congr 1
    omega
theorem fst_none {α : Type} {p : α → Bool} : ∀ {l : List α} {k : Nat}, (∀ (j : Nat) (y : α), l[j]? = some y → p y = true) → fst p l k = none
  | [], _, _ => rfl
  | y :: l, k, h => by
    unfold fst
    rw [h 0 y rfl, if_pos rfl]
    exact fst_none fun j z hz => h (j + 1) z (by simpa using hz)
theorem fst_lt {α : Type} {p : α → Bool} : ∀ {l : List α} {k i : Nat}, fst p l k = some i → i < l.length + k
  | [], _, _, h => by cases h
  | y :: l, k, i, h => by
    unfold fst at h
    split at h
    · have := fst_lt h
      rw [List.length_cons]
      omega
    · cases h
      rw [List.length_cons]
      omega
theorem fst_all {α : Type} {p : α → Bool} : ∀ {l : List α} {k : Nat}, fst p l k = none → ∀ y ∈ l, p y = true
  | [], _, _, y, hy => by simp at hy
  | x :: l, k, h, y, hy => by
    unfold fst at h
    split at h
    · rename_i hx
      rcases List.mem_cons.mp hy with rfl | hy
      · exact hx
      · exact fst_all h y hy
    · cases h
def okZ (z : Int) : Bool := decide (0 ≤ z ∧ z ≤ 9)
def okE (n : Int) : Option Int → Bool
  | none => true
  | some i => decide (0 ≤ i ∧ i ≤ n - 1)
def okR (n : Int) (r : Ro) : Bool := decide (1 ≤ r.length ∧ r.length ≤ 6) && r.all (okE n)
def badS (zs : List Int) : Option Int := if 1 ≤ zs.length ∧ zs.length ≤ 12 then (fst okZ zs 0).map fun (k : Nat) => (k : Int) else some (-1)
def badR (n : Int) (rs : List Ro) : Option Int := if 1 ≤ rs.length ∧ rs.length ≤ 6 then (fst (okR n) rs 0).map fun (k : Nat) => (k : Int) else some (-1)
structure RtAt (K : PySem.W.Frag) (H : Hp) (b : Addr) (rs : List Ro) : Prop where
  ex : ∃ qs : List Addr, SqT K H b (qs.map V.ref) ∧ Paired (fun q r => SqT K H q (rV r)) qs rs
theorem paired_same {K : PySem.W.Frag} {H H' : Hp} (e : Same H H') : ∀ {qs : List Addr} {rs : List Ro}, Paired (fun q r => SqT K H q (rV r)) qs rs → Paired (fun q r => SqT K H' q (rV r)) qs rs
  | _, _, .nil => .nil
  | _, _, .cons h t => .cons (sqT_same e h) (paired_same e t)
theorem paired_len {K : PySem.W.Frag} {H : Hp} : ∀ {qs : List Addr} {rs : List Ro}, Paired (fun q r => SqT K H q (rV r)) qs rs → qs.length = rs.length
  | _, _, .nil => rfl
  | _, _, .cons _ t => congrArg Nat.succ (paired_len t)
theorem paired_at {K : PySem.W.Frag} {H : Hp} : ∀ {qs : List Addr} {rs : List Ro} {i : Nat} {q : Addr}, Paired (fun q r => SqT K H q (rV r)) qs rs → qs[i]? = some q → ∃ r, rs[i]? = some r ∧ SqT K H q (rV r)
  | _, _, i, q, .nil, e => by simp at e
  | _, _, 0, q, .cons h t, e => by
    obtain rfl := Option.some.inj e
    exact ⟨_, rfl, h⟩
  | _, _, i + 1, q, .cons h t, e => paired_at (i := i) t (by simpa using e)
theorem RtAt.same {K : PySem.W.Frag} {H H' : Hp} {b : Addr} {rs : List Ro} (x : RtAt K H b rs) (e : Same H H') : RtAt K H' b rs := by
  obtain ⟨qs, h1, h2⟩ := x.ex
  exact ⟨qs, sqT_same e h1, paired_same e h2⟩
/-- a plan in its place -/
structure PlanAt (K : PySem.W.Frag) (H : Hp) (p : Addr) (zs : List Int) (rs : List Ro) : Prop where
  ex : ∃ a b : Addr, SqT K H p [.ref a, .ref b] ∧ SqT K H a (zs.map V.int) ∧ RtAt K H b rs
theorem PlanAt.same {K : PySem.W.Frag} {H H' : Hp} {p : Addr} {zs : List Int} {rs : List Ro} (x : PlanAt K H p zs rs) (e : Same H H') : PlanAt K H' p zs rs := by
  obtain ⟨a, b, h1, h2, h3⟩ := x.ex
  exact ⟨a, b, sqT_same e h1, sqT_same e h2, h3.same e⟩
/-! ### the program's checks -/
/-- the plans' file -/
structure Pf (P : Program) (K : PySem.W.Frag) (mg : Str → Option Value) (C fI fW fS fR fT fP : Addr) (dI dW dS dR dT dP : FuncData) : Prop where
  bt : Bt mg
  pl : Pl P K mg C fI dI
  m1 : ∃ t, mg "MOST_SHELVES" = some (.int 12 t)
  m2 : ∃ t, mg "MOST_ON_SHELF" = some (.int 9 t)
  m3 : ∃ t, mg "MOST_CARRIERS" = some (.int 6 t)
  m4 : ∃ t, mg "MOST_ENTRIES" = some (.int 6 t)
  W : Df K mg "is_within" sWithin ["number", "low", "high"] fW dW
  S : Df K mg "check_sizes" sCheckSizes ["sizes"] fS dS
  R : Df K mg "check_routes" sCheckRoutes ["routes", "shelves"] fR dR
  T : Df K mg "is_route" sIsRoute ["route", "shelves"] fT dT
  P : Df K mg "check_plan" sCheckPlan ["plan"] fP dP
section
variable {P : Program} {w : World} {K : PySem.W.Frag} {mg : Str → Option Value} {base : Heap}
variable {C fI fW fS fR fT fP : Addr} {dI dW dS dR dT dP : FuncData}
theorem scIsRoute : FnScope ["route", "shelves", "entry"] ["route", "shelves"] (defScope sIsRoute) := ⟨rfl, rfl, rfl, by decide +kernel, rfl, by decide +kernel, by decide +kernel⟩
def spIsRoute (K : PySem.W.Frag) : Sp := fun vs H Q _ => ∃ (q : Addr) (r : Ro) (n : Int), vs = [.ref q, .int n] ∧ SqT K H q (rV r) ∧ r.length ≤ 1000 ∧ Q (.bl (okR n r)) H
theorem okR_all {n : Int} {r : Ro} (h1 : 1 ≤ r.length ∧ r.length ≤ 6) (h : ∀ (j : Nat) (e : Option Int), r[j]? = some e → okE n e = true) : okR n r = true := by
  unfold okR
  rw [decide_eq_true h1, Bool.true_and]
  refine List.all_eq_true.mpr fun e he => ?_
  obtain ⟨j, hj⟩ := List.mem_iff_getElem?.mp he
  exact h j e hj
theorem okR_no {n : Int} {r : Ro} {j : Nat} {e : Option Int} (h : r[j]? = some e) (hb : okE n e = false) : okR n r = false := by
  unfold okR
  have : r.all (okE n) = false := by
    rw [List.all_eq_false]
    exact ⟨e, List.mem_of_getElem? h, by rw [hb]; decide⟩
  rw [this, Bool.and_false]
theorem ok_isRoute (T : Pf P K mg C fI fW fS fR fT fP dI dW dS dR dT dP) : FnOk P w K mg base CX0 2 fT dT ["route", "shelves"] (spIsRoute K) := by
  have GW : FnOk P w K mg base CX0 1 fW dW ["number", "low", "high"] spWithin := ok_within T.W.F T.bt.isinstance T.bt.bool T.bt.int
  obtain ⟨t4, h4⟩ := T.m4
  refine T.T.F.ok scIsRoute (fun vs H Q E h => ?_) (fun cdv A outer s H vs Q E hr h => ?_)
  · obtain ⟨q, r, n, rfl, _⟩ := h
    rfl
  · obtain ⟨q, r, n, rfl, hq, hl, hQ⟩ := h
    refine ⟨_, pss_cons (ps_if (pw_or (pt_not (pt_val (pe_callB call_isi (by rfl) T.bt.isinstance b_isinstance (pa_cons (pv 0) (pa_cons (pe_ty (by rfl) T.bt.tuple b_tuple) pa_nil)))))
        (pw_or1 (pt_not (pt_chain op_le op_le pe_int (pe_callB call_len_seq (by rfl) T.bt.len b_len (pa_cons (pv 0) pa_nil)) (pe_glob (v := .int 6) (by rfl) h4 ⟨_, rfl⟩))))).pt (pss_one (ps_ret pe_bl)) pss_nil)
      (pss_cons (ps_for PassesOwn.never rfl (pi_tup (pv 0)) (pg_name (i := 2) scIsRoute.nd rfl (Or.inl rfl))
        (pss_one (ps_if (pw_and (pt_cmpR op_notN (pv 2) pe_non (nomark _)) (pw_and1 (pt_not (pt_val (pe_call (E := E0) GW hr (by rfl) T.W.g T.W.F.kp T.W.b .nil pass0 (pa_cons (pv 2) (pa_cons pe_int (pa_cons (pe_op op_sub (pv 1) pe_int) pa_nil)))))))).pt (pss_one (ps_ret pe_bl)) pss_nil)))
      (pss_one (ps_ret pe_bl))), ?_⟩
    refine ⟨.ref q, rfl, .ref q, .ty "tuple", _, _, true, rfl, .ty "tuple", tyx_tup hq, kit_ty (by decide +kernel), true, rfl, iteF ?_⟩
    refine ⟨.ref q, rfl, q, rV r, rfl, .inr hq, 1, _, rfl, rfl, _, rfl, ?_⟩
    rw [rV_len]
    have no : ∀ b, okR n r = b → b = false → Q (.bl false) H := fun b e1 e2 => by
      rw [e1, e2] at hQ
      exact hQ
    by_cases h1 : (1 : Int) ≤ (r.length : Nat)
    · rw [decide_eq_true h1]
      refine iteT ⟨_, _, rfl, rfl, _, rfl, ?_⟩
      by_cases h2 : ((r.length : Nat) : Int) ≤ 6
      · rw [decide_eq_true h2]
        refine iteF ?_
        have hlen : 1 ≤ r.length ∧ r.length ≤ 6 := ⟨by omega, by omega⟩
        refine ⟨.ref q, rfl, q, rfl, ⟨_, hq⟩, for_tup (xs := rV r) (fun i σ H' => (∃ y, σ = [some (.ref q), some (.int n), y]) ∧ H' = H ∧ ∀ j e, j < i → r[j]? = some e → okE n e = true) ⟨⟨none, rfl⟩, rfl, fun j e hj => by omega⟩ (fun i σ H' _ h => by rw [h.2.1]; exact hq)
          (fun i x σ H' hx ⟨⟨y, es⟩, eH, hok⟩ => ?_) (fun σ H' ⟨⟨y, es⟩, eH, hok⟩ => ?_)⟩
        · subst es
          subst eH
          obtain ⟨e, he, rfl⟩ := rV_lt hx
          have more : okE n e = true → ∀ j e', j < i + 1 → r[j]? = some e' → okE n e' = true := fun h j e' hj hh => by
            by_cases hji : j = i
            · rw [hji, he] at hh
              rw [← Option.some.inj hh]
              exact h
            · exact hok j e' (by omega) hh
          cases e with
          | none =>
            refine ⟨.non, rfl, rfl, false, rfl, iteF (iteF ⟨⟨_, rfl⟩, rfl, more rfl⟩)⟩
          | some z =>
            refine ⟨.int z, rfl, rfl, true, rfl, iteT ⟨.int z, rfl, .int n, rfl, n, 1, rfl, rfl, z, 0, n - 1, rfl, _, rfl, ?_⟩⟩
            by_cases hz : 0 ≤ z ∧ z ≤ n - 1
            · rw [decide_eq_true hz]
              exact iteF ⟨⟨_, rfl⟩, rfl, more (decide_eq_true hz)⟩
            · rw [decide_eq_false hz]
              exact iteT (no _ (okR_no he (decide_eq_false hz)) rfl)
        · subst es
          subst eH
          rw [rV_len] at hok
          have : okR n r = true := okR_all hlen fun j e he => hok j e (List.getElem?_eq_some_iff.mp he).1 he
          rw [this] at hQ
          exact hQ
      · rw [decide_eq_false h2]
        refine iteT (no _ ?_ rfl)
        unfold okR
        rw [decide_eq_false (fun z => h2 (by omega)), Bool.false_and]
    · rw [decide_eq_false h1]
      refine iteF ⟨false, rfl, iteT (no _ ?_ rfl)⟩
      unfold okR
      rw [decide_eq_false (fun z => h1 (by omega)), Bool.false_and]
end
end Sv


set_option maxHeartbeats 4000000
namespace Sv
open PySem PySem.Spec PyProof.Rows L2
section
variable {P : Program} {w : World} {K : PySem.W.Frag} {mg : Str → Option Value} {base : Heap}
variable {C fI fW fS fR fT fP : Addr} {dI dW dS dR dT dP : FuncData}
theorem scCheckSizes : FnScope ["sizes", "index", "size"] ["sizes"] (defScope sCheckSizes) := ⟨rfl, rfl, rfl, by decide +kernel, rfl, by decide +kernel, by decide +kernel⟩
theorem scCheckRoutes : FnScope ["routes", "shelves", "index", "route"] ["routes", "shelves"] (defScope sCheckRoutes) := ⟨rfl, rfl, rfl, by decide +kernel, rfl, by decide +kernel, by decide +kernel⟩
theorem scCheckPlan : FnScope ["plan", "sizes", "routes"] ["plan"] (defScope sCheckPlan) := ⟨rfl, rfl, rfl, by decide +kernel, rfl, by decide +kernel, by decide +kernel⟩
theorem small_idx {i : Nat} (h : i ≤ 1000) : ((i : Nat) : Int).natAbs < 2 ^ 100 := Nat.lt_of_le_of_lt (by omega : ((i : Nat) : Int).natAbs ≤ 1000) (by decide)
def spCheckSizes (K : PySem.W.Frag) (C : Addr) : Sp := fun vs H Q E => ∃ (a : Addr) (zs : List Int), vs = [.ref a] ∧ SqT K H a (zs.map V.int) ∧ zs.length ≤ 1000 ∧ (badS zs = none → ∀ H', Same H H' → Q .non H') ∧ (∀ i, badS zs = some i → PlanE C H "sizes" i E)
theorem ok_checkSizes (T : Pf P K mg C fI fW fS fR fT fP dI dW dS dR dT dP) : FnOk P w K mg base (L2.CX P w) 3 fS dS ["sizes"] (spCheckSizes K C) := by
  have GW : FnOk P w K mg base CX0 1 fW dW ["number", "low", "high"] spWithin := ok_within T.W.F T.bt.isinstance T.bt.bool T.bt.int
  obtain ⟨t1, h1⟩ := T.m1
  obtain ⟨t2, h2⟩ := T.m2
  refine T.S.F.okX scCheckSizes (fun vs H Q E h => ?_) (fun cdv A outer s H vs Q E hr h => ?_)
  · obtain ⟨a, zs, rfl, _⟩ := h
    rfl
  · obtain ⟨a, zs, rfl, hA, hl, q1, q2⟩ := h
    refine ⟨_, pss_cons (ps_if (pt_not (pt_chain op_le op_le pe_int (pe_callB call_len_seq (by rfl) T.bt.len b_len (pa_cons (pv 0) pa_nil)) (pe_glob (v := .int 12) (by rfl) h1 ⟨_, rfl⟩)))
        (pss_one (ps_raise rfl (takes_of rfl rfl rfl rfl) (pmk_plan T.pl hr (by rfl) pe_str (pe_un un_neg pe_int)))) pss_nil)
      (pss_one (ps_for (passes_of rfl) rfl (pi_enumT (by rfl) T.bt.enumerate (pa_cons (pv 0) pa_nil)) (pg_tup rfl (pgs_cons (pg_name (i := 1) scCheckSizes.nd rfl (.inl rfl)) (pgs_cons (pg_name (i := 2) scCheckSizes.nd rfl (.inl rfl)) pgs_nil)))
        (pss_one (ps_if (pt_not (pt_val (pe_call (E := E0) GW (hr.mono (by decide)) (by rfl) T.W.g T.W.F.kp T.W.b .nil pass0 (pa_cons (pv 2) (pa_cons pe_int (pa_cons (pe_glob (v := .int 9) (by rfl) h2 ⟨_, rfl⟩) pa_nil))))))
          (pss_one (ps_raise rfl (takes_of rfl rfl rfl rfl) (pmk_plan T.pl hr (by rfl) pe_str (pv 1)))) pss_nil)))), ?_⟩
    have big : (-1 : Int).natAbs < 2 ^ 100 := by decide
    have lw : ("sizes" : Str).length ≤ 1000 := by decide
    have no : ¬ (1 ≤ zs.length ∧ zs.length ≤ 12) → PlanE C H "sizes" (-1) E := fun hz => q2 (-1) (by unfold badS; rw [if_neg hz])
    refine ⟨.ref a, rfl, a, _, rfl, .inr hA, 1, _, rfl, rfl, _, rfl, ?_⟩
    rw [List.length_map]
    by_cases c1 : (1 : Int) ≤ (zs.length : Nat)
    · rw [decide_eq_true c1]
      refine iteT ⟨_, _, rfl, rfl, _, rfl, ?_⟩
      by_cases c2 : ((zs.length : Nat) : Int) ≤ 12
      · rw [decide_eq_true c2]
        have hz : 1 ≤ zs.length ∧ zs.length ≤ 12 := ⟨by omega, by omega⟩
        have eb : badS zs = (fst okZ zs 0).map fun (k : Nat) => (k : Int) := by unfold badS; rw [if_pos hz]
        refine iteF ⟨.ref a, rfl, a, _, rfl, hA, for_enumT (xs := zs.map V.int) (fun i σ H' => (∃ y1 y2, σ = [some (.ref a), y1, y2]) ∧ Same H H' ∧ ∀ (j : Nat) (z : Int), j < i → zs[j]? = some z → okZ z = true) ⟨⟨none, none, rfl⟩, fun _ _ h => h, fun j z hj => by omega⟩
          (fun i σ H' _ h => sqT_same h.2.1 hA) (fun i x σ H' U hx ⟨⟨y1, y2, es⟩, sm, hok⟩ hU => ?_) (fun σ H' ⟨_, sm, hok⟩ => ?_)⟩
        · subst es
          obtain ⟨z, hz1, rfl⟩ := iV_lt hx
          have sm2 : Same H (upd H' U (.tup [.int (i : Nat), .int z])) := same_of sm (Same.free sm hU)
          refine ⟨U, [.int (i : Nat), .int z], rfl, .inl (.inl upd_same), rfl, _, _, rfl, _, _, rfl, rfl, ?_⟩
          refine ⟨.int z, rfl, z, 0, 9, rfl, _, rfl, ?_⟩
          by_cases hzz : 0 ≤ z ∧ z ≤ 9
          · rw [decide_eq_true hzz]
            refine iteF ⟨⟨_, _, rfl⟩, sm2, fun j z' hj hz' => ?_⟩
            by_cases hji : j = i
            · rw [hji, hz1] at hz'
              rw [← Option.some.inj hz']
              exact decide_eq_true hzz
            · exact hok j z' (by omega) hz'
          · rw [decide_eq_false hzz]
            have il : i < zs.length := (List.getElem?_eq_some_iff.mp hz1).1
            refine iteT ⟨.int (i : Nat), rfl, mk_go lw (small_idx (by omega)) ((q2 i ?_).imp sm2)⟩
            rw [eb, fst_some (i := i) (x := z) hok hz1 (decide_eq_false hzz)]
            rfl
        · rw [List.length_map] at hok
          refine q1 ?_ H' sm
          rw [eb, fst_none fun j z hz' => hok j z (List.getElem?_eq_some_iff.mp hz').1 hz']
          rfl
      · rw [decide_eq_false c2]
        exact iteT ⟨1, rfl, mk_go lw big (no fun z => c2 (by omega))⟩
    · rw [decide_eq_false c1]
      exact iteF ⟨false, rfl, iteT ⟨1, rfl, mk_go lw big (no fun z => c1 (by omega))⟩⟩
def spCheckRoutes (K : PySem.W.Frag) (C : Addr) : Sp := fun vs H Q E => ∃ (b : Addr) (rs : List Ro) (n : Int), vs = [.ref b, .int n] ∧ RtAt K H b rs ∧ rs.length ≤ 1000 ∧ (∀ r ∈ rs, r.length ≤ 1000) ∧ (badR n rs = none → ∀ H', Same H H' → Q .non H') ∧ (∀ i, badR n rs = some i → PlanE C H "routes" i E)
theorem ok_checkRoutes (T : Pf P K mg C fI fW fS fR fT fP dI dW dS dR dT dP) : FnOk P w K mg base (L2.CX P w) 3 fR dR ["routes", "shelves"] (spCheckRoutes K C) := by
  have GT : FnOk P w K mg base CX0 2 fT dT ["route", "shelves"] (spIsRoute K) := ok_isRoute T
  obtain ⟨t3, h3⟩ := T.m3
  refine T.R.F.okX scCheckRoutes (fun vs H Q E h => ?_) (fun cdv A outer s H vs Q E hr h => ?_)
  · obtain ⟨b, rs, n, rfl, _⟩ := h
    rfl
  · obtain ⟨b, rs, n, rfl, hB, hl, hrl, q1, q2⟩ := h
    obtain ⟨qs, hA, hP⟩ := hB.ex
    have hql := paired_len hP
    refine ⟨_, pss_cons (ps_if (pt_not (pt_chain op_le op_le pe_int (pe_callB call_len_seq (by rfl) T.bt.len b_len (pa_cons (pv 0) pa_nil)) (pe_glob (v := .int 6) (by rfl) h3 ⟨_, rfl⟩)))
        (pss_one (ps_raise rfl (takes_of rfl rfl rfl rfl) (pmk_plan T.pl hr (by rfl) pe_str (pe_un un_neg pe_int)))) pss_nil)
      (pss_one (ps_for (passes_of rfl) rfl (pi_enumT (by rfl) T.bt.enumerate (pa_cons (pv 0) pa_nil)) (pg_tup rfl (pgs_cons (pg_name (i := 2) scCheckRoutes.nd rfl (.inl rfl)) (pgs_cons (pg_name (i := 3) scCheckRoutes.nd rfl (.inl rfl)) pgs_nil)))
        (pss_one (ps_if (pt_not (pt_val (pe_call (E := E0) GT hr (by rfl) T.T.g T.T.F.kp T.T.b .nil pass0 (pa_cons (pv 3) (pa_cons (pv 1) pa_nil)))))
          (pss_one (ps_raise rfl (takes_of rfl rfl rfl rfl) (pmk_plan T.pl hr (by rfl) pe_str (pv 2)))) pss_nil)))), ?_⟩
    have big : (-1 : Int).natAbs < 2 ^ 100 := by decide
    have lw : ("routes" : Str).length ≤ 1000 := by decide
    have no : ¬ (1 ≤ rs.length ∧ rs.length ≤ 6) → PlanE C H "routes" (-1) E := fun hz => q2 (-1) (by unfold badR; rw [if_neg hz])
    refine ⟨.ref b, rfl, b, _, rfl, .inr hA, 1, _, rfl, rfl, _, rfl, ?_⟩
    rw [List.length_map, hql]
    by_cases c1 : (1 : Int) ≤ (rs.length : Nat)
    · rw [decide_eq_true c1]
      refine iteT ⟨_, _, rfl, rfl, _, rfl, ?_⟩
      by_cases c2 : ((rs.length : Nat) : Int) ≤ 6
      · rw [decide_eq_true c2]
        have hz : 1 ≤ rs.length ∧ rs.length ≤ 6 := ⟨by omega, by omega⟩
        have eb : badR n rs = (fst (okR n) rs 0).map fun (k : Nat) => (k : Int) := by unfold badR; rw [if_pos hz]
        refine iteF ⟨.ref b, rfl, b, _, rfl, hA, for_enumT (xs := qs.map V.ref) (fun i σ H' => (∃ y1 y2, σ = [some (.ref b), some (.int n), y1, y2]) ∧ Same H H' ∧ ∀ (j : Nat) (r : Ro), j < i → rs[j]? = some r → okR n r = true) ⟨⟨none, none, rfl⟩, fun _ _ h => h, fun j z hj => by omega⟩
          (fun i σ H' _ h => sqT_same h.2.1 hA) (fun i x σ H' U hx ⟨⟨y1, y2, es⟩, sm, hok⟩ hU => ?_) (fun σ H' ⟨_, sm, hok⟩ => ?_)⟩
        · subst es
          obtain ⟨qa, hqa, rfl⟩ := refs_lt hx
          obtain ⟨r, hr1, hqr⟩ := paired_at hP hqa
          have sm2 : Same H (upd H' U (.tup [.int (i : Nat), .ref qa])) := same_of sm (Same.free sm hU)
          refine ⟨U, [.int (i : Nat), .ref qa], rfl, .inl (.inl upd_same), rfl, _, _, rfl, _, _, rfl, rfl, ?_⟩
          refine ⟨.ref qa, rfl, .int n, rfl, qa, r, n, rfl, sqT_same sm2 hqr, hrl r (List.mem_of_getElem? hr1), _, rfl, ?_⟩
          by_cases hzz : okR n r = true
          · rw [hzz]
            refine iteF ⟨⟨_, _, rfl⟩, sm2, fun j z' hj hz' => ?_⟩
            by_cases hji : j = i
            · rw [hji, hr1] at hz'
              rw [← Option.some.inj hz']
              exact hzz
            · exact hok j z' (by omega) hz'
          · have hzf : okR n r = false := by simpa using hzz
            rw [hzf]
            have il : i < rs.length := (List.getElem?_eq_some_iff.mp hr1).1
            refine iteT ⟨.int (i : Nat), rfl, mk_go lw (small_idx (by omega)) ((q2 i ?_).imp sm2)⟩
            rw [eb, fst_some (i := i) (x := r) hok hr1 hzf]
            rfl
        · rw [List.length_map, hql] at hok
          refine q1 ?_ H' sm
          rw [eb, fst_none fun j z hz' => hok j z (List.getElem?_eq_some_iff.mp hz').1 hz']
          rfl
      · rw [decide_eq_false c2]
        exact iteT ⟨1, rfl, mk_go lw big (no fun z => c2 (by omega))⟩
    · rw [decide_eq_false c1]
      exact iteF ⟨false, rfl, iteT ⟨1, rfl, mk_go lw big (no fun z => c1 (by omega))⟩⟩
/-- what is wrong with a plan -/
def bad (zs : List Int) (rs : List Ro) : Option (Str × Int) := match badS zs with
  | some i => some ("sizes", i)
  | none => (badR zs.length rs).map fun i => ("routes", i)
def Small (zs : List Int) (rs : List Ro) : Prop := zs.length ≤ 1000 ∧ rs.length ≤ 1000 ∧ ∀ r ∈ rs, r.length ≤ 1000
def spCheckPlan (K : PySem.W.Frag) (C : Addr) : Sp := fun vs H Q E => ∃ (p : Addr) (zs : List Int) (rs : List Ro), vs = [.ref p] ∧ PlanAt K H p zs rs ∧ Small zs rs ∧ (bad zs rs = none → ∀ H', Same H H' → Q .non H') ∧ (∀ part i, bad zs rs = some (part, i) → PlanE C H part i E)
theorem ok_checkPlan (T : Pf P K mg C fI fW fS fR fT fP dI dW dS dR dT dP) : FnOk P w K mg base (L2.CX P w) 4 fP dP ["plan"] (spCheckPlan K C) := by
  have GS : FnOk P w K mg base (L2.CX P w) 3 fS dS ["sizes"] (spCheckSizes K C) := ok_checkSizes T
  have GR : FnOk P w K mg base (L2.CX P w) 3 fR dR ["routes", "shelves"] (spCheckRoutes K C) := ok_checkRoutes T
  refine T.P.F.okX scCheckPlan (fun vs H Q E h => ?_) (fun cdv A outer s H vs Q E hr h => ?_)
  · obtain ⟨p, zs, rs, rfl, _⟩ := h
    rfl
  · obtain ⟨p, zs, rs, rfl, hp, ⟨l1, l2, l3⟩, q1, q2⟩ := h
    obtain ⟨a, b, hp1, ha, hb⟩ := hp.ex
    refine ⟨_, pss_cons (ps_asg (pv 0) (pg_tup rfl (pgs_cons (pg_name (i := 1) scCheckPlan.nd rfl (.inl rfl)) (pgs_cons (pg_name (i := 2) scCheckPlan.nd rfl (.inl rfl)) pgs_nil))))
      (pss_cons (ps_expr (pe_call (E := E) GS hr (by rfl) T.S.g T.S.F.kp T.S.b .nil (passes_call (takes_of rfl rfl rfl rfl) fun _ _ _ _ h => h) (pa_cons (pv 1) pa_nil)))
      (pss_one (ps_expr (pe_call (E := E) GR hr (by rfl) T.R.g T.R.F.kp T.R.b .nil (passes_call (takes_of rfl rfl rfl rfl) fun _ _ _ _ h => h) (pa_cons (pv 2) (pa_cons (pe_callB call_len_seq (by rfl) T.bt.len b_len (pa_cons (pv 1) pa_nil)) pa_nil)))))), ?_⟩
    refine ⟨.ref p, rfl, p, [.ref a, .ref b], rfl, hp1, rfl, _, _, rfl, _, _, rfl, rfl, ?_⟩
    refine ⟨.ref a, rfl, a, zs, rfl, ha, l1, fun e1 H1 sm1 => ?_, fun i e1 => q2 _ i ?_⟩
    · refine ⟨.ref b, rfl, .ref a, rfl, a, _, rfl, .inr (sqT_same sm1 ha), b, rs, _, rfl, hb.same sm1, l2, l3, fun e2 H2 sm2 => q1 ?_ H2 (sm1.trans sm2), fun i e2 => (q2 "routes" i ?_).imp sm1⟩
      · unfold bad
        rw [e1]
        rw [List.length_map] at e2
        simp only [e2, Option.map_none]
      · unfold bad
        rw [e1]
        rw [List.length_map] at e2
        simp only [e2, Option.map_some]
    · unfold bad
      rw [e1]
end
end Sv


set_option maxHeartbeats 4000000
namespace Sv
open PySem PySem.Spec PyProof.Rows L2
/-! ### new lists of new tuples -/
abbrev TupsV (H : Hp) (ps : List Addr) (ts : List (List V)) : Prop := Paired (fun p t => H p = some (.tup t)) ps ts
theorem tupsV_imp {H H' : Hp} (e : ∀ b xs, H b = some (.tup xs) → H' b = some (.tup xs)) : ∀ {ps : List Addr} {ts : List (List V)}, TupsV H ps ts → TupsV H' ps ts
  | _, _, .nil => .nil
  | _, _, .cons h t => .cons (e _ _ h) (tupsV_imp e t)
theorem tupsV_same {H H' : Hp} (e : Same H H') {ps : List Addr} {ts : List (List V)} (h : TupsV H ps ts) : TupsV H' ps ts := tupsV_imp (fun b xs q => e _ _ q) h
theorem tupsV_len {H : Hp} : ∀ {ps : List Addr} {ts : List (List V)}, TupsV H ps ts → ps.length = ts.length
  | _, _, .nil => rfl
  | _, _, .cons _ t => congrArg Nat.succ (tupsV_len t)
theorem tupsV_app {H : Hp} : ∀ {ps qs : List Addr} {ts us : List (List V)}, TupsV H ps ts → TupsV H qs us → TupsV H (ps ++ qs) (ts ++ us)
  | _, _, _, _, .nil, h => h
  | _, _, _, _, .cons h t, h2 => .cons h (tupsV_app t h2)
theorem tupsV_snoc {H : Hp} {p : Addr} {t : List V} {ps : List Addr} {ts : List (List V)} (h : TupsV H ps ts) (hp : H p = some (.tup t)) : TupsV H (ps ++ [p]) (ts ++ [t]) := tupsV_app h (.cons hp .nil)
/-- at f a list of new tuples -/
structure TL (H : Hp) (f : Addr) (ts : List (List V)) : Prop where
  ex : ∃ ps : List Addr, H f = some (.lst (ps.map V.ref)) ∧ TupsV H ps ts
theorem TL.same {H H' : Hp} {f : Addr} {ts : List (List V)} (x : TL H f ts) (e : Same H H') : TL H' f ts := by
  obtain ⟨ps, h1, h2⟩ := x.ex
  exact ⟨ps, e _ _ h1, tupsV_same e h2⟩
/-- one more behind -/
theorem TL.push {H : Hp} {f p : Addr} {ts : List (List V)} {t : List V} {xs : List V} (x : TL H f ts) (hf : H f = some (.lst xs)) (hp : H p = some (.tup t)) : TL (upd H f (.lst (xs ++ [.ref p]))) f (ts ++ [t]) := by
  obtain ⟨ps, h1, h2⟩ := x.ex
  rw [hf] at h1
  obtain rfl := HO.lst.inj (Option.some.inj h1)
  refine ⟨ps ++ [p], by rw [upd_same, List.map_append]; rfl, tupsV_imp (fun b xs q => ?_) (tupsV_snoc h2 hp)⟩
  rw [upd_ne (fun z => by rw [z, hf] at q; cases q)]
  exact q
def NewTL (H : Hp) (ts : List (List V)) (Q : VK) : Prop := ∀ H' f, Same H H' → H f = none → TL H' f ts → Q (.ref f) H'
/-! ### who meets whom -/
/-- the entry of a route at a time -/
def ent (r : Ro) (m : Int) : Option Int := r.getD (m % (r.length : Int)).toNat none
theorem ent_get {r : Ro} (h : r ≠ []) (m : Int) : r[(m % (r.length : Int)).toNat]? = some (ent r m) ∧ m % (r.length : Int) = ((m % (r.length : Int)).toNat : Int) := by
  have hl : 0 < r.length := List.length_pos_iff.mpr h
  have h0 := Int.emod_nonneg m (by omega : (r.length : Int) ≠ 0)
  have h1 := Int.emod_lt_of_pos m (by omega : (0 : Int) < (r.length : Int))
  have e := Int.toNat_of_nonneg h0
  refine ⟨?_, e.symm⟩
  have hlt : (m % (r.length : Int)).toNat < r.length := by omega
  unfold ent
  rw [List.getD_eq_getElem?_getD, List.getElem?_eq_getElem hlt]
  rfl
def pairV (c : Nat) (z : Int) : List V := [.int (c : Nat), .int z]
/-- the pairs of the first k carriers -/
def meetN (rs : List Ro) (m : Int) : Nat → List (List V)
  | 0 => []
  | k + 1 => meetN rs m k ++ (match rs[k]? with | some r => (match ent r m with | some z => [pairV k z] | none => []) | none => [])
def meets (rs : List Ro) (m : Int) : List (List V) := meetN rs m rs.length
theorem meetN_none {rs : List Ro} {m : Int} {k : Nat} {r : Ro} (h : rs[k]? = some r) (e : ent r m = none) : meetN rs m (k + 1) = meetN rs m k := by
  conv => lhs; unfold meetN
  rw [h]
  simp only [e, List.append_nil]
theorem meetN_some {rs : List Ro} {m : Int} {k : Nat} {r : Ro} {z : Int} (h : rs[k]? = some r) (e : ent r m = some z) : meetN rs m (k + 1) = meetN rs m k ++ [pairV k z] := by
  conv => lhs; unfold meetN
  rw [h]
  simp only [e]
theorem meetN_len (rs : List Ro) (m : Int) : ∀ k, (meetN rs m k).length ≤ k
  | 0 => Nat.le_refl _
  | k + 1 => by
    unfold meetN
    rw [List.length_append]
    have := meetN_len rs m k
    split
    · split
      · simp; omega
      · simp; omega
    · simp; omega
section
variable {P : Program} {w : World} {K : PySem.W.Frag} {mg : Str → Option Value} {base : Heap}
theorem scVisitsIn : FnScope ["routes", "number", "found", "carrier", "route", "shelf"] ["routes", "number"] (defScope sVisitsIn) := ⟨rfl, rfl, rfl, by decide +kernel, rfl, by decide +kernel, by decide +kernel⟩
def spVisitsIn (K : PySem.W.Frag) : Sp := fun vs H Q _ => ∃ (b : Addr) (rs : List Ro) (n : Int), vs = [.ref b, .int n] ∧ RtAt K H b rs ∧ rs.length ≤ 1000 ∧ (∀ r ∈ rs, r ≠ [] ∧ r.length ≤ 1000) ∧ NewTL H (meets rs (n - 1)) Q
theorem ok_visitsIn {f : Addr} {fd : FuncData} (F : Df K mg "visits_in_tick" sVisitsIn ["routes", "number"] f fd) (B : Bt mg) : FnOk P w K mg base CX0 1 f fd ["routes", "number"] (spVisitsIn K) := by
  refine F.F.ok scVisitsIn (fun vs H Q E h => ?_) (fun cdv A outer s H vs Q E hr h => ?_)
  · obtain ⟨b, rs, n, rfl, _⟩ := h
    rfl
  · obtain ⟨b, rs, n, rfl, hB, hl, hrs, q⟩ := h
    obtain ⟨qs, hA, hP⟩ := hB.ex
    have hql := paired_len hP
    refine ⟨_, pss_cons (ps_set (i := 2) scVisitsIn.nd rfl (Or.inl rfl) (pe_lst pa_nil))
      (pss_cons (ps_for PassesOwn.never rfl (pi_enumT (by rfl) B.enumerate (pa_cons (pv 0) pa_nil)) (pg_tup rfl (pgs_cons (pg_name (i := 3) scVisitsIn.nd rfl (.inl rfl)) (pgs_cons (pg_name (i := 4) scVisitsIn.nd rfl (.inl rfl)) pgs_nil)))
        (pss_cons (ps_set (i := 5) scVisitsIn.nd rfl (Or.inl rfl) (pe_ix ix_tup (pv 4) (pe_op op_mod (pe_op op_sub (pv 1) pe_int) (pe_callB call_len_seq (by rfl) B.len b_len (pa_cons (pv 4) pa_nil))) (fun _ _ => rfl)))
        (pss_one (ps_if (pt_cmpR op_notN (pv 5) pe_non (nomark _)) (pss_one (ps_expr (pe_bm PySem.F.plainAttrs_list PySem.F.slot_list_append PySem.F.type_list_append mt_append (pv 2) (pa_cons (pe_tup (pa_cons (pv 3) (pa_cons (pv 5) pa_nil))) pa_nil)))) pss_nil))))
      (pss_one (ps_ret (pv 2)))), ?_⟩
    refine ⟨Nat.zero_le _, fun f hf => ?_⟩
    have sm0 : Same H (upd H f (.lst [])) := same_upd hf
    refine ⟨.ref b, rfl, b, _, rfl, sqT_same sm0 hA, for_enumT (xs := qs.map V.ref) (fun i σ H' => (∃ y3 y4 y5, σ = [some (.ref b), some (.int n), some (.ref f), y3, y4, y5]) ∧ Same H H' ∧ TL H' f (meetN rs (n - 1) i)) ⟨⟨none, none, none, rfl⟩, sm0, [], upd_same, .nil⟩
      (fun i σ H' _ h => sqT_same h.2.1 hA) (fun i x σ H' U hx ⟨⟨y3, y4, y5, es⟩, sm, tl⟩ hU => ?_) (fun σ H' ⟨⟨y3, y4, y5, es⟩, sm, tl⟩ => ?_)⟩
    · subst es
      obtain ⟨qa, hqa, rfl⟩ := refs_lt hx
      obtain ⟨r, hr1, hqr⟩ := paired_at hP hqa
      have il : i < rs.length := (List.getElem?_eq_some_iff.mp hr1).1
      obtain ⟨rne, rl⟩ := hrs r (List.mem_of_getElem? hr1)
      obtain ⟨eg, em⟩ := ent_get rne (n - 1)
      have hrl : 0 < r.length := List.length_pos_iff.mpr rne
      have sm2 : Same H (upd H' U (.tup [.int (i : Nat), .ref qa])) := same_of sm (Same.free sm hU)
      have tl2 := tl.same (same_upd (o := .tup [.int (i : Nat), .ref qa]) hU)
      refine ⟨U, [.int (i : Nat), .ref qa], rfl, .inl (.inl upd_same), rfl, _, _, rfl, _, _, rfl, rfl, ?_⟩
      generalize upd H' U (.tup [.int (i : Nat), .ref qa]) = H2 at sm2 tl2 ⊢
      have hq2 := sqT_same sm2 hqr
      obtain ⟨ps, hff, htv⟩ := tl2.ex
      have pl : ps.length ≤ i := by rw [tupsV_len htv]; exact meetN_len _ _ _
      have eg2 : (rV r)[((n - 1) % (r.length : Int)).toNat]? = some (eV (ent r (n - 1))) := rV_get eg
      have hmod : (n - 1) % (((rV r).length : Nat) : Int) = (((n - 1) % (r.length : Int)).toNat : Nat) := by rw [rV_len]; exact em
      have hpos : (0 : Int) < (((rV r).length : Nat) : Int) := by rw [rV_len]; omega
      refine ⟨.ref qa, rfl, .int n, rfl, n, 1, rfl, rfl, .ref qa, rfl, qa, rV r, rfl, .inr hq2, n - 1, _, rfl, rfl, hpos, qa, rV r, _, eV (ent r (n - 1)), rfl, rfl, hq2, ?_, ?_⟩
      · show atI (rV r) ((n - 1) % (((rV r).length : Nat) : Int)) = _
        rw [hmod]
        exact atI_nat eg2
      cases he : ent r (n - 1) with
      | none =>
        refine ⟨.non, rfl, rfl, false, rfl, iteF ⟨⟨_, _, _, rfl⟩, sm2, ?_⟩⟩
        rw [meetN_none hr1 he]
        exact tl2
      | some z =>
        refine ⟨.int z, rfl, rfl, true, rfl, iteT ⟨.ref f, rfl, .inl ⟨rfl, _, .inl (.inl hff)⟩, .int (i : Nat), rfl, .int z, rfl, (by show 2 ≤ sizeLine; decide), fun p hp => ?_⟩⟩
        have fp : f ≠ p := ne_of_none hff hp
        have hf2 : (upd H2 p (.tup [.int (i : Nat), .int z])) f = some (.lst (ps.map V.ref)) := by rw [upd_ne fp]; exact hff
        refine ⟨f, _, _, rfl, rfl, hf2, ?_, ⟨_, _, _, rfl⟩, same_of (same_of sm2 (Same.free sm2 hp)) hf, ?_⟩
        · rw [List.length_map]
          exact small1000 (by omega)
        · rw [meetN_some hr1 he]
          exact (tl2.same (same_upd hp)).push hf2 upd_same
    · subst es
      rw [List.length_map, hql] at tl
      exact ⟨.ref f, rfl, q H' f sm hf tl⟩
end
end Sv


set_option maxHeartbeats 4000000
namespace Sv
open PySem PySem.Spec PyProof.Rows L2
/-- a test's reading, made to hold of more -/
def tMoT (t : TT) : TT := fun σ H Q => ∃ Q0 : Bool → Hp → Prop, t σ H Q0 ∧ ∀ b H1, Q0 b H1 → Q b H1
theorem pt_mo {X : Cx} {e : Expr} {t : TT} (h : PT X e t) : PT X e (tMoT t) := by
  refine ⟨fun pins s σ H Q I ⟨Q0, h0, h1⟩ => thn (h.run pins s σ H Q0 I h0) fun b s1 hb => ?_⟩
  obtain ⟨H1, J, q⟩ := hb
  exact ⟨H1, J, h1 _ _ q⟩
theorem mo_mono {t : TT} : ∀ (σ : L2.St) (H : Hp) (Q Q' : Bool → Hp → Prop), (∀ b H1, Q b H1 → Q' b H1) → tMoT t σ H Q → tMoT t σ H Q' := fun σ H Q Q' hq ⟨Q0, h0, h1⟩ => ⟨Q0, h0, fun b H1 q => hq _ _ (h1 _ _ q)⟩
theorem mo_go {t : TT} {σ : L2.St} {H : Hp} {Q : Bool → Hp → Prop} (h : t σ H Q) : tMoT t σ H Q := ⟨Q, h, fun _ _ q => q⟩
/-! ### data -/
def dE : Option Int → PyData
  | none => .none
  | some i => .int i
def dRs (r : Ro) : List PyData := r.map dE
def dR (r : Ro) : PyData := .tuple (dRs r)
theorem dp_eV {K : PySem.W.Frag} {H : Hp} : ∀ e : Option Int, Dp K H (eV e) (dE e)
  | none => .non
  | some i => .int i
theorem dpAll_rV {K : PySem.W.Frag} {H : Hp} : ∀ r : Ro, DpAll K H (rV r) (dRs r)
  | [] => .nil
  | e :: r => .cons (dp_eV e) (dpAll_rV r)
theorem dp_rV {K : PySem.W.Frag} {H : Hp} {a : Addr} {r : Ro} (h : SqT K H a (rV r)) : Dp K H (.ref a) (dR r) := .tup h (dpAll_rV r)
theorem eqv_dE : ∀ a b : Option Int, PyData.eqv (dE a) (dE b) = decide (a = b)
  | none, none => by show PyData.eqv .none .none = _; rw [PyData.eqv]; rfl
  | none, some j => by show PyData.eqv .none (.int j) = _; rw [PyData.eqv]; rfl
  | some i, none => by show PyData.eqv (.int i) .none = _; rw [PyData.eqv]; rfl
  | some i, some j => by
    show PyData.eqv (.int i) (.int j) = _
    rw [PyData.eqv]
    by_cases h : i = j
    · subst h
      simp
    · rw [decide_eq_false (fun z => h (Option.some.inj z))]
      simpa using h
theorem eqv_dRs : ∀ a b : Ro, PyData.eqvAll (dRs a) (dRs b) = decide (a = b)
  | [], [] => by show PyData.eqvAll [] [] = _; rw [PyData.eqvAll]; rfl
  | [], y :: b => by show PyData.eqvAll [] (dE y :: dRs b) = _; rw [PyData.eqvAll]; rfl
  | x :: a, [] => by show PyData.eqvAll (dE x :: dRs a) [] = _; rw [PyData.eqvAll]; rfl
  | x :: a, y :: b => by
    show PyData.eqvAll (dE x :: dRs a) (dE y :: dRs b) = _
    rw [PyData.eqvAll, eqv_dE, eqv_dRs a b]
    by_cases h1 : x = y
    · subst h1
      by_cases h2 : a = b
      · subst h2
        simp
      · simp [h2]
    · simp [h1]
theorem eqv_dR (a b : Ro) : PyData.eqv (dR a) (dR b) = decide (a = b) := by
  show PyData.eqv (.tuple (dRs a)) (.tuple (dRs b)) = _
  rw [PyData.eqv]
  exact eqv_dRs a b
theorem can_dRs : ∀ r : Ro, PyData.canLayAll0 (dRs r) = true
  | [] => by show PyData.canLayAll0 [] = true; rw [PyData.canLayAll0]
  | e :: r => by
    show PyData.canLayAll0 (dE e :: dRs r) = true
    rw [PyData.canLayAll0, can_dRs r, Bool.and_true]
    cases e with
    | none => show PyData.canLay0 .none = true; rw [PyData.canLay0]
    | some i => show PyData.canLay0 (.int i) = true; rw [PyData.canLay0]
theorem dep_dRs : ∀ r : Ro, PyData.depthAll (dRs r) ≤ 1
  | [] => by show PyData.depthAll [] ≤ 1; rw [PyData.depthAll]; omega
  | e :: r => by
    show PyData.depthAll (dE e :: dRs r) ≤ 1
    rw [PyData.depthAll]
    have h1 := dep_dRs r
    have h2 : PyData.depth (dE e) ≤ 1 := by
      cases e with
      | none => show PyData.depth .none ≤ 1; simp only [PyData.depth]; omega
      | some i => show PyData.depth (.int i) ≤ 1; simp only [PyData.depth]; omega
    omega
theorem shaped_dR (r : Ro) : SeqAt.shaped (dR r) = true := by
  unfold SeqAt.shaped
  rw [Bool.and_eq_true]
  refine ⟨?_, decide_eq_true ?_⟩
  · show PyData.canLay0 (.tuple (dRs r)) = true
    rw [PyData.canLay0]
    exact can_dRs r
  · show PyData.depth (.tuple (dRs r)) ≤ 64
    have h := dep_dRs r
    rw [PyData.depth]
    omega
/-! ### slices and sums of tuples, closed readings -/
@[irreducible] def qSl (K : PySem.W.Frag) : V → Option Int → Option Int → Hp → VK → Prop := rSlA K
@[irreducible] def qCat (K : PySem.W.Frag) : R2 := rCatA K
@[irreducible] def qNe (K : PySem.W.Frag) : R2 := rNeD K
@[irreducible] def qEq (K : PySem.W.Frag) : R2 := rEqD K
theorem sl_tupQ {X : Cx} : SlR X (qSl X.K) := by
  unfold qSl
  exact sl_tupA
theorem op_catQ {X : Cx} : OpR X (binaryOp .Add) (qCat X.K) := by
  unfold qCat
  exact op_catA
theorem op_neQ {X : Cx} (hu : X.A.units + 64 < cLine) : OpR X (compareOp .NotEq) (qNe X.K) := by
  unfold qNe
  exact op_neD hu
theorem op_eqQ {X : Cx} (hu : X.A.units + 64 < cLine) : OpR X (compareOp .Eq) (qEq X.K) := by
  unfold qEq
  exact op_eqD hu
section
variable {K : PySem.W.Frag} {H : Hp} {a b : Addr} {xs ys : List V} {lo hi : Option Int} {Q : VK}
theorem sl_go (hA : SqT K H a xs) (q : ∀ H' p, Same H H' → SqT K H' p (cutV xs lo hi) → Q (.ref p) H') : qSl K (.ref a) lo hi H Q := by
  unfold qSl
  refine ⟨a, xs, rfl, hA, fun hw => ?_, fun _ p hp => q _ p (same_upd hp) (.inl (.inl upd_same))⟩
  refine q H a (fun _ _ h => h) ?_
  have e : cutV xs lo hi = xs := by
    unfold cutV
    rw [hw.1, hw.2, List.drop_zero, Nat.sub_zero]
    exact List.take_of_length_le (Nat.le_refl _)
  rw [e]
  exact hA
theorem cat_go (hA : SqT K H a xs) (hB : SqT K H b ys) (hl : xs.length + ys.length ≤ 1000) (q : ∀ H' p, Same H H' → SqT K H' p (xs ++ ys) → Q (.ref p) H') : qCat K (.ref a) (.ref b) H Q := by
  unfold qCat
  refine ⟨a, b, _, _, rfl, rfl, hA, hB, sz1000 hl, fun z => ?_, fun _ z => ?_, fun _ _ p hp => q _ p (same_upd hp) (.inl (.inl upd_same))⟩
  · subst z
    exact q H b (fun _ _ h => h) hB
  · subst z
    exact q H a (fun _ _ h => h) (by rw [List.append_nil]; exact hA)
theorem neR_go {r t : Ro} (hA : SqT K H a (rV r)) (hB : SqT K H b (rV t)) (q : Q (.bl (!decide (r = t))) H) : qNe K (.ref a) (.ref b) H Q := by
  unfold qNe
  exact ⟨dR r, dR t, dp_rV hA, dp_rV hB, shaped_dR r, shaped_dR t, by rw [eqv_dR]; exact q⟩
theorem cut_from {xs : List V} {k : Nat} : cutV xs (some (k : Int)) none = xs.drop k := by
  unfold cutV
  rw [HT.sIx_nat, HT.sIx_none]
  by_cases h : k ≤ xs.length
  · rw [Nat.min_eq_left h]
    exact List.take_of_length_le (by rw [List.length_drop]; omega)
  · rw [Nat.min_eq_right (by omega), List.drop_of_length_le (Nat.le_refl _), List.drop_of_length_le (by omega), List.take_nil]
theorem cut_to {xs : List V} {k : Nat} : cutV xs none (some (k : Int)) = xs.take k := by
  unfold cutV
  rw [HT.sIx_nat, HT.sIx_none, List.drop_zero, Nat.sub_zero]
  by_cases h : k ≤ xs.length
  · rw [Nat.min_eq_left h]
  · rw [Nat.min_eq_right (by omega), List.take_of_length_le (Nat.le_refl _), List.take_of_length_le (by omega)]
end
/-! ### a route's pattern -/
def rot {α : Type} (r : List α) (s : Nat) : List α := r.drop s ++ r.take s
theorem rot_full {α : Type} (r : List α) : rot r r.length = r := by
  unfold rot
  rw [List.drop_of_length_le (Nat.le_refl _), List.take_of_length_le (Nat.le_refl _), List.nil_append]
theorem leastN {P : Nat → Prop} : (∃ k, P k) → ∃ k, P k ∧ ∀ j, j < k → ¬ P j := by
  rintro ⟨k, hk⟩
  induction k using Nat.strongRecOn with
  | _ k ih =>
    by_cases h : ∃ j, j < k ∧ P j
    · obtain ⟨j, hj, hp⟩ := h
      exact ih j hj hp
    · exact ⟨k, hk, fun j hj hp => h ⟨j, hj, hp⟩⟩
open Classical in
/-- the least number of steps that leaves a list as it is -/
noncomputable def rp {α : Type} (r : List α) : Nat := if h : ∃ k, 1 ≤ k ∧ rot r k = r then Classical.choose (leastN h) else 0
theorem rp_spec {α : Type} {r : List α} (h : r ≠ []) : 1 ≤ rp r ∧ rot r (rp r) = r ∧ (∀ j, 1 ≤ j → j < rp r → rot r j ≠ r) ∧ rp r ≤ r.length := by
  have hl : 1 ≤ r.length := List.length_pos_iff.mpr h
  have ex : ∃ k, 1 ≤ k ∧ rot r k = r := ⟨r.length, hl, rot_full r⟩
  have e : rp r = Classical.choose (leastN ex) := by
    unfold rp
    rw [dif_pos ex]
  have sp := Classical.choose_spec (leastN ex)
  rw [← e] at sp
  refine ⟨sp.1.1, sp.1.2, fun j h1 h2 z => sp.2 j h2 ⟨h1, z⟩, ?_⟩
  by_cases hh : rp r ≤ r.length
  · exact hh
  · exact absurd ⟨hl, rot_full r⟩ (sp.2 r.length (by omega))
section
variable {P : Program} {w : World} {K : PySem.W.Frag} {mg : Str → Option Value} {base : Heap}
theorem scRoutePat : FnScope ["route", "steps"] ["route"] (defScope sRoutePat) := ⟨rfl, rfl, rfl, by decide +kernel, rfl, by decide +kernel, by decide +kernel⟩
theorem scCommon : FnScope ["routes", "length", "route"] ["routes"] (defScope sCommon) := ⟨rfl, rfl, rfl, by decide +kernel, rfl, by decide +kernel, by decide +kernel⟩
def spRoutePat (K : PySem.W.Frag) : Sp := fun vs H Q _ => ∃ (a : Addr) (r : Ro), vs = [.ref a] ∧ SqT K H a (rV r) ∧ r ≠ [] ∧ r.length ≤ 400 ∧ ∀ H', Same H H' → Q (.int (rp r : Nat)) H'
theorem ok_routePat {f : Addr} {fd : FuncData} (F : Df K mg "route_pattern" sRoutePat ["route"] f fd) : FnOk P w K mg base CX0 1 f fd ["route"] (spRoutePat K) := by
  refine F.F.ok scRoutePat (fun vs H Q E h => ?_) (fun cdv A outer s H vs Q E hr h => ?_)
  · obtain ⟨a, r, rfl, _⟩ := h
    rfl
  · obtain ⟨a, r, rfl, hA, hne, hl, q⟩ := h
    obtain ⟨p1, p2, p3, p4⟩ := rp_spec hne
    refine ⟨_, pss_cons (ps_set (i := 1) scRoutePat.nd rfl (Or.inl rfl) pe_int)
      (pss_cons (ps_while PassesOwn.never (pt_mo (pt_cmpR (op_neQ hr.units) (pe_op op_catQ (pe_slice sl_tupQ (pv 0) (po_some (pv 1)) po_none) (pe_slice sl_tupQ (pv 0) po_none (po_some (pv 1)))) (pv 0) (nomark _)))
        (pss_one (ps_aug (i := 1) scRoutePat.nd rfl (Or.inl rfl) pe_int ip_add)))
      (pss_one (ps_ret (pv 1)))), ?_⟩
    refine while_by (fun σ H' => ∃ k, 1 ≤ k ∧ k ≤ rp r ∧ σ = [some (.ref a), some (.int (k : Nat))] ∧ Same H H') (fun σ H' => match σ with | [_, some (.int z)] => rp r + 1 - z.toNat | _ => 0)
      ⟨1, Nat.le_refl _, p1, rfl, fun _ _ h => h⟩ (fun σ H' ⟨k, k1, k2, es, sm⟩ => ?_) mo_mono
    subst es
    refine mo_go ?_
    have hA1 := sqT_same sm hA
    refine ⟨.ref a, rfl, .int (k : Nat), rfl, k, rfl, sl_go hA1 fun H1 b1 s1 h1 => ⟨.ref a, rfl, .int (k : Nat), rfl, k, rfl, sl_go (sqT_same s1 hA1) fun H2 b2 s2 h2 => ?_⟩⟩
    rw [cut_from] at h1
    rw [cut_to] at h2
    have hlen : ((rV r).drop k).length + ((rV r).take k).length ≤ 1000 := by
      rw [List.length_drop, List.length_take, rV_len]
      omega
    refine cat_go (sqT_same s2 h1) h2 hlen fun H3 b3 s3 h3 => ⟨.ref a, rfl, ?_⟩
    have e3 : (rV r).drop k ++ (rV r).take k = rV (rot r k) := by
      unfold rot rV
      rw [List.map_append, List.map_drop, List.map_take]
    rw [e3] at h3
    have sm3 := ((sm.trans s1).trans s2).trans s3
    refine neR_go h3 (sqT_same sm3 hA) ⟨_, rfl, ?_⟩
    by_cases hk : rot r k = r
    · rw [decide_eq_true hk]
      refine iteF ⟨.int (k : Nat), rfl, ?_⟩
      have : k = rp r := by
        by_cases h : k = rp r
        · exact h
        · exact absurd hk (p3 k k1 (by omega))
      rw [this]
      exact q _ sm3
    · rw [decide_eq_false hk]
      have hlt : k < rp r := by
        by_cases h : k = rp r
        · rw [h] at hk
          exact absurd p2 hk
        · omega
      refine iteT ⟨.int (k : Nat), rfl, k, 1, rfl, rfl, ⟨k + 1, by omega, by omega, rfl, sm3⟩, ?_⟩
      show rp r + 1 - ((k : Int) + 1).toNat < rp r + 1 - (k : Int).toNat
      omega
end
end Sv


set_option maxHeartbeats 4000000
namespace Sv
open PySem PySem.Spec PyProof.Rows L2
/-! ### valid plans -/
structure Good (zs : List Int) (rs : List Ro) : Prop where
  z1 : 1 ≤ zs.length ∧ zs.length ≤ 12
  z2 : ∀ z ∈ zs, 0 ≤ z ∧ z ≤ 9
  r1 : 1 ≤ rs.length ∧ rs.length ≤ 6
  r2 : ∀ r ∈ rs, 1 ≤ r.length ∧ r.length ≤ 6
theorem good_of {zs : List Int} {rs : List Ro} (h : bad zs rs = none) : Good zs rs := by
  unfold bad at h
  cases hb : badS zs with
  | some i => rw [hb] at h; cases h
  | none =>
    rw [hb] at h
    simp only [Option.map_eq_none_iff] at h
    unfold badS at hb
    unfold badR at h
    split at hb
    · split at h
      · rename_i c1 c2
        rw [Option.map_eq_none_iff] at hb h
        refine ⟨c1, fun z hz => of_decide_eq_true (fst_all hb z hz), c2, fun r hr => ?_⟩
        have := fst_all h r hr
        unfold okR at this
        rw [Bool.and_eq_true] at this
        exact of_decide_eq_true this.1
      · cases h
    · cases hb
theorem Good.ne {zs : List Int} {rs : List Ro} (g : Good zs rs) : ∀ r ∈ rs, r ≠ [] ∧ r.length ≤ 1000 := fun r hr => by
  have := g.r2 r hr
  exact ⟨fun z => by rw [z] at this; simp at this, by omega⟩
/-! ### the pattern of all routes -/
noncomputable def lc (rs : List Ro) : Nat := rs.foldl (fun m r => Nat.lcm m (rp r)) 1
theorem lc_snoc (rs : List Ro) (r : Ro) : lc (rs ++ [r]) = Nat.lcm (lc rs) (rp r) := by
  unfold lc
  rw [List.foldl_append]
  rfl
theorem dvd60 {k : Nat} (h1 : 1 ≤ k) (h2 : k ≤ 6) : k ∣ 60 := by
  have : k = 1 ∨ k = 2 ∨ k = 3 ∨ k = 4 ∨ k = 5 ∨ k = 6 := by omega
  rcases this with rfl | rfl | rfl | rfl | rfl | rfl <;> decide
theorem rp_dvd60 {r : Ro} (h : 1 ≤ r.length ∧ r.length ≤ 6) : rp r ∣ 60 := by
  obtain ⟨a, _, _, d⟩ := rp_spec (r := r) (fun z => by rw [z] at h; simp at h)
  exact dvd60 a (by omega)
theorem fold_dvd60 : ∀ {rs : List Ro} {m : Nat}, m ∣ 60 → (∀ r ∈ rs, 1 ≤ r.length ∧ r.length ≤ 6) → rs.foldl (fun m r => Nat.lcm m (rp r)) m ∣ 60
  | [], m, hm, _ => hm
  | r :: rs, m, hm, h => fold_dvd60 (rs := rs) (m := Nat.lcm m (rp r)) (Nat.lcm_dvd hm (rp_dvd60 (h r (List.mem_cons_self ..)))) fun x hx => h x (List.mem_cons_of_mem _ hx)
theorem lc_dvd60 {rs : List Ro} (h : ∀ r ∈ rs, 1 ≤ r.length ∧ r.length ≤ 6) : lc rs ∣ 60 := fold_dvd60 (by decide) h
theorem lc_le {rs : List Ro} (h : ∀ r ∈ rs, 1 ≤ r.length ∧ r.length ≤ 6) : 1 ≤ lc rs ∧ lc rs ≤ 60 := by
  have d := lc_dvd60 h
  refine ⟨Nat.pos_of_ne_zero fun z => ?_, Nat.le_of_dvd (by decide) d⟩
  rw [z] at d
  have := Nat.eq_zero_of_zero_dvd d
  omega
theorem fold_ge : ∀ {rs : List Ro} {m d : Nat}, (m ∣ d ∧ ∀ r ∈ rs, rp r ∣ d) ↔ rs.foldl (fun m r => Nat.lcm m (rp r)) m ∣ d
  | [], m, d => by simp
  | r :: rs, m, d => by
    rw [List.foldl_cons, ← fold_ge (rs := rs), List.forall_mem_cons]
    constructor
    · rintro ⟨h1, h2, h3⟩
      exact ⟨Nat.lcm_dvd h1 h2, h3⟩
    · rintro ⟨h1, h3⟩
      exact ⟨Nat.dvd_trans (Nat.dvd_lcm_left _ _) h1, Nat.dvd_trans (Nat.dvd_lcm_right _ _) h1, h3⟩
theorem lc_dvd {rs : List Ro} {d : Nat} : lc rs ∣ d ↔ ∀ r ∈ rs, rp r ∣ d := by
  unfold lc
  rw [← fold_ge]
  exact ⟨fun h => h.2, fun h => ⟨Nat.one_dvd _, h⟩⟩
/-- the other defs of the plans' file -/
structure Qf (P : Program) (K : PySem.W.Frag) (mg : Str → Option Value) (gP gV gL gN gI gC gR gS gT : Addr) (eP eV eL eN eI eC eR eS eT : FuncData) : Prop where
  lcm : mg "lcm" = some (.builtin "math.lcm")
  P : Df K mg "pattern_length" sPattern ["plan"] gP eP
  V : Df K mg "visits" sVisits ["plan", "number"] gV eV
  L : Df K mg "places" sPlaces ["plan"] gL eL
  O : ∃ (f : Addr) (fd : FuncData), Df K mg "places_of" sPlacesOf ["plan"] f fd
  N : Df K mg "number_of_places" sNumPlaces ["plan"] gN eN
  I : Df K mg "visits_in_tick" sVisitsIn ["routes", "number"] gI eI
  C : Df K mg "common_pattern" sCommon ["routes"] gC eC
  R : Df K mg "route_pattern" sRoutePat ["route"] gR eR
  S : Df K mg "split_layout" sSplit ["plan", "contents"] gS eS
  T : Df K mg "initial_state" sInitial ["plan"] gT eT
section
variable {P : Program} {w : World} {K : PySem.W.Frag} {mg : Str → Option Value} {base : Heap}
variable {C fI fW fS fR fT fP : Addr} {dI dW dS dR dT dP : FuncData}
variable {gP gV gL gN gI gC gR gS gT : Addr} {eP eVv eL eN eI eC eR eS eT : FuncData}
def spCommon (K : PySem.W.Frag) : Sp := fun vs H Q _ => ∃ (b : Addr) (rs : List Ro), vs = [.ref b] ∧ RtAt K H b rs ∧ (∀ r ∈ rs, 1 ≤ r.length ∧ r.length ≤ 6) ∧ ∀ H', Same H H' → Q (.int (lc rs : Nat)) H'
theorem ok_common (L : Qf P K mg gP gV gL gN gI gC gR gS gT eP eVv eL eN eI eC eR eS eT) : FnOk P w K mg base CX0 2 gC eC ["routes"] (spCommon K) := by
  have GR : FnOk P w K mg base CX0 1 gR eR ["route"] (spRoutePat K) := ok_routePat L.R
  refine L.C.F.ok scCommon (fun vs H Q E h => ?_) (fun cdv A outer s H vs Q E hr h => ?_)
  · obtain ⟨b, rs, rfl, _⟩ := h
    rfl
  · obtain ⟨b, rs, rfl, hB, hrs, q⟩ := h
    obtain ⟨qs, hA, hP⟩ := hB.ex
    have hql := paired_len hP
    refine ⟨_, pss_cons (ps_set (i := 1) scCommon.nd rfl (Or.inl rfl) pe_int)
      (pss_cons (ps_for PassesOwn.never rfl (pi_tup (pv 0)) (pg_name (i := 2) scCommon.nd rfl (Or.inl rfl))
        (pss_one (ps_set (i := 1) scCommon.nd rfl (Or.inl rfl) (pe_callBfun cr_lcm (by rfl) L.lcm (pa_cons (pv 1) (pa_cons (pe_call (E := E0) GR hr (by rfl) L.R.g L.R.F.kp L.R.b .nil pass0 (pa_cons (pv 2) pa_nil)) pa_nil))))))
      (pss_one (ps_ret (pv 1)))), ?_⟩
    refine ⟨.ref b, rfl, b, rfl, ⟨_, hA⟩, for_tup (xs := qs.map V.ref) (fun i σ H' => (∃ y2, σ = [some (.ref b), some (.int (lc (rs.take i) : Nat)), y2]) ∧ Same H H') ⟨⟨none, rfl⟩, fun _ _ h => h⟩ (fun i σ H' _ h => sqT_same h.2 hA) (fun i x σ H' hx ⟨⟨y2, es⟩, sm⟩ => ?_) (fun σ H' ⟨⟨y2, es⟩, sm⟩ => ?_)⟩
    · subst es
      obtain ⟨qa, hqa, rfl⟩ := refs_lt hx
      obtain ⟨r, hr1, hqr⟩ := paired_at hP hqa
      have hm := List.mem_of_getElem? hr1
      obtain ⟨l1, l2⟩ := hrs r hm
      have rne : r ≠ [] := fun z => by rw [z] at l1; simp at l1
      have b1 := (lc_le (rs := rs.take i) fun x hx => hrs x (List.mem_of_mem_take hx)).2
      have b2 := (rp_spec rne).2.2.2
      have p64 : (1000 : Nat) < 2 ^ 64 := by decide
      refine ⟨.int (lc (rs.take i) : Nat), rfl, .ref qa, rfl, qa, r, rfl, sqT_same sm hqr, rne, by omega, fun H1 sm1 => ⟨lc (rs.take i), rp r, rfl, by omega, by omega, ⟨some (.ref qa), ?_⟩, sm.trans sm1⟩⟩
      rw [List.take_add_one, hr1]
      show _ = [some (V.ref b), some (V.int (lc (rs.take i ++ [r]) : Nat)), some (V.ref qa)]
      rw [lc_snoc]
      rfl
    · subst es
      rw [List.length_map, hql, List.take_length]
      exact ⟨.int (lc rs : Nat), rfl, q _ sm⟩
theorem scPattern : FnScope ["plan"] ["plan"] (defScope sPattern) := ⟨rfl, rfl, rfl, by decide +kernel, rfl, by decide +kernel, by decide +kernel⟩
theorem scVisits : FnScope ["plan", "number"] ["plan", "number"] (defScope sVisits) := ⟨rfl, rfl, rfl, by decide +kernel, rfl, by decide +kernel, by decide +kernel⟩
/-- what a function of a plan does where the plan is wrong -/
abbrev BadE (C : Addr) (zs : List Int) (rs : List Ro) (H : Hp) (E : XK) : Prop := ∀ part i, bad zs rs = some (part, i) → PlanE C H part i E
def spPattern (K : PySem.W.Frag) (C : Addr) : Sp := fun vs H Q E => ∃ (p : Addr) (zs : List Int) (rs : List Ro), vs = [.ref p] ∧ PlanAt K H p zs rs ∧ Small zs rs ∧ (bad zs rs = none → ∀ H', Same H H' → Q (.int (lc rs : Nat)) H') ∧ BadE C zs rs H E
theorem ok_pattern (T : Pf P K mg C fI fW fS fR fT fP dI dW dS dR dT dP) (L : Qf P K mg gP gV gL gN gI gC gR gS gT eP eVv eL eN eI eC eR eS eT) : FnOk P w K mg base (L2.CX P w) 5 gP eP ["plan"] (spPattern K C) := by
  have GP : FnOk P w K mg base (L2.CX P w) 4 fP dP ["plan"] (spCheckPlan K C) := ok_checkPlan T
  have GC : FnOk P w K mg base CX0 2 gC eC ["routes"] (spCommon K) := ok_common L
  refine L.P.F.okX scPattern (fun vs H Q E h => ?_) (fun cdv A outer s H vs Q E hr h => ?_)
  · obtain ⟨p, zs, rs, rfl, _⟩ := h
    rfl
  · obtain ⟨p, zs, rs, rfl, hp, hs, q1, q2⟩ := h
    obtain ⟨a, b, hp1, ha, hb⟩ := hp.ex
    refine ⟨_, pss_cons (ps_expr (pe_call (E := E) GP hr (by rfl) T.P.g T.P.F.kp T.P.b .nil (passes_call (takes_of rfl rfl rfl rfl) fun _ _ _ _ h => h) (pa_cons (pv 0) pa_nil)))
      (pss_one (ps_ret (pe_call (E := E0) GC (hr.mono (by decide)) (by rfl) L.C.g L.C.F.kp L.C.b .nil pass0 (pa_cons (pe_ix ix_tup (pv 0) pe_int (fun _ _ => rfl)) pa_nil)))), ?_⟩
    refine ⟨.ref p, rfl, p, zs, rs, rfl, hp, hs, fun e1 H1 sm1 => ?_, q2⟩
    have g := good_of e1
    exact ⟨.ref p, rfl, p, _, 1, .ref b, rfl, rfl, sqT_same sm1 hp1, rfl, b, rs, rfl, hb.same sm1, g.r2, fun H2 sm2 => q1 e1 H2 (sm1.trans sm2)⟩
def spVisits (K : PySem.W.Frag) (C : Addr) : Sp := fun vs H Q E => ∃ (p : Addr) (zs : List Int) (rs : List Ro) (n : Int), vs = [.ref p, .int n] ∧ PlanAt K H p zs rs ∧ Small zs rs ∧ (bad zs rs = none → NewTL H (meets rs (n - 1)) Q) ∧ BadE C zs rs H E
theorem NewTL.imp {H H1 : Hp} {ts : List (List V)} {Q : VK} (h : NewTL H ts Q) (e : Same H H1) : NewTL H1 ts Q := fun H' f sm hf tl => h H' f (e.trans sm) (Same.free e hf) tl
theorem ok_visits (T : Pf P K mg C fI fW fS fR fT fP dI dW dS dR dT dP) (L : Qf P K mg gP gV gL gN gI gC gR gS gT eP eVv eL eN eI eC eR eS eT) : FnOk P w K mg base (L2.CX P w) 5 gV eVv ["plan", "number"] (spVisits K C) := by
  have GP : FnOk P w K mg base (L2.CX P w) 4 fP dP ["plan"] (spCheckPlan K C) := ok_checkPlan T
  have GI : FnOk P w K mg base CX0 1 gI eI ["routes", "number"] (spVisitsIn K) := ok_visitsIn L.I T.bt
  refine L.V.F.okX scVisits (fun vs H Q E h => ?_) (fun cdv A outer s H vs Q E hr h => ?_)
  · obtain ⟨p, zs, rs, n, rfl, _⟩ := h
    rfl
  · obtain ⟨p, zs, rs, n, rfl, hp, hs, q1, q2⟩ := h
    obtain ⟨a, b, hp1, ha, hb⟩ := hp.ex
    refine ⟨_, pss_cons (ps_expr (pe_call (E := E) GP hr (by rfl) T.P.g T.P.F.kp T.P.b .nil (passes_call (takes_of rfl rfl rfl rfl) fun _ _ _ _ h => h) (pa_cons (pv 0) pa_nil)))
      (pss_one (ps_ret (pe_call (E := E0) GI (hr.mono (by decide)) (by rfl) L.I.g L.I.F.kp L.I.b .nil pass0 (pa_cons (pe_ix ix_tup (pv 0) pe_int (fun _ _ => rfl)) (pa_cons (pv 1) pa_nil))))), ?_⟩
    refine ⟨.ref p, rfl, p, zs, rs, rfl, hp, hs, fun e1 H1 sm1 => ?_, q2⟩
    have g := good_of e1
    exact ⟨.ref p, rfl, p, _, 1, .ref b, rfl, rfl, sqT_same sm1 hp1, rfl, .int n, rfl, b, rs, n, rfl, hb.same sm1, hs.2.1, g.ne, (q1 e1).imp sm1⟩
end
end Sv


set_option maxHeartbeats 4000000
namespace Sv
open PySem PySem.Spec PyProof.Rows L2
theorem TL.ext2 {H : Hp} {f g : Addr} {ts us : List (List V)} {xs ys : List V} (x : TL H f ts) (y : TL H g us) (hf : H f = some (.lst xs)) (hg : H g = some (.lst ys)) : TL (upd H f (.lst (xs ++ ys))) f (ts ++ us) := by
  obtain ⟨ps, h1, h2⟩ := x.ex
  obtain ⟨qs, g1, g2⟩ := y.ex
  rw [hf] at h1
  rw [hg] at g1
  obtain rfl := HO.lst.inj (Option.some.inj h1)
  obtain rfl := HO.lst.inj (Option.some.inj g1)
  refine ⟨ps ++ qs, by rw [upd_same, List.map_append], tupsV_imp (fun b xs q => ?_) (tupsV_app h2 g2)⟩
  rw [upd_ne (fun z => by rw [z, hf] at q; cases q)]
  exact q
theorem TL.len {H : Hp} {f : Addr} {ts : List (List V)} {xs : List V} (x : TL H f ts) (hf : H f = some (.lst xs)) : xs.length = ts.length := by
  obtain ⟨ps, h1, h2⟩ := x.ex
  rw [hf] at h1
  obtain rfl := HO.lst.inj (Option.some.inj h1)
  rw [List.length_map, tupsV_len h2]
/-! ### places -/
def carV (n : Nat) : List (List V) := (List.range n).map fun c => [V.str "carrier", V.int (c : Nat)]
def posV (s n : Nat) : List (List V) := (List.range n).map fun p => [V.str "shelf", V.int (s : Nat), V.int (p : Nat)]
def shN (zs : List Int) : Nat → List (List V)
  | 0 => []
  | k + 1 => shN zs k ++ posV k (zs.getD k 0).toNat
def placesV (zs : List Int) (n : Nat) : List (List V) := carV n ++ shN zs zs.length
theorem carV_succ (n : Nat) : carV (n + 1) = carV n ++ [[V.str "carrier", V.int (n : Nat)]] := by
  unfold carV
  rw [List.range_succ, List.map_append]
  rfl
theorem posV_succ (s n : Nat) : posV s (n + 1) = posV s n ++ [[V.str "shelf", V.int (s : Nat), V.int (n : Nat)]] := by
  unfold posV
  rw [List.range_succ, List.map_append]
  rfl
theorem carV_len (n : Nat) : (carV n).length = n := by unfold carV; simp
theorem posV_len (s n : Nat) : (posV s n).length = n := by unfold posV; simp
theorem shN_len {zs : List Int} (h : ∀ z ∈ zs, 0 ≤ z ∧ z ≤ 9) : ∀ k, k ≤ zs.length → (shN zs k).length ≤ 9 * k
  | 0, _ => Nat.le_refl _
  | k + 1, hk => by
    unfold shN
    rw [List.length_append, posV_len]
    have h1 := shN_len h k (by omega)
    have e : zs.getD k 0 = zs[k] := by rw [List.getD_eq_getElem?_getD, List.getElem?_eq_getElem (by omega)]; rfl
    have h2 := h zs[k] (List.getElem_mem (by omega))
    rw [e]
    omega
section
variable {P : Program} {w : World} {K : PySem.W.Frag} {mg : Str → Option Value} {base : Heap}
variable {C fI fW fS fR fT fP : Addr} {dI dW dS dR dT dP : FuncData}
variable {gP gV gL gN gI gC gR gS gT : Addr} {eP eVv eL eN eI eC eR eS eT : FuncData}
def nPl : List Str := ["plan", "sizes", "routes", "found", "shelf", "size", "carrier", "position"]
theorem scPlacesOf : FnScope nPl ["plan"] (defScope sPlacesOf) := ⟨rfl, rfl, rfl, by decide +kernel, rfl, by decide +kernel, by decide +kernel⟩
def spPlacesOf (K : PySem.W.Frag) : Sp := fun vs H Q E => ∃ (p : Addr) (zs : List Int) (rs : List Ro), vs = [.ref p] ∧ PlanAt K H p zs rs ∧ Good zs rs ∧ NewTL H (placesV zs rs.length) Q
theorem ok_placesOf {f : Addr} {fd : FuncData} (D : Df K mg "places_of" sPlacesOf ["plan"] f fd) (B : Bt mg) : FnOk P w K mg base CX0 1 f fd ["plan"] (spPlacesOf K) := by
  refine D.F.ok scPlacesOf (fun vs H Q E h => ?_) (fun cdv A outer s H vs Q E hr h => ?_)
  · obtain ⟨p, zs, rs, rfl, _⟩ := h
    rfl
  · obtain ⟨p, zs, rs, rfl, hp, gd, q1⟩ := h
    obtain ⟨a, b, hp1, ha, hb⟩ := hp.ex
    refine ⟨_, pss_cons (ps_asg (pv 0) (pg_tup rfl (pgs_cons (pg_name (i := 1) scPlacesOf.nd rfl (.inl rfl)) (pgs_cons (pg_name (i := 2) scPlacesOf.nd rfl (.inl rfl)) pgs_nil))))
      (pss_cons (ps_setLc (i := 3) (own := [("carrier", 6)]) (g := gName 6) rfl scPlacesOf.nd rfl rfl (sw_true rfl rfl rfl (by decide +kernel)) (pi_range1 (by rfl) B.range (pa_cons (pe_callB call_len_seq (by rfl) B.len b_len (pa_cons (pv 2) pa_nil)) pa_nil)) (blkOk_by (N := nPl) (sc := defScope sPlacesOf) (by decide +kernel))
          (fun _ _ _ _ _ => pg_name (i := 6) scPlacesOf.nd rfl (Or.inl rfl)) (fun _ _ _ _ _ => pts_nil) (fun _ _ _ _ _ => pe_tup (pa_cons pe_str (pa_cons (pv 6) pa_nil))))
      (pss_cons (ps_for PassesOwn.never rfl (pi_enumT (by rfl) B.enumerate (pa_cons (pv 1) pa_nil)) (pg_tup rfl (pgs_cons (pg_name (i := 4) scPlacesOf.nd rfl (.inr rfl)) (pgs_cons (pg_name (i := 5) scPlacesOf.nd rfl (.inl rfl)) pgs_nil)))
        (pss_one (ps_expr (pe_bm PySem.F.plainAttrs_list PySem.F.slot_list_extend PySem.F.type_list_extend mt_extend (pv 3) <| pa_cons
          (pe_lc (own := [("position", 7)]) (g := gName 7) rfl scPlacesOf.nd (pi_range1 (by rfl) B.range (pa_cons (pv 5) pa_nil)) (blkOk_by (N := nPl) (sc := defScope sPlacesOf) (by decide +kernel))
            (fun _ _ _ _ _ => pg_name (i := 7) scPlacesOf.nd rfl (Or.inl rfl)) (fun _ _ _ _ _ => pts_nil) (fun _ _ _ _ _ => pe_tup (pa_cons pe_str (pa_cons (pv 4) (pa_cons (pv 7) pa_nil))))) pa_nil))))
      (pss_one (ps_ret (pv 3))))), ?_⟩
    have sm1 := Same.refl H
    obtain ⟨qs, hA, hP⟩ := hb.ex
    have hql := paired_len hP
    have hp2 := sqT_same sm1 hp1
    refine ⟨.ref p, rfl, p, [.ref a, .ref b], rfl, hp2, rfl, _, _, rfl, _, _, rfl, rfl, ?_⟩
    have b62 : (1000 : Int) < 2 ^ 62 := by decide
    refine ⟨.ref b, rfl, b, _, rfl, .inr (sqT_same sm1 hA), ((qs.map V.ref).length : Nat), rfl, by omega, by rw [List.length_map, hql]; have := gd.r1; omega, fun f hf => ?_⟩
    rw [List.length_map, hql]
    have nf : H f = none := Same.free sm1 hf
    refine lc_range (lo := 0) (n := ((rs.length : Nat) : Int).toNat) (fun i H' => Same H H' ∧ TL H' f (carV i)) ⟨same_upd hf, [], upd_same, .nil⟩ (fun i H' hi ⟨sm, tl⟩ => ?_) (fun H' ⟨sm, tl⟩ => ?_)
    · have hi2 : i < rs.length := by
        rw [Int.toNat_natCast] at hi
        exact hi
      have ei : (0 : Int) + (i : Nat) = (i : Nat) := by omega
      rw [ei]
      obtain ⟨ps, hff, htv⟩ := tl.ex
      refine ⟨rfl, yes_go ⟨.int (i : Nat), rfl, (by show 2 ≤ sizeLine; decide), fun t ht => ⟨ps.map V.ref, ?_, ?_, same_of (same_of sm (Same.free sm ht)) hf, ?_⟩⟩⟩
      · rw [upd_ne (ne_of_none hff ht)]
        exact hff
      · rw [tl.len hff, carV_len]
        exact small1000 (by have := gd.r1; omega)
      · rw [carV_succ]
        exact (tl.same (same_upd ht)).push (by rw [upd_ne (ne_of_none hff ht)]; exact hff) upd_same
    rw [Int.toNat_natCast] at tl
    have smf : Same H H' := sm1.trans sm
    -- the shelves
    refine ⟨.ref a, rfl, a, _, rfl, sqT_same smf ha, for_enumT (xs := zs.map V.int) (fun i σ H2 => (∃ y4 y5, σ = [some (.ref p), some (.ref a), some (.ref b), some (.ref f), y4, y5, none, none]) ∧ Same H H2 ∧ TL H2 f (carV rs.length ++ shN zs i)) ⟨⟨none, none, rfl⟩, smf, by rw [show shN zs 0 = [] from rfl, List.append_nil]; exact tl⟩
      (fun i σ H2 _ h => sqT_same h.2.1 ha) (fun i x σ H2 U hx ⟨⟨y4, y5, es⟩, sm2, tl2⟩ hU => ?_) (fun σ H2 ⟨⟨y4, y5, es⟩, sm2, tl2⟩ => ?_)⟩
    · subst es
      obtain ⟨z, hz1, rfl⟩ := iV_lt hx
      have hz := gd.z2 z (List.mem_of_getElem? hz1)
      have il : i < zs.length := (List.getElem?_eq_some_iff.mp hz1).1
      have zd : zs.getD i 0 = z := by rw [List.getD_eq_getElem?_getD, hz1]; rfl
      have sm3 : Same H (upd H2 U (.tup [.int (i : Nat), .int z])) := same_of sm2 (Same.free sm2 hU)
      have tl3 := tl2.same (same_upd (o := .tup [.int (i : Nat), .int z]) hU)
      refine ⟨U, [.int (i : Nat), .int z], rfl, .inl (.inl upd_same), rfl, _, _, rfl, _, _, rfl, rfl, ?_⟩
      generalize upd H2 U (.tup [.int (i : Nat), .int z]) = H3 at sm3 tl3 ⊢
      obtain ⟨ps, hff, htv⟩ := tl3.ex
      refine ⟨.ref f, rfl, .inl ⟨rfl, _, .inl (.inl hff)⟩, .int z, rfl, z, rfl, by omega, by omega, fun D hD => ?_⟩
      have fD : f ≠ D := ne_of_none hff hD
      refine lc_range (lo := 0) (n := z.toNat) (fun j H' => Same H3 H' ∧ TL H' D (posV i j)) ⟨same_upd hD, [], upd_same, .nil⟩ (fun j H' hj ⟨sm4, tl4⟩ => ?_) (fun H' ⟨sm4, tl4⟩ => ?_)
      · have ej : (0 : Int) + (j : Nat) = (j : Nat) := by omega
        rw [ej]
        obtain ⟨ps2, hdd, htv2⟩ := tl4.ex
        refine ⟨rfl, yes_go ⟨.int (i : Nat), rfl, .int (j : Nat), rfl, (by show 3 ≤ sizeLine; decide), fun t ht => ⟨ps2.map V.ref, ?_, ?_, same_of (same_of sm4 (Same.free sm4 ht)) hD, ?_⟩⟩⟩
        · rw [upd_ne (ne_of_none hdd ht)]
          exact hdd
        · rw [tl4.len hdd, posV_len]
          exact small1000 (by omega)
        · rw [posV_succ]
          exact (tl4.same (same_upd ht)).push (by rw [upd_ne (ne_of_none hdd ht)]; exact hdd) upd_same
      · obtain ⟨ps2, hdd, htv2⟩ := tl4.ex
        have hf4 := sm4 _ _ hff
        have tl5 := tl3.same sm4
        have l1 := tl5.len hf4
        have l2 := tl4.len hdd
        have l3 := shN_len gd.z2 i (by omega)
        refine ⟨f, D, _, _, rfl, rfl, hf4, hdd, ?_, ⟨_, _, rfl⟩, same_of (sm3.trans sm4) nf, ?_⟩
        · rw [l1, l2, List.length_append, carV_len, posV_len]
          exact sz1000 (by have := gd.r1; have := gd.z1; omega)
        · have e : carV rs.length ++ shN zs (i + 1) = (carV rs.length ++ shN zs i) ++ posV i z.toNat := by
            conv => lhs; unfold shN
            rw [zd, List.append_assoc]
          rw [e]
          exact tl5.ext2 tl4 hf4 hdd
    · subst es
      rw [List.length_map] at tl2
      exact ⟨.ref f, rfl, q1 H2 f sm2 nf tl2⟩
theorem scPlaces : FnScope ["plan"] ["plan"] (defScope sPlaces) := ⟨rfl, rfl, rfl, by decide +kernel, rfl, by decide +kernel, by decide +kernel⟩
def spPlaces (K : PySem.W.Frag) (C : Addr) : Sp := fun vs H Q E => ∃ (p : Addr) (zs : List Int) (rs : List Ro), vs = [.ref p] ∧ PlanAt K H p zs rs ∧ Small zs rs ∧ (bad zs rs = none → NewTL H (placesV zs rs.length) Q) ∧ BadE C zs rs H E
theorem ok_places (T : Pf P K mg C fI fW fS fR fT fP dI dW dS dR dT dP) (L : Qf P K mg gP gV gL gN gI gC gR gS gT eP eVv eL eN eI eC eR eS eT) : FnOk P w K mg base (L2.CX P w) 5 gL eL ["plan"] (spPlaces K C) := by
  have GP : FnOk P w K mg base (L2.CX P w) 4 fP dP ["plan"] (spCheckPlan K C) := ok_checkPlan T
  obtain ⟨go, eo, DO⟩ := L.O
  have GO : FnOk P w K mg base CX0 1 go eo ["plan"] (spPlacesOf K) := ok_placesOf DO T.bt
  refine L.L.F.okX scPlaces (fun vs H Q E h => ?_) (fun cdv A outer s H vs Q E hr h => ?_)
  · obtain ⟨p, zs, rs, rfl, _⟩ := h
    rfl
  · obtain ⟨p, zs, rs, rfl, hp, hs, q1, q2⟩ := h
    refine ⟨_, pss_cons (ps_expr (pe_call (E := E) GP hr (by rfl) T.P.g T.P.F.kp T.P.b .nil (passes_call (takes_of rfl rfl rfl rfl) fun _ _ _ _ h => h) (pa_cons (pv 0) pa_nil)))
      (pss_one (ps_ret (pe_call (E := E0) GO (hr.mono (by decide)) (by rfl) DO.g DO.F.kp DO.b .nil pass0 (pa_cons (pv 0) pa_nil)))), ?_⟩
    exact ⟨.ref p, rfl, p, zs, rs, rfl, hp, hs, fun e1 H1 sm1 => ⟨.ref p, rfl, p, zs, rs, rfl, hp.same sm1, good_of e1, fun H2 f sm2 nf tl => q1 e1 H2 f (sm1.trans sm2) (Same.free sm1 nf) tl⟩, q2⟩
end
end Sv


set_option maxHeartbeats 4000000
namespace Sv
open PySem PySem.Spec PyProof.Rows L2
def rSumT (K : PySem.W.Frag) : List V → Hp → VK → Prop := fun vs H Q => ∃ (a : Addr) (ns : List Int), vs = [V.ref a] ∧ SqT K H a (ns.map V.int) ∧ Q (.int ns.sum) H
theorem cr_sumT {X : Cx} (hc : X.calm = true) : CallR X (.builtin "sum") (rSumT X.K) := by
  intro pins s σ H vs us Q I r h
  obtain ⟨a, ns, rfl, hs, q⟩ := h
  obtain ⟨its, rv, hl, _⟩ := I.tuple hs
  rw [Vals.ref1 r]
  have hi := rv.ints
  obtain ⟨xs, e⟩ := hi.allInts.items
  have hn : numsOf (intItems xs).toList = ns := by rw [← e]; exact hi.numsOf
  rw [nums_intItems] at hn
  rw [e] at hl
  refine PySem.W.ktm_sumG (I.ok.hd hc) hl fun h' tk t' hk => ?_
  rw [preSum_eq, List.take_of_length_le (by simp), hn]
  exact ⟨.int ns.sum, H, I.kept hk, ⟨_, rfl⟩, q⟩
/-! ### the first layout -/
def sumN (zs : List Int) : Nat := (zs.map Int.toNat).sum
theorem sum_int {zs : List Int} (h : ∀ z ∈ zs, 0 ≤ z) : zs.sum = (sumN zs : Nat) := by
  unfold sumN
  induction zs with
  | nil => rfl
  | cons z zs ih =>
    have h1 := h z (List.mem_cons_self ..)
    have h2 := ih fun x hx => h x (List.mem_cons_of_mem _ hx)
    simp only [List.sum_cons, List.map_cons]
    rw [h2]
    omega
def segs {α : Type} (cs : List α) : Nat → List Int → List (List α)
  | _, [] => []
  | st, z :: zs => (cs.drop st).take z.toNat :: segs cs (st + z.toNat) zs
theorem segs_len {α : Type} (cs : List α) : ∀ (st : Nat) (zs : List Int), (segs cs st zs).length = zs.length
  | _, [] => rfl
  | st, z :: zs => congrArg Nat.succ (segs_len cs _ zs)
theorem segs_flat {α : Type} (cs : List α) : ∀ (st : Nat) (zs : List Int), (segs cs st zs).flatten = (cs.drop st).take (sumN zs)
  | st, [] => by
    show [] = (cs.drop st).take 0
    rw [List.take_zero]
  | st, z :: zs => by
    show (cs.drop st).take z.toNat ++ (segs cs (st + z.toNat) zs).flatten = (cs.drop st).take (sumN (z :: zs))
    rw [segs_flat cs _ zs]
    have e : sumN (z :: zs) = z.toNat + sumN zs := by unfold sumN; rw [List.map_cons, List.sum_cons]
    rw [e, List.take_add, List.drop_drop]
theorem segs_snoc {α : Type} (cs : List α) : ∀ (st : Nat) (zs : List Int) (z : Int), segs cs st (zs ++ [z]) = segs cs st zs ++ [(cs.drop (st + sumN zs)).take z.toNat]
  | st, [], z => by
    show [(cs.drop st).take z.toNat] = _
    rfl
  | st, y :: zs, z => by
    show (cs.drop st).take y.toNat :: segs cs (st + y.toNat) (zs ++ [z]) = _
    rw [segs_snoc cs _ zs z]
    have e : sumN (y :: zs) = y.toNat + sumN zs := by unfold sumN; rw [List.map_cons, List.sum_cons]
    rw [e, ← Nat.add_assoc]
    rfl
theorem sumN_snoc (zs : List Int) (z : Int) : sumN (zs ++ [z]) = sumN zs + z.toNat := by unfold sumN; simp
theorem segs_lens {α : Type} (cs : List α) : ∀ (st : Nat) (zs : List Int), st + sumN zs ≤ cs.length → (segs cs st zs).map List.length = zs.map Int.toNat
  | _, [], _ => rfl
  | st, z :: zs, h => by
    have e : sumN (z :: zs) = z.toNat + sumN zs := by unfold sumN; rw [List.map_cons, List.sum_cons]
    rw [e] at h
    show ((cs.drop st).take z.toNat).length :: (segs cs (st + z.toNat) zs).map List.length = _
    rw [segs_lens cs _ zs (by omega), List.length_take, List.length_drop, List.map_cons]
    congr 1
    omega
def parc (N : Nat) : List Int := (List.range N).map fun i => 1 + (i : Nat)
theorem parc_len (N : Nat) : (parc N).length = N := by unfold parc; simp
theorem rgV_parc (N : Nat) : rgV 1 ((N : Nat) + 1) = (parc N).map V.int := by
  unfold rgV parc
  rw [show (((N : Nat) : Int) + 1 - 1).toNat = N by omega, List.map_map]
  rfl
abbrev SegV (H : Hp) (qs : List Addr) (ss : List (List Int)) : Prop := Paired (fun q seg => H q = some (.tup (seg.map V.int))) qs ss
theorem segV_imp {H H' : Hp} (e : ∀ b xs, H b = some (.tup xs) → H' b = some (.tup xs)) : ∀ {ps : List Addr} {ts : List (List Int)}, SegV H ps ts → SegV H' ps ts
  | _, _, .nil => .nil
  | _, _, .cons h t => .cons (e _ _ h) (segV_imp e t)
theorem segV_len {H : Hp} : ∀ {ps : List Addr} {ts : List (List Int)}, SegV H ps ts → ps.length = ts.length
  | _, _, .nil => rfl
  | _, _, .cons _ t => congrArg Nat.succ (segV_len t)
theorem segV_snoc {H : Hp} {p : Addr} {t : List Int} (hp : H p = some (.tup (t.map V.int))) : ∀ {ps : List Addr} {ts : List (List Int)}, SegV H ps ts → SegV H (ps ++ [p]) (ts ++ [t])
  | _, _, .nil => .cons hp .nil
  | _, _, .cons h r => .cons h (segV_snoc hp r)
theorem segV_at {H : Hp} : ∀ {ps : List Addr} {ts : List (List Int)} {i : Nat} {p : Addr}, SegV H ps ts → ps[i]? = some p → ∃ t, ts[i]? = some t ∧ H p = some (.tup (t.map V.int))
  | _, _, i, p, .nil, e => by simp at e
  | _, _, 0, p, .cons h r, e => by
    obtain rfl := Option.some.inj e
    exact ⟨_, rfl, h⟩
  | _, _, i + 1, p, .cons h r, e => segV_at (i := i) r (by simpa using e)
/-- a layout: who is carried, who lies where -/
structure LayAt (H : Hp) (ca sh : Addr) (cs : List Int) (ss : List (List Int)) : Prop where
  c : H ca = some (.tup (cs.map V.int))
  s : ∃ qs : List Addr, H sh = some (.tup (qs.map V.ref)) ∧ SegV H qs ss
theorem LayAt.same {H H' : Hp} {ca sh : Addr} {cs : List Int} {ss : List (List Int)} (x : LayAt H ca sh cs ss) (e : Same H H') : LayAt H' ca sh cs ss := by
  obtain ⟨qs, h1, h2⟩ := x.s
  exact ⟨e _ _ x.c, qs, e _ _ h1, segV_imp (fun b xs q => e _ _ q) h2⟩
theorem cut_seg {xs : List V} {st k : Nat} : cutV xs (some (st : Int)) (some (((st : Nat) : Int) + (k : Nat))) = (xs.drop st).take k := by
  have e : ((st : Nat) : Int) + (k : Nat) = ((st + k : Nat) : Int) := by omega
  unfold cutV
  rw [e, HT.sIx_nat, HT.sIx_nat]
  by_cases h1 : st + k ≤ xs.length
  · rw [Nat.min_eq_left h1, Nat.min_eq_left (by omega)]
    congr 1
    omega
  · by_cases h2 : st ≤ xs.length
    · rw [Nat.min_eq_right (by omega), Nat.min_eq_left h2, List.take_of_length_le (by rw [List.length_drop]; omega), List.take_of_length_le (by rw [List.length_drop]; omega)]
    · rw [Nat.min_eq_right (by omega), Nat.min_eq_right (by omega), List.drop_of_length_le (by omega : xs.length ≤ st), List.drop_of_length_le (Nat.le_refl _), List.take_nil, List.take_nil]
section
variable {P : Program} {w : World} {K : PySem.W.Frag} {mg : Str → Option Value} {base : Heap}
variable {C fI fW fS fR fT fP : Addr} {dI dW dS dR dT dP : FuncData}
variable {gP gV gL gN gI gC gR gS gT : Addr} {eP eVv eL eN eI eC eR eS eT : FuncData}
theorem scNum : FnScope ["plan", "sizes", "routes"] ["plan"] (defScope sNumPlaces) := ⟨rfl, rfl, rfl, by decide +kernel, rfl, by decide +kernel, by decide +kernel⟩
theorem scSplit : FnScope ["plan", "contents", "sizes", "routes", "start", "carried", "shelves", "size"] ["plan", "contents"] (defScope sSplit) := ⟨rfl, rfl, rfl, by decide +kernel, rfl, by decide +kernel, by decide +kernel⟩
theorem scInitial : FnScope ["plan", "parcels", "carried", "shelves"] ["plan"] (defScope sInitial) := ⟨rfl, rfl, rfl, by decide +kernel, rfl, by decide +kernel, by decide +kernel⟩
def spNum (K : PySem.W.Frag) : Sp := fun vs H Q _ => ∃ (p : Addr) (zs : List Int) (rs : List Ro), vs = [.ref p] ∧ PlanAt K H p zs rs ∧ (∀ z ∈ zs, 0 ≤ z) ∧ Q (.int (rs.length + sumN zs : Nat)) H
theorem ok_num (B : Bt mg) (L : Qf P K mg gP gV gL gN gI gC gR gS gT eP eVv eL eN eI eC eR eS eT) : FnOk P w K mg base CX0 1 gN eN ["plan"] (spNum K) := by
  refine L.N.F.ok scNum (fun vs H Q E h => ?_) (fun cdv A outer s H vs Q E hr h => ?_)
  · obtain ⟨p, zs, rs, rfl, _⟩ := h
    rfl
  · obtain ⟨p, zs, rs, rfl, hp, hz, q⟩ := h
    obtain ⟨a, b, hp1, ha, hb⟩ := hp.ex
    obtain ⟨qs, hA, hP⟩ := hb.ex
    have hql := paired_len hP
    refine ⟨_, pss_cons (ps_asg (pv 0) (pg_tup rfl (pgs_cons (pg_name (i := 1) scNum.nd rfl (.inl rfl)) (pgs_cons (pg_name (i := 2) scNum.nd rfl (.inl rfl)) pgs_nil))))
      (pss_one (ps_ret (pe_op op_add (pe_callB call_len_seq (by rfl) B.len b_len (pa_cons (pv 2) pa_nil)) (pe_callB (cr_sumT rfl) (by rfl) B.sum b_sum (pa_cons (pv 1) pa_nil))))), ?_⟩
    refine ⟨.ref p, rfl, p, [.ref a, .ref b], rfl, hp1, rfl, _, _, rfl, _, _, rfl, rfl, ?_⟩
    refine ⟨.ref b, rfl, b, _, rfl, .inr hA, .ref a, rfl, a, zs, rfl, ha, _, _, rfl, rfl, ?_⟩
    rw [List.length_map, hql, sum_int hz]
    exact q
def spSplit (K : PySem.W.Frag) : Sp := fun vs H Q _ => ∃ (p c : Addr) (zs : List Int) (rs : List Ro) (cs : List Int), vs = [.ref p, .ref c] ∧ PlanAt K H p zs rs ∧ SqL K H c (cs.map V.int) ∧ (∀ z ∈ zs, 0 ≤ z ∧ z ≤ 9) ∧ zs.length ≤ 12 ∧ rs.length ≤ 6 ∧ cs.length ≤ 1000 ∧
  ∀ H' t ca sh, Same H H' → H' t = some (.tup [.ref ca, .ref sh]) → LayAt H' ca sh (cs.take rs.length) (segs cs rs.length zs) → Q (.ref t) H'
theorem ok_split (B : Bt mg) (L : Qf P K mg gP gV gL gN gI gC gR gS gT eP eVv eL eN eI eC eR eS eT) : FnOk P w K mg base CX0 1 gS eS ["plan", "contents"] (spSplit K) := by
  refine L.S.F.ok scSplit (fun vs H Q E h => ?_) (fun cdv A outer s H vs Q E hr h => ?_)
  · obtain ⟨p, c, zs, rs, cs, rfl, _⟩ := h
    rfl
  · obtain ⟨p, c, zs, rs, cs, rfl, hp, hc, hz, lz, lr, lc, q⟩ := h
    obtain ⟨a, b, hp1, ha, hb⟩ := hp.ex
    obtain ⟨qs, hA, hP⟩ := hb.ex
    have hql := paired_len hP
    refine ⟨_, pss_cons (ps_asg (pv 0) (pg_tup rfl (pgs_cons (pg_name (i := 2) scSplit.nd rfl (.inl rfl)) (pgs_cons (pg_name (i := 3) scSplit.nd rfl (.inl rfl)) pgs_nil))))
      (pss_cons (ps_set (i := 4) scSplit.nd rfl (Or.inl rfl) (pe_callB call_len_seq (by rfl) B.len b_len (pa_cons (pv 3) pa_nil)))
      (pss_cons (ps_set (i := 5) scSplit.nd rfl (Or.inl rfl) (pe_callTy call_tuple_of (by rfl) B.tuple b_tuple (pa_cons (pe_slice sl_list (pv 1) po_none (po_some (pv 4))) pa_nil)))
      (pss_cons (ps_set (i := 6) scSplit.nd rfl (Or.inl rfl) (pe_lst pa_nil))
      (pss_cons (ps_for PassesOwn.never rfl (pi_tup (pv 2)) (pg_name (i := 7) scSplit.nd rfl (Or.inl rfl))
        (pss_cons (ps_expr (pe_bm PySem.F.plainAttrs_list PySem.F.slot_list_append PySem.F.type_list_append mt_append (pv 6) (pa_cons (pe_callTy call_tuple_of (by rfl) B.tuple b_tuple (pa_cons (pe_slice sl_list (pv 1) (po_some (pv 4)) (po_some (pe_op op_add (pv 4) (pv 7)))) pa_nil)) pa_nil)))
        (pss_one (ps_aug (i := 4) scSplit.nd rfl (Or.inl rfl) (pv 7) ip_add))))
      (pss_one (ps_ret (pe_tup (pa_cons (pv 5) (pa_cons (pe_callTy call_tuple_of (by rfl) B.tuple b_tuple (pa_cons (pv 6) pa_nil)) pa_nil))))))))), ?_⟩
    refine ⟨.ref p, rfl, p, [.ref a, .ref b], rfl, hp1, rfl, _, _, rfl, _, _, rfl, rfl, ?_⟩
    refine ⟨.ref b, rfl, b, _, rfl, .inr hA, ?_⟩
    rw [List.length_map, hql]
    refine ⟨.ref c, rfl, .int (rs.length : Nat), rfl, (rs.length : Nat), rfl, c, _, rfl, hc, fun p1 hp1 => ?_⟩
    rw [cut_to, ← List.map_take]
    have m1 : Same H (upd H p1 (.lst ((cs.take rs.length).map V.int))) := same_upd hp1
    refine ⟨p1, _, rfl, .inl ⟨.inl (.inl upd_same), fun ca hca => ?_⟩⟩
    have m2 := m1.trans (same_upd (o := .tup ((cs.take rs.length).map V.int)) hca)
    have kca : (upd (upd H p1 (.lst ((cs.take rs.length).map V.int))) ca (.tup ((cs.take rs.length).map V.int))) ca = some (.tup ((cs.take rs.length).map V.int)) := upd_same
    generalize upd (upd H p1 (.lst ((cs.take rs.length).map V.int))) ca (.tup ((cs.take rs.length).map V.int)) = H2 at m2 kca ⊢
    refine ⟨Nat.zero_le _, fun f hf => ?_⟩
    have nf : H f = none := Same.free m2 hf
    have m3 : Same H (upd H2 f (.lst [])) := m2.trans (same_upd hf)
    have kca3 : (upd H2 f (.lst [])) ca = some (.tup ((cs.take rs.length).map V.int)) := by rw [upd_ne (ne_of_none kca hf)]; exact kca
    refine ⟨.ref a, rfl, a, rfl, ⟨_, sqT_same m3 ha⟩, for_tup (xs := zs.map V.int) (fun i σ H' => (∃ y7, σ = [some (.ref p), some (.ref c), some (.ref a), some (.ref b), some (.int (rs.length + sumN (zs.take i) : Nat)), some (.ref ca), some (.ref f), y7]) ∧ Same H H' ∧ H' ca = some (.tup ((cs.take rs.length).map V.int)) ∧
        ∃ qs : List Addr, H' f = some (.lst (qs.map V.ref)) ∧ SegV H' qs (segs cs rs.length (zs.take i))) ⟨⟨none, rfl⟩, m3, kca3, [], upd_same, .nil⟩ (fun i σ H' _ h => sqT_same h.2.1 ha) (fun i x σ H' hx ⟨⟨y7, es⟩, sm, kc, qs2, kf, sv⟩ => ?_) (fun σ H' ⟨⟨y7, es⟩, sm, kc, qs2, kf, sv⟩ => ?_)⟩
    · subst es
      obtain ⟨z, hz1, rfl⟩ := iV_lt hx
      have hzz := hz z (List.mem_of_getElem? hz1)
      have il : i < zs.length := (List.getElem?_eq_some_iff.mp hz1).1
      have ez : z = (z.toNat : Nat) := (Int.toNat_of_nonneg hzz.1).symm
      refine ⟨.ref f, rfl, .inl ⟨rfl, _, .inl (.inl kf)⟩, .ref c, rfl, .int (rs.length + sumN (zs.take i) : Nat), rfl, (rs.length + sumN (zs.take i) : Nat), rfl, .int (rs.length + sumN (zs.take i) : Nat), rfl, .int z, rfl, (rs.length + sumN (zs.take i) : Nat), z, rfl, rfl, _, rfl, c, _, rfl, Same.seq sm hc, fun p4 hp4 => ?_⟩
      have ecut : cutV (cs.map V.int) (some ((rs.length + sumN (zs.take i) : Nat) : Int)) (some (((rs.length + sumN (zs.take i) : Nat) : Int) + z)) = ((cs.drop (rs.length + sumN (zs.take i))).take z.toNat).map V.int := by
        rw [show (((rs.length + sumN (zs.take i) : Nat) : Int) + z) = ((rs.length + sumN (zs.take i) : Nat) : Int) + (z.toNat : Nat) by omega, cut_seg, ← List.map_drop, ← List.map_take]
      rw [ecut]
      have m4 : Same H' (upd H' p4 (.lst (((cs.drop (rs.length + sumN (zs.take i))).take z.toNat).map V.int))) := same_upd hp4
      refine ⟨p4, _, rfl, .inl ⟨.inl (.inl upd_same), fun p5 hp5 => ?_⟩⟩
      have m5 := m4.trans (same_upd (o := .tup (((cs.drop (rs.length + sumN (zs.take i))).take z.toNat).map V.int)) hp5)
      have k5 : (upd (upd H' p4 (.lst (((cs.drop (rs.length + sumN (zs.take i))).take z.toNat).map V.int))) p5 (.tup (((cs.drop (rs.length + sumN (zs.take i))).take z.toNat).map V.int))) p5 = some (.tup (((cs.drop (rs.length + sumN (zs.take i))).take z.toNat).map V.int)) := upd_same
      generalize upd (upd H' p4 (.lst (((cs.drop (rs.length + sumN (zs.take i))).take z.toNat).map V.int))) p5 (.tup (((cs.drop (rs.length + sumN (zs.take i))).take z.toNat).map V.int)) = H5 at m5 k5 ⊢
      have kf5 := m5 _ _ kf
      have hql2 : qs2.length = i := by
        rw [segV_len sv, segs_len, List.length_take]
        omega
      have ek : zs.take (i + 1) = zs.take i ++ [z] := by rw [List.take_add_one, hz1]; rfl
      refine ⟨f, _, _, rfl, rfl, kf5, ?_, .int (rs.length + sumN (zs.take i) : Nat), rfl, .int z, rfl, (rs.length + sumN (zs.take i) : Nat), z, rfl, rfl, ⟨some (.int z), ?_⟩, same_of (sm.trans m5) nf, ?_, qs2 ++ [p5], ?_, ?_⟩
      · rw [List.length_map]
        exact small1000 (by omega)
      · rw [ek, sumN_snoc]
        have : (((rs.length + sumN (zs.take i) : Nat) : Int) + z) = ((rs.length + (sumN (zs.take i) + z.toNat) : Nat) : Int) := by omega
        show [_, _, _, _, some (V.int (((rs.length + sumN (zs.take i) : Nat) : Int) + z)), _, _, _] = _
        rw [this]
      · rw [upd_ne (fun e => by rw [e, kf] at kc; cases kc)]
        exact m5 _ _ kc
      · rw [upd_same, List.map_append]
        rfl
      · rw [ek, segs_snoc]
        refine segV_imp (fun b xs hb => ?_) (segV_snoc k5 (segV_imp (fun b xs hb => m5 _ _ hb) sv))
        rw [upd_ne (fun e => by rw [e, kf5] at hb; cases hb)]
        exact hb
    · subst es
      rw [List.length_map, List.take_length] at sv
      refine ⟨.ref ca, rfl, .ref f, rfl, f, _, rfl, .inl ⟨.inl (.inl kf), fun sh hsh => ⟨(by show 2 ≤ sizeLine; decide), fun t ht => ?_⟩⟩⟩
      have m6 : Same H' (upd (upd H' sh (.tup (qs2.map V.ref))) t (.tup [.ref ca, .ref sh])) := (same_upd hsh).trans (same_upd ht)
      refine q _ t ca sh (sm.trans m6) upd_same ⟨m6 _ _ kc, qs2, ?_, segV_imp (fun b xs hb => m6 _ _ hb) sv⟩
      have : (upd H' sh (.tup (qs2.map V.ref))) sh = some (.tup (qs2.map V.ref)) := upd_same
      rw [upd_ne (ne_of_none this ht)]
      exact this
def spInitial (K : PySem.W.Frag) (C : Addr) : Sp := fun vs H Q E => ∃ (p : Addr) (zs : List Int) (rs : List Ro), vs = [.ref p] ∧ PlanAt K H p zs rs ∧ Small zs rs ∧
  (bad zs rs = none → ∀ H' t ca sh, Same H H' → H' t = some (.tup [.int 0, .ref ca, .ref sh]) → LayAt H' ca sh ((parc (rs.length + sumN zs)).take rs.length) (segs (parc (rs.length + sumN zs)) rs.length zs) → Q (.ref t) H') ∧ BadE C zs rs H E
theorem sumN_le {zs : List Int} (h : ∀ z ∈ zs, 0 ≤ z ∧ z ≤ 9) : sumN zs ≤ 9 * zs.length := by
  unfold sumN
  induction zs with
  | nil => exact Nat.le_refl _
  | cons z zs ih =>
    have h1 := h z (List.mem_cons_self ..)
    have h2 := ih fun x hx => h x (List.mem_cons_of_mem _ hx)
    rw [List.map_cons, List.sum_cons, List.length_cons]
    omega
theorem ok_initial (T : Pf P K mg C fI fW fS fR fT fP dI dW dS dR dT dP) (L : Qf P K mg gP gV gL gN gI gC gR gS gT eP eVv eL eN eI eC eR eS eT) : FnOk P w K mg base (L2.CX P w) 5 gT eT ["plan"] (spInitial K C) := by
  have GP : FnOk P w K mg base (L2.CX P w) 4 fP dP ["plan"] (spCheckPlan K C) := ok_checkPlan T
  have GN : FnOk P w K mg base CX0 1 gN eN ["plan"] (spNum K) := ok_num T.bt L
  have GS : FnOk P w K mg base CX0 1 gS eS ["plan", "contents"] (spSplit K) := ok_split T.bt L
  refine L.T.F.okX scInitial (fun vs H Q E h => ?_) (fun cdv A outer s H vs Q E hr h => ?_)
  · obtain ⟨p, zs, rs, rfl, _⟩ := h
    rfl
  · obtain ⟨p, zs, rs, rfl, hp, hs, q1, q2⟩ := h
    refine ⟨_, pss_cons (ps_expr (pe_call (E := E) GP hr (by rfl) T.P.g T.P.F.kp T.P.b .nil (passes_call (takes_of rfl rfl rfl rfl) fun _ _ _ _ h => h) (pa_cons (pv 0) pa_nil)))
      (pss_cons (ps_set (i := 1) scInitial.nd rfl (Or.inl rfl) (pe_listRg rfl (by rfl) T.bt.list (prg_2 (by rfl) T.bt.range pe_int (pe_op op_add (pe_call (E := E0) GN (hr.mono (by decide)) (by rfl) L.N.g L.N.F.kp L.N.b .nil pass0 (pa_cons (pv 0) pa_nil)) pe_int))))
      (pss_cons (ps_asg (pe_call (E := E0) GS (hr.mono (by decide)) (by rfl) L.S.g L.S.F.kp L.S.b .nil pass0 (pa_cons (pv 0) (pa_cons (pv 1) pa_nil))) (pg_tup rfl (pgs_cons (pg_name (i := 2) scInitial.nd rfl (.inl rfl)) (pgs_cons (pg_name (i := 3) scInitial.nd rfl (.inl rfl)) pgs_nil))))
      (pss_one (ps_ret (pe_tup (pa_cons pe_int (pa_cons (pv 2) (pa_cons (pv 3) pa_nil)))))))), ?_⟩
    refine ⟨.ref p, rfl, p, zs, rs, rfl, hp, hs, fun e1 H1 sm1 => ?_, q2⟩
    have gd := good_of e1
    have hN := sumN_le gd.z2
    have hN2 : rs.length + sumN zs ≤ 200 := by have := gd.z1; have := gd.r1; omega
    have b62 : (1000 : Int) < 2 ^ 62 := by decide
    have b24 : (1000 : Nat) < 2 ^ 24 := by decide
    refine ⟨.ref p, rfl, p, zs, rs, rfl, hp.same sm1, fun z hz => (gd.z2 z hz).1, (rs.length + sumN zs : Nat), 1, rfl, rfl, 1, _, rfl, rfl, ⟨by omega, by omega, by omega, by omega, by omega⟩, fun c hc => ?_⟩
    rw [rgV_parc]
    have sm2 := sm1.trans (same_upd (o := .lst ((parc (rs.length + sumN zs)).map V.int)) hc)
    refine ⟨.ref p, rfl, .ref c, rfl, p, c, zs, rs, parc (rs.length + sumN zs), rfl, hp.same sm2, .inl (.inl upd_same), gd.z2, gd.z1.2, gd.r1.2, by rw [parc_len]; omega, fun H3 t ca sh sm3 ht lay => ?_⟩
    refine ⟨t, [.ref ca, .ref sh], rfl, .inl (.inl ht), rfl, _, _, rfl, _, _, rfl, rfl, ?_⟩
    refine ⟨.ref ca, rfl, .ref sh, rfl, (by show 3 ≤ sizeLine; decide), fun t2 ht2 => ?_⟩
    exact q1 e1 _ t2 ca sh ((sm2.trans sm3).trans (same_upd ht2)) upd_same (lay.same (same_upd ht2))
end
end Sv


set_option maxHeartbeats 8000000
namespace Sv
open PySem PySem.Spec PyProof.Rows L2 LamX NdefX
section
variable {P : Program} {w : World} {K : PySem.W.Frag} {mg : Str → Option Value} {base : Heap}
/-! ### _law_alike, of two values of the same data -/
theorem scAlike : FnScope ["_law_found", "_law_due", "_law_k"] ["_law_found", "_law_due"] (defScope sAlike) := ⟨rfl, rfl, rfl, by decide +kernel, rfl, by decide +kernel, by decide +kernel⟩
def tyN : PyData → String
  | .none => "NoneType"
  | .bool _ => "bool"
  | .int _ => "int"
  | .str _ => "str"
  | .list _ => "list"
  | .tuple _ => "tuple"
  | .dict _ => "dict"
theorem tyx_lst {H : Hp} {a : Addr} {xs : List V} (h : SqL K H a xs) : TyX K H (.ref a) (.type "list") := by
  rcases h with (h | ⟨o, h⟩) | ⟨o, its, n, h1, h2, _⟩
  · exact .base (.lst h)
  · exact .base (.frz h)
  · exact .kList h1 h2
theorem dp_ty {H : Hp} {v : V} {d : PyData} (h : Dp K H v d) : TyX K H v (.type (tyN d)) := by
  cases h with
  | non => exact .base .non
  | bl b => exact .base (.bl b)
  | int i => exact .base (.int i)
  | str x => exact .base (.str x)
  | lst hs _ => exact tyx_lst hs
  | tup hs _ => exact tyx_tup hs
mutual
theorem dp_same {H H' : Hp} (e : Same H H') : ∀ (d : PyData) (v : V), Dp K H v d → Dp K H' v d
  | .none, _, h => by cases h; exact .non
  | .bool b, _, h => by cases h; exact .bl b
  | .int i, _, h => by cases h; exact .int i
  | .str x, _, h => by cases h; exact .str x
  | .list ds, _, h => by
    cases h with
    | lst hs ha => exact .lst (e.seq hs) (dpAll_same e ds _ ha)
  | .tuple ds, _, h => by
    cases h with
    | tup hs ha => exact .tup (sqT_same e hs) (dpAll_same e ds _ ha)
  | .dict _, _, h => by cases h
theorem dpAll_same {H H' : Hp} (e : Same H H') : ∀ (ds : List PyData) (vs : List V), DpAll K H vs ds → DpAll K H' vs ds
  | [], _, h => by cases h; exact .nil
  | d :: ds, _, h => by
    cases h with
    | cons h1 h2 => exact .cons (dp_same e d _ h1) (dpAll_same e ds _ h2)
end
theorem dpAll_len {H : Hp} : ∀ {vs : List V} {ds : List PyData}, DpAll K H vs ds → vs.length = ds.length
  | [], _, h => by cases h; rfl
  | v :: vs, _, h => by
    cases h with
    | cons h1 h2 => exact congrArg Nat.succ (dpAll_len h2)
theorem dpAll_at {H : Hp} : ∀ {vs : List V} {ds : List PyData} {i : Nat} {d : PyData}, DpAll K H vs ds → ds[i]? = some d → ∃ v, vs[i]? = some v ∧ Dp K H v d
  | [], _, i, d, h, e => by cases h; simp at e
  | v :: vs, _, 0, d, h, e => by
    cases h with
    | cons h1 h2 =>
      obtain rfl := Option.some.inj e
      exact ⟨v, rfl, h1⟩
  | v :: vs, _, i + 1, d, h, e => by
    cases h with
    | cons h1 h2 =>
      obtain ⟨x, h3, h4⟩ := dpAll_at (vs := vs) (i := i) h2 (by simpa using e)
      exact ⟨x, by simpa using h3, h4⟩
mutual
/-- how deep, and no list too long -/
def okD : Nat → PyData → Bool
  | 0, .list _ => false
  | 0, .tuple _ => false
  | n + 1, .list ds => decide (ds.length ≤ 1000) && okDs n ds
  | n + 1, .tuple ds => decide (ds.length ≤ 1000) && okDs n ds
  | _, .dict _ => false
  | _, _ => true
def okDs : Nat → List PyData → Bool
  | _, [] => true
  | n, d :: ds => okD n d && okDs n ds
end
theorem okDs_at : ∀ {n : Nat} {ds : List PyData} {i : Nat} {d : PyData}, okDs n ds = true → ds[i]? = some d → okD n d = true
  | n, [], i, d, _, e => by simp at e
  | n, x :: ds, 0, d, h, e => by
    obtain rfl := Option.some.inj e
    rw [okDs, Bool.and_eq_true] at h
    exact h.1
  | n, x :: ds, i + 1, d, h, e => by
    rw [okDs, Bool.and_eq_true] at h
    exact okDs_at (n := n) (ds := ds) (i := i) h.2 e
def spAlike (K : PySem.W.Frag) (n : Nat) : Sp := fun vs H Q _ => ∃ (v1 v2 : V) (d : PyData), vs = [v1, v2] ∧ Dp K H v1 d ∧ Dp K H v2 d ∧ okD n d = true ∧ ∀ H', Same H H' → Q (.bl true) H'
theorem kit_false {K : PySem.W.Frag} {a b : String} (h : kitB a b = some false) : PySem.W.kitOne K (.type a) (.type b) = some false := kit_ty h
theorem alike_step {f : Addr} {fd : FuncData} (F : Df K mg "_law_alike" sAlike ["_law_found", "_law_due"] f fd) (B : Bt mg) (n : Nat) (spS : Sp) (GS : FnOk P w K mg base CX0 n f fd ["_law_found", "_law_due"] spS)
    (hS : ∀ m, n = m + 1 → ∀ vs H Q E, spAlike K m vs H Q E → spS vs H Q E) : FnOk P w K mg base CX0 (n + 1) f fd ["_law_found", "_law_due"] (spAlike K n) := by
  refine F.F.ok scAlike (fun vs H Q E h => ?_) (fun cdv A outer s H vs Q E hr h => ?_)
  · obtain ⟨v1, v2, d, rfl, _⟩ := h
    rfl
  · obtain ⟨v1, v2, d, rfl, h1, h2, hok, q⟩ := h
    refine ⟨_, pss_cons (ps_if (pt_val (pe_callB call_isi (by rfl) B.isinstance b_isinstance (pa_cons (pv 1) (pa_cons (pe_ty (by rfl) B.dict b_dict) pa_nil)))) pss_never pss_nil)
      (pss_cons (ps_if (pt_val (pe_callB call_isiT (by rfl) B.isinstance b_isinstance (pa_cons (pv 1) (pa_cons (pe_tup (pa_cons (pe_ty (by rfl) B.tuple b_tuple) (pa_cons (pe_ty (by rfl) B.list b_list) pa_nil))) pa_nil))))
        (pss_cons (ps_if (pw_or (pt_not (pt_val (pe_callB call_isiT (by rfl) B.isinstance b_isinstance (pa_cons (pv 0) (pa_cons (pe_tup (pa_cons (pe_ty (by rfl) B.tuple b_tuple) (pa_cons (pe_ty (by rfl) B.list b_list) pa_nil))) pa_nil)))))
            (pw_or1 (pt_cmpR op_ne (pe_callB call_isi (by rfl) B.isinstance b_isinstance (pa_cons (pv 0) (pa_cons (pe_ty (by rfl) B.list b_list) pa_nil))) (pe_callB call_isi (by rfl) B.isinstance b_isinstance (pa_cons (pv 1) (pa_cons (pe_ty (by rfl) B.list b_list) pa_nil))) (nomark _)))).pt pss_never pss_nil)
        (pss_cons (ps_if (pt_cmpR op_ne (pe_callB call_len_seq (by rfl) B.len b_len (pa_cons (pv 0) pa_nil)) (pe_callB call_len_seq (by rfl) B.len b_len (pa_cons (pv 1) pa_nil)) (nomark _)) pss_never pss_nil)
        (pss_one (ps_ret (pe_cmpR (op_eqD hr.units)
          (pe_lc (own := [("_law_k", 2)]) (g := gName 2) (tt := tNot (tB (tCall spS [] E0 (tCons (tOp (rIx K) (tVar 0) (tVar 2)) (tCons (tOp (rIx K) (tVar 1) (tVar 2)) tNil))))) (te := tVar 2) rfl scAlike.nd
            (pi_range1 (by rfl) B.range (pa_cons (pe_callB call_len_seq (by rfl) B.len b_len (pa_cons (pv 1) pa_nil)) pa_nil)) (blkOk_by (N := ["_law_found", "_law_due", "_law_k"]) (sc := defScope sAlike) (by decide +kernel))
            (fun _ _ _ _ _ => pg_name (i := 2) scAlike.nd rfl (Or.inl rfl))
            (fun _ _ _ _ _ => pts_one (pt_not (pt_val (pe_call GS hr (by rfl) F.g F.F.kp F.b .nil pass0 (pa_cons (pe_ix ix_seq (pv 0) (pv 2) (fun _ _ => rfl)) (pa_cons (pe_ix ix_seq (pv 1) (pv 2) (fun _ _ => rfl)) pa_nil))))))
            (fun _ _ _ _ _ => pv 2)) (pe_lst pa_nil) (nomark _)))))) pss_nil)
      (pss_cons (ps_if (pw_or (pt_cmpR op_isN (pv 1) pe_non (nomark _)) (pw_or1 (pt_val (pe_callB call_isi (by rfl) B.isinstance b_isinstance (pa_cons (pv 1) (pa_cons (pe_ty (by rfl) B.str b_str) pa_nil)))))).pt
        (pss_one (ps_ret (pe_and (pe_cmpR op_eq (pv 0) (pv 1) (nomark _)) (pe_one (pe_cmpR op_eq (pe_callB call_isi (by rfl) B.isinstance b_isinstance (pa_cons (pv 0) (pa_cons (pe_ty (by rfl) B.str b_str) pa_nil))) (pe_callB call_isi (by rfl) B.isinstance b_isinstance (pa_cons (pv 1) (pa_cons (pe_ty (by rfl) B.str b_str) pa_nil))) (nomark _)))))) pss_nil)
      (pss_one (ps_ret (pe_and (pe_callB call_isi (by rfl) B.isinstance b_isinstance (pa_cons (pv 0) (pa_cons (pe_ty (by rfl) B.int b_int) pa_nil))) (pe_and (pe_cmpR op_eq (pe_callB call_isi (by rfl) B.isinstance b_isinstance (pa_cons (pv 0) (pa_cons (pe_ty (by rfl) B.bool b_bool) pa_nil))) (pe_callB call_isi (by rfl) B.isinstance b_isinstance (pa_cons (pv 1) (pa_cons (pe_ty (by rfl) B.bool b_bool) pa_nil))) (nomark _)) (pe_one (pe_cmpR op_eq (pv 0) (pv 1) (nomark _))))))))), ?_⟩
    have tupcs : Paired ClsV [V.ty "tuple", V.ty "list"] [Value.type "tuple", Value.type "list"] := .cons (.ty "tuple") (.cons (.ty "list") .nil)
    cases d with
    | none =>
      cases h1
      cases h2
      refine ⟨.non, rfl, .non, .ty "dict", _, _, false, rfl, .ty "dict", .base .non, kit_ty (by decide +kernel), false, rfl, iteF ?_⟩
      refine ⟨.non, rfl, (by show 2 ≤ sizeLine; decide), fun p hp => ?_⟩
      refine ⟨.non, p, _, _, _, false, rfl, upd_same, tupcs, .base .non, kitAny_cons (b := false) (kit_ty (by decide +kernel)) (fun _ => kitAny_cons (b := false) (kit_ty (by decide +kernel)) (fun _ => kitAny_nil) (fun z => by cases z)) (fun z => by cases z), false, rfl, iteF ?_⟩
      refine ⟨.non, rfl, rfl, _, rfl, iteT (iteT ?_)⟩
      refine ⟨.non, rfl, .non, rfl, rfl, true, (by rw [decide_eq_true rfl]), iteT ?_⟩
      refine ⟨.non, rfl, .non, .ty "str", _, _, false, rfl, .ty "str", .base .non, kit_ty (by decide +kernel), ?_⟩
      refine ⟨.non, rfl, .non, .ty "str", _, _, false, rfl, .ty "str", .base .non, kit_ty (by decide +kernel), rfl, ?_⟩
      exact q _ (same_upd hp)
    | bool b =>
      cases h1
      cases h2
      refine ⟨.bl b, rfl, .bl b, .ty "dict", _, _, false, rfl, .ty "dict", .base (.bl b), kit_ty (by decide +kernel), false, rfl, iteF ?_⟩
      refine ⟨.bl b, rfl, (by show 2 ≤ sizeLine; decide), fun p hp => ?_⟩
      refine ⟨.bl b, p, _, _, _, false, rfl, upd_same, tupcs, .base (.bl b), kitAny_cons (b := false) (kit_ty (by decide +kernel)) (fun _ => kitAny_cons (b := false) (kit_ty (by decide +kernel)) (fun _ => kitAny_nil) (fun z => by cases z)) (fun z => by cases z), false, rfl, iteF ?_⟩
      refine ⟨.bl b, rfl, rfl, _, rfl, iteF ?_⟩
      refine ⟨.bl b, rfl, .bl b, .ty "str", _, _, false, rfl, .ty "str", .base (.bl b), kit_ty (by decide +kernel), _, rfl, iteF ?_⟩
      refine ⟨.bl b, rfl, .bl b, .ty "int", _, _, true, rfl, .ty "int", .base (.bl b), kit_ty (by decide +kernel), true, rfl, iteT ?_⟩
      refine ⟨.bl b, rfl, .bl b, .ty "bool", _, _, true, rfl, .ty "bool", .base (.bl b), kit_ty (by decide +kernel), ?_⟩
      refine ⟨.bl b, rfl, .bl b, .ty "bool", _, _, true, rfl, .ty "bool", .base (.bl b), kit_ty (by decide +kernel), rfl, true, rfl, iteT ?_⟩
      refine ⟨.bl b, rfl, .bl b, rfl, rfl, ?_⟩
      show Q (.bl (decide (V.bl b = V.bl b))) _
      rw [decide_eq_true rfl]
      exact q _ (same_upd hp)
    | int i =>
      cases h1
      cases h2
      refine ⟨.int i, rfl, .int i, .ty "dict", _, _, false, rfl, .ty "dict", .base (.int i), kit_ty (by decide +kernel), false, rfl, iteF ?_⟩
      refine ⟨.int i, rfl, (by show 2 ≤ sizeLine; decide), fun p hp => ?_⟩
      refine ⟨.int i, p, _, _, _, false, rfl, upd_same, tupcs, .base (.int i), kitAny_cons (b := false) (kit_ty (by decide +kernel)) (fun _ => kitAny_cons (b := false) (kit_ty (by decide +kernel)) (fun _ => kitAny_nil) (fun z => by cases z)) (fun z => by cases z), false, rfl, iteF ?_⟩
      refine ⟨.int i, rfl, rfl, _, rfl, iteF ?_⟩
      refine ⟨.int i, rfl, .int i, .ty "str", _, _, false, rfl, .ty "str", .base (.int i), kit_ty (by decide +kernel), _, rfl, iteF ?_⟩
      refine ⟨.int i, rfl, .int i, .ty "int", _, _, true, rfl, .ty "int", .base (.int i), kit_ty (by decide +kernel), true, rfl, iteT ?_⟩
      refine ⟨.int i, rfl, .int i, .ty "bool", _, _, false, rfl, .ty "bool", .base (.int i), kit_ty (by decide +kernel), ?_⟩
      refine ⟨.int i, rfl, .int i, .ty "bool", _, _, false, rfl, .ty "bool", .base (.int i), kit_ty (by decide +kernel), rfl, true, rfl, iteT ?_⟩
      refine ⟨.int i, rfl, .int i, rfl, rfl, ?_⟩
      show Q (.bl (decide (V.int i = V.int i))) _
      rw [decide_eq_true rfl]
      exact q _ (same_upd hp)
    | str x =>
      cases h1
      cases h2
      refine ⟨.str x, rfl, .str x, .ty "dict", _, _, false, rfl, .ty "dict", .base (.str x), kit_ty (by decide +kernel), false, rfl, iteF ?_⟩
      refine ⟨.str x, rfl, (by show 2 ≤ sizeLine; decide), fun p hp => ?_⟩
      refine ⟨.str x, p, _, _, _, false, rfl, upd_same, tupcs, .base (.str x), kitAny_cons (b := false) (kit_ty (by decide +kernel)) (fun _ => kitAny_cons (b := false) (kit_ty (by decide +kernel)) (fun _ => kitAny_nil) (fun z => by cases z)) (fun z => by cases z), false, rfl, iteF ?_⟩
      refine ⟨.str x, rfl, rfl, _, rfl, iteF ?_⟩
      refine ⟨.str x, rfl, .str x, .ty "str", _, _, true, rfl, .ty "str", .base (.str x), kit_ty (by decide +kernel), _, rfl, iteT ?_⟩
      refine ⟨.str x, rfl, .str x, rfl, rfl, true, (by rw [decide_eq_true rfl]), iteT ?_⟩
      refine ⟨.str x, rfl, .str x, .ty "str", _, _, true, rfl, .ty "str", .base (.str x), kit_ty (by decide +kernel), ?_⟩
      refine ⟨.str x, rfl, .str x, .ty "str", _, _, true, rfl, .ty "str", .base (.str x), kit_ty (by decide +kernel), rfl, ?_⟩
      exact q _ (same_upd hp)
    | list ds =>
      cases n with
      | zero => rw [okD] at hok; cases hok
      | succ m =>
      rw [okD, Bool.and_eq_true] at hok
      have hdl : ds.length ≤ 1000 := of_decide_eq_true hok.1
      cases h1 with
      | @lst a1 xs1 _ hs1 ha1 =>
      cases h2 with
      | @lst a2 xs2 _ hs2 ha2 =>
      have l1 := dpAll_len ha1
      have l2 := dpAll_len ha2
      refine ⟨.ref a2, rfl, .ref a2, .ty "dict", _, _, false, rfl, .ty "dict", tyx_lst hs2, kit_ty (by decide +kernel), false, rfl, iteF ?_⟩
      refine ⟨.ref a2, rfl, (by show 2 ≤ sizeLine; decide), fun p hp => ?_⟩
      have sm1 : Same H (upd H p (.tup [V.ty "tuple", V.ty "list"])) := same_upd hp
      refine ⟨.ref a2, p, _, _, _, true, rfl, upd_same, tupcs, tyx_lst (Same.seq sm1 hs2), kitAny_cons (b := false) (kit_ty (by decide +kernel)) (fun _ => kitAny_cons (b := true) (kit_ty (by decide +kernel)) (fun z => by cases z) (fun _ => rfl)) (fun z => by cases z), true, rfl, iteT ?_⟩
      refine ⟨.ref a1, rfl, (by show 2 ≤ sizeLine; decide), fun p2 hp2 => ?_⟩
      have sm2 : Same H (upd (upd H p (.tup [V.ty "tuple", V.ty "list"])) p2 (.tup [V.ty "tuple", V.ty "list"])) := same_of sm1 (Same.free sm1 hp2)
      refine ⟨.ref a1, p2, _, _, _, true, rfl, upd_same, tupcs, tyx_lst (Same.seq sm2 hs1), kitAny_cons (b := false) (kit_ty (by decide +kernel)) (fun _ => kitAny_cons (b := true) (kit_ty (by decide +kernel)) (fun z => by cases z) (fun _ => rfl)) (fun z => by cases z), true, rfl, iteF ?_⟩
      refine ⟨.ref a1, rfl, .ref a1, .ty "list", _, _, true, rfl, .ty "list", tyx_lst (Same.seq sm2 hs1), kit_ty (by decide +kernel), ?_⟩
      refine ⟨.ref a2, rfl, .ref a2, .ty "list", _, _, true, rfl, .ty "list", tyx_lst (Same.seq sm2 hs2), kit_ty (by decide +kernel), rfl, false, rfl, iteF ?_⟩
      refine ⟨.ref a1, rfl, a1, xs1, rfl, .inl (Same.seq sm2 hs1), .ref a2, rfl, a2, xs2, rfl, .inl (Same.seq sm2 hs2), rfl, _, rfl, ?_⟩
      rw [l1, l2, decide_eq_true rfl]
      refine iteF ?_
      have b62 : (1000 : Int) < 2 ^ 62 := by decide
      refine ⟨.ref a2, rfl, a2, xs2, rfl, .inl (Same.seq sm2 hs2), (xs2.length : Nat), rfl, by omega, by omega, fun D hD => ?_⟩
      have smD : Same H (upd (upd (upd H p (.tup [V.ty "tuple", V.ty "list"])) p2 (.tup [V.ty "tuple", V.ty "list"])) D (.lst [])) := same_of sm2 (Same.free sm2 hD)
      refine lc_range (lo := 0) (n := (xs2.length : Int).toNat) (fun i H' => Same H H' ∧ H' D = some (.lst [])) ⟨smD, upd_same⟩ (fun i H' hi ⟨sm, hd⟩ => ?_) (fun H' ⟨sm, hd⟩ => ?_)
      · have hi2 : i < ds.length := by
          rw [Int.toNat_natCast] at hi
          omega
        obtain ⟨w1, g1, e1⟩ := dpAll_at ha1 (List.getElem?_eq_getElem hi2)
        obtain ⟨w2, g2, e2⟩ := dpAll_at ha2 (List.getElem?_eq_getElem hi2)
        have ei : (0 : Int) + (i : Nat) = (i : Nat) := by omega
        rw [ei]
        refine ⟨rfl, .ref a1, rfl, .int (i : Nat), rfl, .inl ⟨a1, xs1, (i : Nat), w1, rfl, rfl, (Same.seq sm hs1), atI_nat g1, ?_⟩⟩
        refine ⟨.ref a2, rfl, .int (i : Nat), rfl, .inl ⟨a2, xs2, (i : Nat), w2, rfl, rfl, (Same.seq sm hs2), atI_nat g2, ?_⟩⟩
        refine hS m rfl _ _ _ _ ⟨w1, w2, _, rfl, dp_same sm _ _ e1, dp_same sm _ _ e2, okDs_at hok.2 (List.getElem?_eq_getElem hi2), fun H3 sm3 => ⟨true, rfl, iteF ⟨sm.trans sm3, sm3 _ _ hd⟩⟩⟩
      · refine ⟨Nat.zero_le _, fun z hz => ?_⟩
        refine ⟨.list [], .list [], .lst (.inl (.inl ?_)) .nil, .lst (.inl (.inl upd_same)) .nil, rfl, rfl, q _ (same_of sm (Same.free sm hz))⟩
        rw [upd_ne (ne_of_none hd hz)]
        exact hd
    | tuple ds =>
      cases n with
      | zero => rw [okD] at hok; cases hok
      | succ m =>
      rw [okD, Bool.and_eq_true] at hok
      have hdl : ds.length ≤ 1000 := of_decide_eq_true hok.1
      cases h1 with
      | @tup a1 xs1 _ hs1 ha1 =>
      cases h2 with
      | @tup a2 xs2 _ hs2 ha2 =>
      have l1 := dpAll_len ha1
      have l2 := dpAll_len ha2
      refine ⟨.ref a2, rfl, .ref a2, .ty "dict", _, _, false, rfl, .ty "dict", tyx_tup hs2, kit_ty (by decide +kernel), false, rfl, iteF ?_⟩
      refine ⟨.ref a2, rfl, (by show 2 ≤ sizeLine; decide), fun p hp => ?_⟩
      have sm1 : Same H (upd H p (.tup [V.ty "tuple", V.ty "list"])) := same_upd hp
      refine ⟨.ref a2, p, _, _, _, true, rfl, upd_same, tupcs, tyx_tup (sqT_same sm1 hs2), kitAny_cons (b := true) (kit_ty (by decide +kernel)) (fun z => by cases z) (fun _ => rfl), true, rfl, iteT ?_⟩
      refine ⟨.ref a1, rfl, (by show 2 ≤ sizeLine; decide), fun p2 hp2 => ?_⟩
      have sm2 : Same H (upd (upd H p (.tup [V.ty "tuple", V.ty "list"])) p2 (.tup [V.ty "tuple", V.ty "list"])) := same_of sm1 (Same.free sm1 hp2)
      refine ⟨.ref a1, p2, _, _, _, true, rfl, upd_same, tupcs, tyx_tup (sqT_same sm2 hs1), kitAny_cons (b := true) (kit_ty (by decide +kernel)) (fun z => by cases z) (fun _ => rfl), true, rfl, iteF ?_⟩
      refine ⟨.ref a1, rfl, .ref a1, .ty "list", _, _, false, rfl, .ty "list", tyx_tup (sqT_same sm2 hs1), kit_ty (by decide +kernel), ?_⟩
      refine ⟨.ref a2, rfl, .ref a2, .ty "list", _, _, false, rfl, .ty "list", tyx_tup (sqT_same sm2 hs2), kit_ty (by decide +kernel), rfl, false, rfl, iteF ?_⟩
      refine ⟨.ref a1, rfl, a1, xs1, rfl, .inr (sqT_same sm2 hs1), .ref a2, rfl, a2, xs2, rfl, .inr (sqT_same sm2 hs2), rfl, _, rfl, ?_⟩
      rw [l1, l2, decide_eq_true rfl]
      refine iteF ?_
      have b62 : (1000 : Int) < 2 ^ 62 := by decide
      refine ⟨.ref a2, rfl, a2, xs2, rfl, .inr (sqT_same sm2 hs2), (xs2.length : Nat), rfl, by omega, by omega, fun D hD => ?_⟩
      have smD : Same H (upd (upd (upd H p (.tup [V.ty "tuple", V.ty "list"])) p2 (.tup [V.ty "tuple", V.ty "list"])) D (.lst [])) := same_of sm2 (Same.free sm2 hD)
      refine lc_range (lo := 0) (n := (xs2.length : Int).toNat) (fun i H' => Same H H' ∧ H' D = some (.lst [])) ⟨smD, upd_same⟩ (fun i H' hi ⟨sm, hd⟩ => ?_) (fun H' ⟨sm, hd⟩ => ?_)
      · have hi2 : i < ds.length := by
          rw [Int.toNat_natCast] at hi
          omega
        obtain ⟨w1, g1, e1⟩ := dpAll_at ha1 (List.getElem?_eq_getElem hi2)
        obtain ⟨w2, g2, e2⟩ := dpAll_at ha2 (List.getElem?_eq_getElem hi2)
        have ei : (0 : Int) + (i : Nat) = (i : Nat) := by omega
        rw [ei]
        refine ⟨rfl, .ref a1, rfl, .int (i : Nat), rfl, .inr <| .inl ⟨a1, xs1, (i : Nat), w1, rfl, rfl, (sqT_same sm hs1), atI_nat g1, ?_⟩⟩
        refine ⟨.ref a2, rfl, .int (i : Nat), rfl, .inr <| .inl ⟨a2, xs2, (i : Nat), w2, rfl, rfl, (sqT_same sm hs2), atI_nat g2, ?_⟩⟩
        refine hS m rfl _ _ _ _ ⟨w1, w2, _, rfl, dp_same sm _ _ e1, dp_same sm _ _ e2, okDs_at hok.2 (List.getElem?_eq_getElem hi2), fun H3 sm3 => ⟨true, rfl, iteF ⟨sm.trans sm3, sm3 _ _ hd⟩⟩⟩
      · refine ⟨Nat.zero_le _, fun z hz => ?_⟩
        refine ⟨.list [], .list [], .lst (.inl (.inl ?_)) .nil, .lst (.inl (.inl upd_same)) .nil, rfl, rfl, q _ (same_of sm (Same.free sm hz))⟩
        rw [upd_ne (ne_of_none hd hz)]
        exact hd
    | dict _ => cases h1
theorem ok_alike {f : Addr} {fd : FuncData} (F : Df K mg "_law_alike" sAlike ["_law_found", "_law_due"] f fd) (B : Bt mg) : ∀ n, FnOk P w K mg base CX0 (n + 1) f fd ["_law_found", "_law_due"] (spAlike K n)
  | 0 => alike_step F B 0 (fun _ _ _ _ => False) ⟨fun _ _ _ _ h => h.elim, fun _ _ _ _ _ _ _ _ _ _ _ _ _ h => h.elim⟩ (fun m e => by omega)
  | n + 1 => alike_step F B (n + 1) (spAlike K n) (ok_alike F B n) (fun m e vs H Q E h => by
    have : m = n := by omega
    subst this
    exact h)
end
end Sv


set_option maxHeartbeats 8000000
namespace Sv
open PySem PySem.Spec PyProof.Rows L2 LamX NdefX
/-! ### _law_error -/
/-- the exception's dict, if there is one -/
def Dd (d : Option Addr) (H : Hp) : Prop := d = none ∨ ∃ (dd : Addr) (fs : List (Str × V)), d = some dd ∧ H dd = some (.xd fs)
theorem Dd.same {d : Option Addr} {H H' : Hp} (h : Dd d H) (e : Same H H') : Dd d H' := by
  rcases h with h | ⟨dd, fs, h1, h2⟩
  · exact .inl h
  · exact .inr ⟨dd, fs, h1, e _ _ h2⟩
def rIsD (K : PySem.W.Frag) (D a : Addr) (d : Option Addr) : List V → Hp → VK → Prop := fun xs H Q => ∃ (c : V) (cv : Value) (b : Bool), xs = [.ref a, c] ∧ (∀ u, RelV c u → u = cv) ∧ PySem.W.kitOne K (.ref D) cv = some b ∧ Dd d H ∧ Q (.bl b) H
theorem call_isD {X : Cx} {a D : Addr} {d : Option Addr} {oe : Obj} {pn : List (Addr × Obj)} (C : ExcC X.K D) (hz : Zc (.ref D) d oe) (hf : ∃ vs, oe.data = .fields vs) : CallR (X.suite a ((a, oe) :: pn)) (.builtin "isinstance") (rIsD X.K D a d) := by
  intro pins s σ H xs us Q I r h
  obtain ⟨c, cv, b, rfl, hcv, e, hd, q⟩ := h
  cases r with
  | cons rx rr =>
    cases rr with
    | cons rt rr =>
      cases rr
      cases rx
      have ec := hcv _ rt
      subst ec
      obtain ⟨hget, _⟩ := I.pin (a, oe) (List.mem_append.mpr (.inl List.mem_cons_self))
      obtain ⟨vs, hv⟩ := hf
      have hcl : (PySem.W.clsIn X.K D).isSome = true := by
        obtain ⟨cdD, hcD, _⟩ := PySem.W.any_some C.hd
        rw [hcD]
        rfl
      obtain ⟨od, J⟩ : ∃ od, PySem.W.InstAt s.heap a oe D od := by
        rcases hd with rfl | ⟨dd, fs, rfl, hdd⟩
        · refine ⟨none, hget, hz.1, by unfold PySem.W.notCls; rw [hv] <;> rfl, by rw [hz.2]; trivial⟩
        · have hx : ObjOk X.prog X.w H s.heap dd (.xd fs) := I.hok dd _ hdd
          obtain ⟨mA, hns, hr⟩ := hx
          obtain ⟨od, ho, hl⟩ := lookIn_ns hns
          exact ⟨some od, hget, hz.1, by unfold PySem.W.notCls; rw [hv] <;> rfl, by rw [hz.2]; exact ho⟩
      exact PySem.W.kia_one (PySem.W.kitx_exc hcl C.hg C.hk C.hs C.ha C.hn C.ht C.hm) I.kIn J e (fun z => nomatch z) fun tk => ⟨.bl b, H, I.kept (t' := tk) fun _ _ z => z, rfl, q⟩
theorem scError : FnScope ["_law_call", "e", "_law_kinds", "_law_names", "_law_name"] ["_law_call"] (defScope sError) := ⟨rfl, rfl, rfl, by decide +kernel, rfl, by decide +kernel, by decide +kernel⟩
theorem b_VE : bootBuiltins "ValueError" = some (.type "ValueError") := by decide +kernel
theorem pa_one {X : Cx} {e : Expr} {te : TE} (h : PE X e te) (hs : starEach [e] X.env = (false, eval e X.env) :: starEach [] X.env := by rfl) : PA X [e] (tCons te tNil) := pa_cons h pa_nil hs
theorem pe_never {X : Cx} {e : Expr} : PE X e (fun _ _ _ => False) := ⟨fun _ _ _ _ _ _ h => h.elim⟩
/-- the classes' names at the top -/
structure ErG (mg : Str → Option Value) (CS C0 C1 C2 C3 C4 C5 C6 C7 C8 C9 C10 C11 C12 C13 C14 : Addr) : Prop where
  gS : mg "ShelfError" = some (.ref CS)
  g0 : mg "InvalidPlan" = some (.ref C0)
  g1 : mg "InvalidState" = some (.ref C1)
  g2 : mg "InvalidCount" = some (.ref C2)
  g3 : mg "UnknownPlace" = some (.ref C3)
  g4 : mg "UnknownParcel" = some (.ref C4)
  g5 : mg "UnknownShelf" = some (.ref C5)
  g6 : mg "UnknownCarrier" = some (.ref C6)
  g7 : mg "InvalidEffect" = some (.ref C7)
  g8 : mg "DifferentSizes" = some (.ref C8)
  g9 : mg "InvalidParcels" = some (.ref C9)
  g10 : mg "Contradiction" = some (.ref C10)
  g11 : mg "InvalidArrangement" = some (.ref C11)
  g12 : mg "ShelfFull" = some (.ref C12)
  g13 : mg "ParcelCarried" = some (.ref C13)
  g14 : mg "InvalidSwap" = some (.ref C14)
  gV : mg "ValueError" = none
def kl (b0 b1 b2 b3 b4 b5 b6 b7 b8 b9 b10 b11 b12 b13 b14 : Bool) : List V := [.bl b0, .bl b1, .bl b2, .bl b3, .bl b4, .bl b5, .bl b6, .bl b7, .bl b8, .bl b9, .bl b10, .bl b11, .bl b12, .bl b13, .bl b14]
def nmL : List V := [.str "plan", .str "state", .str "count", .str "place", .str "parcel", .str "shelf", .str "carrier", .str "effect", .str "sizes", .str "parcels", .str "contradiction", .str "arrangement", .str "full", .str "carried", .str "swap"]
/-- how the class D answers, and its name -/
structure ErK (K : PySem.W.Frag) (CS C0 C1 C2 C3 C4 C5 C6 C7 C8 C9 C10 C11 C12 C13 C14 D : Addr) (nm : Str) (b0 b1 b2 b3 b4 b5 b6 b7 b8 b9 b10 b11 b12 b13 b14 : Bool) (j : Nat) : Prop where
  exc : ExcC K D
  ex : PySem.W.exmOne K (.ref D) (.ref CS) = some true
  ve : PySem.W.kitOne K (.ref D) (.type "ValueError") = some true
  k0 : PySem.W.kitOne K (.ref D) (.ref C0) = some b0
  k1 : PySem.W.kitOne K (.ref D) (.ref C1) = some b1
  k2 : PySem.W.kitOne K (.ref D) (.ref C2) = some b2
  k3 : PySem.W.kitOne K (.ref D) (.ref C3) = some b3
  k4 : PySem.W.kitOne K (.ref D) (.ref C4) = some b4
  k5 : PySem.W.kitOne K (.ref D) (.ref C5) = some b5
  k6 : PySem.W.kitOne K (.ref D) (.ref C6) = some b6
  k7 : PySem.W.kitOne K (.ref D) (.ref C7) = some b7
  k8 : PySem.W.kitOne K (.ref D) (.ref C8) = some b8
  k9 : PySem.W.kitOne K (.ref D) (.ref C9) = some b9
  k10 : PySem.W.kitOne K (.ref D) (.ref C10) = some b10
  k11 : PySem.W.kitOne K (.ref D) (.ref C11) = some b11
  k12 : PySem.W.kitOne K (.ref D) (.ref C12) = some b12
  k13 : PySem.W.kitOne K (.ref D) (.ref C13) = some b13
  k14 : PySem.W.kitOne K (.ref D) (.ref C14) = some b14
  cnt : ((kl b0 b1 b2 b3 b4 b5 b6 b7 b8 b9 b10 b11 b12 b13 b14).countP fun z => eqV z (.bl true)) = 1
  at_ : (kl b0 b1 b2 b3 b4 b5 b6 b7 b8 b9 b10 b11 b12 b13 b14)[j]? = some (.bl true)
  be : ∀ (m : Nat) (z : V), m < j → (kl b0 b1 b2 b3 b4 b5 b6 b7 b8 b9 b10 b11 b12 b13 b14)[m]? = some z → eqV z (.bl true) = false
  tag : nmL[j]? = some (.str nm)
def NewS (H : Hp) (t : List V) (Q : VK) : Prop := ∀ H' p, Same H H' → H p = none → H' p = some (.tup t) → Q (.ref p) H'
theorem NewS.imp {H H1 : Hp} {t : List V} {Q : VK} (h : NewS H t Q) (e : Same H H1) : NewS H1 t Q := fun H' p sm hp hq => h H' p (e.trans sm) (Same.free e hp) hq
/-- what is wanted of the errors and of the value -/
def ErrE (K : PySem.W.Frag) (CS C0 C1 C2 C3 C4 C5 C6 C7 C8 C9 C10 C11 C12 C13 C14 : Addr) (Q : VK) : XK := fun cls d H' => ∃ (D : Addr) (nm : Str) (b0 b1 b2 b3 b4 b5 b6 b7 b8 b9 b10 b11 b12 b13 b14 : Bool) (j : Nat), cls = .ref D ∧ Dd d H' ∧ ErK K CS C0 C1 C2 C3 C4 C5 C6 C7 C8 C9 C10 C11 C12 C13 C14 D nm b0 b1 b2 b3 b4 b5 b6 b7 b8 b9 b10 b11 b12 b13 b14 j ∧
  ((nm ≠ "plan" ∧ nm ≠ "swap" ∧ NewS H' [.str nm] Q) ∨ (nm = "plan" ∧ D = C0 ∧ ∃ (dd : Addr) (fs : List (Str × V)) (x y : V), d = some dd ∧ H' dd = some (.xd fs) ∧ fs.lookup ("part" : Str) = some x ∧ fs.lookup ("index" : Str) = some y ∧ NewS H' [.str "plan", x, y] Q))
def OkQ (Q : VK) : VK := fun _ H' => NewS H' [.str "none"] Q
def KnErr (P : Program) (w : World) (K : PySem.W.Frag) (mg : Str → Option Value) (base : Heap) (k : Nat) (CS C0 C1 C2 C3 C4 C5 C6 C7 C8 C9 C10 C11 C12 C13 C14 : Addr) : List Addr → Shared → Hp → V → VK → Prop := fun fs s H v Q =>
  ∃ (f : Addr) (L : LF) (fr : List Str) (dvs : List V) (ws : List (Option V)) (tl : List (Option V) → XK → Hp → VK → Prop), v = .ref f ∧ LamAt P w K mg base k fs s H f L fr dvs ws tl ∧ tl ws (ErrE K CS C0 C1 C2 C3 C4 C5 C6 C7 C8 C9 C10 C11 C12 C13 C14 Q) H (OkQ Q)
section
variable {P : Program} {w : World} {K : PySem.W.Frag} {mg : Str → Option Value} {base : Heap}
theorem lst_same {H H' : Hp} {D : Addr} {xs : List V} {o : HO} (sm : Same H H') (hD : H D = none) : Same H (upd H' D o) := same_of sm hD
theorem ok_error {CS C0 C1 C2 C3 C4 C5 C6 C7 C8 C9 C10 C11 C12 C13 C14 : Addr} {f : Addr} {fd : FuncData} {k : Nat} (F : Df K mg "_law_error" sError ["_law_call"] f fd) (B : Bt mg) (G : ErG mg CS C0 C1 C2 C3 C4 C5 C6 C7 C8 C9 C10 C11 C12 C13 C14) (XF : XfC K C0) (xp : PySem.W.findIn K (.ref C0) "part" = some none) (xi : PySem.W.findIn K (.ref C0) "index" = some none) : FnSt P w K mg base (k + 1) f (KnErr P w K mg base k CS C0 C1 C2 C3 C4 C5 C6 C7 C8 C9 C10 C11 C12 C13 C14) := by
  refine fnst_of F.F scError F.b fun cdv A outer s H v Q hr e0 hK => ?_
  obtain ⟨fl, L, fr, dvs, ws, tl, rfl, LA, ht⟩ := hK
  refine ⟨_, pss_cons (ps_try_as (i := 1) (n := "e") (Wout := fun _ _ _ _ => False)
      (tb := fun W D σ H1 => σ[0]? = some (some (.ref fl)) ∧ H1 fl = some (LamO fl L) ∧ H1 L.c = some (CodeO L.c L.qual) ∧ DflAt H1 L.dV dvs ∧ ∃ (E' : XK) (Q' : VK), (∀ cls d H', E' cls d H' → W cls d σ H') ∧ (∀ v H', Q' v H' → D.nx σ H') ∧ tl ws E' H1 Q')
      (ts := fun a cls d D σ H1 => (∃ x0, σ = [some x0, some (.ref a), none, none, none]) ∧ ErrE K CS C0 C1 C2 C3 C4 C5 C6 C7 C8 C9 C10 C11 C12 C13 C14 D.rt cls d H1)
      rfl rfl scError.nd rfl rfl ⟨rfl, by decide, .inl G.gS⟩ L2.takes0 (fun W pn xe tk _ => ⟨fun pins s1 σ H1 D I h => ?_⟩) (fun a oe cls d pn hz hf => ⟨fun pins s1 σ H1 D I h => ?_⟩))
    (pss_one (ps_ret (pe_tup (pa_cons pe_str pa_nil)))), ?_⟩
  · -- the call
    refine (pss_one (ps_expr (pe_actL (CXg := CX0) (Eg := E0) (Ng := ["_law_call", "e", "_law_kinds", "_law_names", "_law_name"]) (qg := "_law_error") (sg := defScope sError) (g := f) (cdg := cdv) (pn := pn) (xe := xe) (i := 0) LA tk hr rfl (.inl rfl)))).run pins s1 σ H1 D I ?_
    obtain ⟨h1, h2, h3, h4, E', Q', h5, h6, h7⟩ := h
    exact ⟨h1, h2, h3, h4, E', Q', h5, h6, h7⟩
  · -- the suite
    obtain ⟨⟨x0, rfl⟩, D0, nm, b0, b1, b2, b3, b4, b5, b6, b7, b8, b9, b10, b11, b12, b13, b14, j, rfl, hDd, R, hQ⟩ := h
    refine (pss_cons (ps_set (i := 2) scError.nd rfl (Or.inl rfl) (pe_lst (pa_cons (pe_callB (call_isD R.exc hz hf) (by rfl) B.isinstance b_isinstance (pa_cons (pv 1) (pa_cons (pe_glob (v := .ref C0) (by rfl) G.g0 rfl) pa_nil))) (pa_cons (pe_callB (call_isD R.exc hz hf) (by rfl) B.isinstance b_isinstance (pa_cons (pv 1) (pa_cons (pe_glob (v := .ref C1) (by rfl) G.g1 rfl) pa_nil))) (pa_cons (pe_callB (call_isD R.exc hz hf) (by rfl) B.isinstance b_isinstance (pa_cons (pv 1) (pa_cons (pe_glob (v := .ref C2) (by rfl) G.g2 rfl) pa_nil))) pa_nil)))))
      (pss_cons (ps_expr (pe_bm PySem.F.plainAttrs_list PySem.F.slot_list_extend PySem.F.type_list_extend mt_extend (pv 2) <| pa_one (pe_lst (pa_cons (pe_callB (call_isD R.exc hz hf) (by rfl) B.isinstance b_isinstance (pa_cons (pv 1) (pa_cons (pe_glob (v := .ref C3) (by rfl) G.g3 rfl) pa_nil))) (pa_cons (pe_callB (call_isD R.exc hz hf) (by rfl) B.isinstance b_isinstance (pa_cons (pv 1) (pa_cons (pe_glob (v := .ref C4) (by rfl) G.g4 rfl) pa_nil))) (pa_cons (pe_callB (call_isD R.exc hz hf) (by rfl) B.isinstance b_isinstance (pa_cons (pv 1) (pa_cons (pe_glob (v := .ref C5) (by rfl) G.g5 rfl) pa_nil))) pa_nil))))))
      (pss_cons (ps_expr (pe_bm PySem.F.plainAttrs_list PySem.F.slot_list_extend PySem.F.type_list_extend mt_extend (pv 2) <| pa_one (pe_lst (pa_cons (pe_callB (call_isD R.exc hz hf) (by rfl) B.isinstance b_isinstance (pa_cons (pv 1) (pa_cons (pe_glob (v := .ref C6) (by rfl) G.g6 rfl) pa_nil))) (pa_cons (pe_callB (call_isD R.exc hz hf) (by rfl) B.isinstance b_isinstance (pa_cons (pv 1) (pa_cons (pe_glob (v := .ref C7) (by rfl) G.g7 rfl) pa_nil))) (pa_cons (pe_callB (call_isD R.exc hz hf) (by rfl) B.isinstance b_isinstance (pa_cons (pv 1) (pa_cons (pe_glob (v := .ref C8) (by rfl) G.g8 rfl) pa_nil))) pa_nil))))))
      (pss_cons (ps_expr (pe_bm PySem.F.plainAttrs_list PySem.F.slot_list_extend PySem.F.type_list_extend mt_extend (pv 2) <| pa_one (pe_lst (pa_cons (pe_callB (call_isD R.exc hz hf) (by rfl) B.isinstance b_isinstance (pa_cons (pv 1) (pa_cons (pe_glob (v := .ref C9) (by rfl) G.g9 rfl) pa_nil))) (pa_cons (pe_callB (call_isD R.exc hz hf) (by rfl) B.isinstance b_isinstance (pa_cons (pv 1) (pa_cons (pe_glob (v := .ref C10) (by rfl) G.g10 rfl) pa_nil))) pa_nil)))))
      (pss_cons (ps_expr (pe_bm PySem.F.plainAttrs_list PySem.F.slot_list_extend PySem.F.type_list_extend mt_extend (pv 2) <| pa_one (pe_lst (pa_cons (pe_callB (call_isD R.exc hz hf) (by rfl) B.isinstance b_isinstance (pa_cons (pv 1) (pa_cons (pe_glob (v := .ref C11) (by rfl) G.g11 rfl) pa_nil))) (pa_cons (pe_callB (call_isD R.exc hz hf) (by rfl) B.isinstance b_isinstance (pa_cons (pv 1) (pa_cons (pe_glob (v := .ref C12) (by rfl) G.g12 rfl) pa_nil))) (pa_cons (pe_callB (call_isD R.exc hz hf) (by rfl) B.isinstance b_isinstance (pa_cons (pv 1) (pa_cons (pe_glob (v := .ref C13) (by rfl) G.g13 rfl) pa_nil))) pa_nil))))))
      (pss_cons (ps_expr (pe_bm PySem.F.plainAttrs_list PySem.F.slot_list_append PySem.F.type_list_append mt_append (pv 2) (pa_cons (pe_callB (call_isD R.exc hz hf) (by rfl) B.isinstance b_isinstance (pa_cons (pv 1) (pa_cons (pe_glob (v := .ref C14) (by rfl) G.g14 rfl) pa_nil))) pa_nil)))
      (pss_cons (ps_if (pw_or (pt_cmpR op_ne (pe_bm PySem.F.plainAttrs_list PySem.F.slot_list_count PySem.F.type_list_count mt_countV (pv 2) (pa_cons pe_bl pa_nil)) pe_int (nomark _))
          (pw_or1 (pt_not (pt_val (pe_callB (call_isD R.exc hz hf) (by rfl) B.isinstance b_isinstance (pa_cons (pv 1) (pa_cons (pe_ty (by rfl) G.gV b_VE) pa_nil))))))).pt pss_never pss_nil)
      (pss_cons (ps_set (i := 3) scError.nd rfl (Or.inl rfl) (pe_lst (pa_cons pe_str (pa_cons pe_str (pa_cons pe_str (pa_cons pe_str (pa_cons pe_str (pa_cons pe_str (pa_cons pe_str (pa_cons pe_str (pa_cons pe_str (pa_cons pe_str pa_nil))))))))))))
      (pss_cons (ps_set (i := 4) scError.nd rfl (Or.inl rfl) (pe_ix ix_list (pe_op op_cat (pv 3) (pe_lst (pa_cons pe_str (pa_cons pe_str (pa_cons pe_str (pa_cons pe_str (pa_cons pe_str pa_nil))))))) (pe_bm PySem.F.plainAttrs_list PySem.F.slot_list_index PySem.F.type_list_index mt_index (pv 2) (pa_cons pe_bl pa_nil)) (fun _ _ => rfl)))
      (pss_cons (ps_if (pt_cmpR op_eq (pv 4) pe_str (nomark _)) (pss_one (ps_ret (pe_tup (pa_cons (pv 4) (pa_cons (pe_xf XF xp hz hf (pv 1)) (pa_cons (pe_xf XF xi hz hf (pv 1)) pa_nil)))))) pss_nil)
      (pss_one (ps_ret (pe_ifExp (pt_cmpR op_eq (pv 4) pe_str (nomark _)) pe_never (pe_tup (pa_cons (pv 4) pa_nil))))))))))))))).run pins s1 _ H1 D I ?_
    refine ⟨.ref a, rfl, .ref C0, .ref C0, b0, rfl, fun u h => h, R.k0, hDd, .ref a, rfl, .ref C1, .ref C1, b1, rfl, fun u h => h, R.k1, hDd, .ref a, rfl, .ref C2, .ref C2, b2, rfl, fun u h => h, R.k2, hDd, (by show 3 ≤ sizeLine; decide), fun p hp => ?_⟩
    obtain ⟨H2, eH2⟩ : ∃ H', H' = upd H1 p (.lst [.bl b0, .bl b1, .bl b2]) := ⟨_, rfl⟩
    have sm2 : Same H1 H2 := by rw [eH2]; exact same_upd hp
    have hk2 : H2 p = some (.lst [.bl b0, .bl b1, .bl b2]) := by rw [eH2]; exact upd_same
    rw [← eH2]
    -- extend
    refine ⟨.ref p, rfl, .inl ⟨rfl, _, .inl (.inl hk2)⟩, .ref a, rfl, .ref C3, .ref C3, b3, rfl, fun u h => h, R.k3, (hDd.same sm2), .ref a, rfl, .ref C4, .ref C4, b4, rfl, fun u h => h, R.k4, (hDd.same sm2), .ref a, rfl, .ref C5, .ref C5, b5, rfl, fun u h => h, R.k5, (hDd.same sm2), (by show 3 ≤ sizeLine; decide), fun q2 hq2 => ?_⟩
    have pq2 : p ≠ q2 := ne_of_none hk2 hq2
    refine ⟨p, q2, _, _, rfl, rfl, by rw [upd_ne pq2]; exact hk2, upd_same, (by show 3 + 3 ≤ sizeLine; decide), ?_⟩
    obtain ⟨H3, eH3⟩ : ∃ H', H' = upd (upd H2 q2 (.lst [.bl b3, .bl b4, .bl b5])) p (.lst ([.bl b0, .bl b1, .bl b2] ++ [.bl b3, .bl b4, .bl b5])) := ⟨_, rfl⟩
    have sm3 : Same H1 H3 := by rw [eH3]; exact same_of (same_of sm2 (Same.free sm2 hq2)) hp
    have hk3 : H3 p = some (.lst [.bl b0, .bl b1, .bl b2, .bl b3, .bl b4, .bl b5]) := by rw [eH3]; exact upd_same
    rw [← eH3]
    -- extend
    refine ⟨.ref p, rfl, .inl ⟨rfl, _, .inl (.inl hk3)⟩, .ref a, rfl, .ref C6, .ref C6, b6, rfl, fun u h => h, R.k6, (hDd.same sm3), .ref a, rfl, .ref C7, .ref C7, b7, rfl, fun u h => h, R.k7, (hDd.same sm3), .ref a, rfl, .ref C8, .ref C8, b8, rfl, fun u h => h, R.k8, (hDd.same sm3), (by show 3 ≤ sizeLine; decide), fun q3 hq3 => ?_⟩
    have pq3 : p ≠ q3 := ne_of_none hk3 hq3
    refine ⟨p, q3, _, _, rfl, rfl, by rw [upd_ne pq3]; exact hk3, upd_same, (by show 6 + 3 ≤ sizeLine; decide), ?_⟩
    obtain ⟨H4, eH4⟩ : ∃ H', H' = upd (upd H3 q3 (.lst [.bl b6, .bl b7, .bl b8])) p (.lst ([.bl b0, .bl b1, .bl b2, .bl b3, .bl b4, .bl b5] ++ [.bl b6, .bl b7, .bl b8])) := ⟨_, rfl⟩
    have sm4 : Same H1 H4 := by rw [eH4]; exact same_of (same_of sm3 (Same.free sm3 hq3)) hp
    have hk4 : H4 p = some (.lst [.bl b0, .bl b1, .bl b2, .bl b3, .bl b4, .bl b5, .bl b6, .bl b7, .bl b8]) := by rw [eH4]; exact upd_same
    rw [← eH4]
    -- extend
    refine ⟨.ref p, rfl, .inl ⟨rfl, _, .inl (.inl hk4)⟩, .ref a, rfl, .ref C9, .ref C9, b9, rfl, fun u h => h, R.k9, (hDd.same sm4), .ref a, rfl, .ref C10, .ref C10, b10, rfl, fun u h => h, R.k10, (hDd.same sm4), (by show 2 ≤ sizeLine; decide), fun q4 hq4 => ?_⟩
    have pq4 : p ≠ q4 := ne_of_none hk4 hq4
    refine ⟨p, q4, _, _, rfl, rfl, by rw [upd_ne pq4]; exact hk4, upd_same, (by show 9 + 2 ≤ sizeLine; decide), ?_⟩
    obtain ⟨H5, eH5⟩ : ∃ H', H' = upd (upd H4 q4 (.lst [.bl b9, .bl b10])) p (.lst ([.bl b0, .bl b1, .bl b2, .bl b3, .bl b4, .bl b5, .bl b6, .bl b7, .bl b8] ++ [.bl b9, .bl b10])) := ⟨_, rfl⟩
    have sm5 : Same H1 H5 := by rw [eH5]; exact same_of (same_of sm4 (Same.free sm4 hq4)) hp
    have hk5 : H5 p = some (.lst [.bl b0, .bl b1, .bl b2, .bl b3, .bl b4, .bl b5, .bl b6, .bl b7, .bl b8, .bl b9, .bl b10]) := by rw [eH5]; exact upd_same
    rw [← eH5]
    -- extend
    refine ⟨.ref p, rfl, .inl ⟨rfl, _, .inl (.inl hk5)⟩, .ref a, rfl, .ref C11, .ref C11, b11, rfl, fun u h => h, R.k11, (hDd.same sm5), .ref a, rfl, .ref C12, .ref C12, b12, rfl, fun u h => h, R.k12, (hDd.same sm5), .ref a, rfl, .ref C13, .ref C13, b13, rfl, fun u h => h, R.k13, (hDd.same sm5), (by show 3 ≤ sizeLine; decide), fun q5 hq5 => ?_⟩
    have pq5 : p ≠ q5 := ne_of_none hk5 hq5
    refine ⟨p, q5, _, _, rfl, rfl, by rw [upd_ne pq5]; exact hk5, upd_same, (by show 11 + 3 ≤ sizeLine; decide), ?_⟩
    obtain ⟨H6, eH6⟩ : ∃ H', H' = upd (upd H5 q5 (.lst [.bl b11, .bl b12, .bl b13])) p (.lst ([.bl b0, .bl b1, .bl b2, .bl b3, .bl b4, .bl b5, .bl b6, .bl b7, .bl b8, .bl b9, .bl b10] ++ [.bl b11, .bl b12, .bl b13])) := ⟨_, rfl⟩
    have sm6 : Same H1 H6 := by rw [eH6]; exact same_of (same_of sm5 (Same.free sm5 hq5)) hp
    have hk6 : H6 p = some (.lst [.bl b0, .bl b1, .bl b2, .bl b3, .bl b4, .bl b5, .bl b6, .bl b7, .bl b8, .bl b9, .bl b10, .bl b11, .bl b12, .bl b13]) := by rw [eH6]; exact upd_same
    rw [← eH6]
    -- append
    refine ⟨.ref p, rfl, .inl ⟨rfl, _, .inl (.inl hk6)⟩, .ref a, rfl, .ref C14, .ref C14, b14, rfl, fun u h => h, R.k14, (hDd.same sm6), p, _, _, rfl, rfl, hk6, (by show 14 < sizeLine; decide), ?_⟩
    obtain ⟨H7, eH7⟩ : ∃ H', H' = upd H6 p (.lst ([.bl b0, .bl b1, .bl b2, .bl b3, .bl b4, .bl b5, .bl b6, .bl b7, .bl b8, .bl b9, .bl b10, .bl b11, .bl b12, .bl b13] ++ [.bl b14])) := ⟨_, rfl⟩
    have sm7 : Same H1 H7 := by rw [eH7]; exact same_of sm6 hp
    have hk7 : H7 p = some (.lst (kl b0 b1 b2 b3 b4 b5 b6 b7 b8 b9 b10 b11 b12 b13 b14)) := by rw [eH7]; exact upd_same
    rw [← eH7]
    -- the count
    refine ⟨.ref p, rfl, .inl ⟨rfl, _, .inl (.inl hk7)⟩, p, kl b0 b1 b2 b3 b4 b5 b6 b7 b8 b9 b10 b11 b12 b13 b14, .bl true, rfl, rfl, .inl (.inl hk7), rfl, rfl, rfl, _, rfl, ?_⟩
    rw [R.cnt]
    refine iteF ⟨.ref a, rfl, .ty "ValueError", .type "ValueError", true, rfl, fun u h => h, R.ve, (hDd.same sm7), true, rfl, iteF ?_⟩
    -- the names
    refine ⟨(by show 10 ≤ sizeLine; decide), fun q hq => ?_⟩
    refine ⟨.ref q, rfl, (by show 5 ≤ sizeLine; decide), fun r hr2 => ?_⟩
    have qr : q ≠ r := ne_of_none upd_same hr2
    refine ⟨q, r, _, _, rfl, rfl, by rw [upd_ne qr]; exact upd_same, upd_same, (by show 10 + 5 ≤ sizeLine; decide), fun u hu => ?_⟩
    obtain ⟨H8, eH8⟩ : ∃ H', H' = upd (upd (upd H7 q (.lst [V.str "plan", V.str "state", V.str "count", V.str "place", V.str "parcel", V.str "shelf", V.str "carrier", V.str "effect", V.str "sizes", V.str "parcels"])) r (.lst [V.str "contradiction", V.str "arrangement", V.str "full", V.str "carried", V.str "swap"])) u (.lst ([V.str "plan", V.str "state", V.str "count", V.str "place", V.str "parcel", V.str "shelf", V.str "carrier", V.str "effect", V.str "sizes", V.str "parcels"] ++ [V.str "contradiction", V.str "arrangement", V.str "full", V.str "carried", V.str "swap"])) := ⟨_, rfl⟩
    have sm8' : Same H7 H8 := by rw [eH8]; exact same_of (same_of (same_upd hq) (Same.free (same_upd hq) hr2)) (Same.free (same_of (same_upd hq) (Same.free (same_upd hq) hr2)) hu)
    have sm8 : Same H1 H8 := sm7.trans sm8'
    have hu8 : H8 u = some (.lst nmL) := by rw [eH8]; exact upd_same
    have hk8 := sm8' _ _ hk7
    rw [← eH8]
    refine ⟨.ref p, rfl, .inl ⟨rfl, _, .inl (.inl hk8)⟩, p, kl b0 b1 b2 b3 b4 b5 b6 b7 b8 b9 b10 b11 b12 b13 b14, .bl true, j, .bl true, rfl, rfl, .inl (.inl hk8), rfl, rfl, R.at_, rfl, R.be, u, nmL, (j : Nat), .str nm, rfl, rfl, .inl (.inl hu8), atI_nat R.tag, ?_⟩
    rcases hQ with ⟨n1, n2, hQ⟩ | ⟨n1, rfl, dd, fs, x, y, rfl, hx, lp, li, hQ⟩
    · refine ⟨.str nm, rfl, rfl, _, rfl, ?_⟩
      rw [decide_eq_false fun z => n1 (V.str.inj z)]
      refine iteF ⟨.str nm, rfl, rfl, _, rfl, ?_⟩
      rw [decide_eq_false fun z => n2 (V.str.inj z)]
      exact iteF ⟨.str nm, rfl, (by show 1 ≤ sizeLine; decide), fun t ht => hQ _ t (same_of sm8 (Same.free sm8 ht)) (Same.free sm8 ht) upd_same⟩
    · subst n1
      refine ⟨.str "plan", rfl, rfl, _, rfl, ?_⟩
      rw [decide_eq_true rfl]
      refine iteT ⟨.str "plan", rfl, .ref a, rfl, rfl, rfl, dd, fs, x, rfl, sm8 _ _ hx, lp, .ref a, rfl, rfl, rfl, dd, fs, y, rfl, sm8 _ _ hx, li, (by show 3 ≤ sizeLine; decide), fun t ht => hQ _ t (same_of sm8 (Same.free sm8 ht)) (Same.free sm8 ht) upd_same⟩
  · refine ⟨rfl, LA.fn, LA.code, LA.dfl, _, _, fun cls d H' h => ?_, fun v H' h => ?_, ht⟩
    · obtain ⟨D0, nm, b0, b1, b2, b3, b4, b5, b6, b7, b8, b9, b10, b11, b12, b13, b14, j, rfl, hd, R, hq⟩ := h
      exact ⟨true, R.ex, fun _ a _ => ⟨⟨_, rfl⟩, D0, nm, b0, b1, b2, b3, b4, b5, b6, b7, b8, b9, b10, b11, b12, b13, b14, j, rfl, hd, R, hq⟩, fun z => by cases z⟩
    · exact ⟨(by show 1 ≤ sizeLine; decide), fun t ht2 => h _ t (same_upd ht2) ht2 upd_same⟩
end
end Sv

set_option maxHeartbeats 8000000
namespace Sv
open PySem PySem.Spec PyProof.Rows L2
@[irreducible] def qNext : Sp := spNext
theorem go_next {H : Hp} {h l : Addr} {lim : Int} {Q : VK} {E : XK} (LH : LawH H h l) (p1 : 0 < lim) (p2 : lim < 2 ^ 64) (q : ∀ (r : Nat) H', (r : Int) < lim → LawH H' h l → SameX h l H H' → Q (.int (r : Nat)) H') : qNext [.ref h, .int lim] H Q E := by
  unfold qNext
  exact ⟨h, l, lim, rfl, LH, p1, p2, fun r H' r0 r1 L k => by
    obtain ⟨n, rfl⟩ : ∃ n : Nat, r = (n : Int) := ⟨r.toNat, (Int.toNat_of_nonneg r0).symm⟩
    exact q n H' r1 L k⟩
/-- h and l stand, what was tracked but them is kept, and x is kept, too -/
structure St (h l : Addr) (H H' : Hp) : Prop where
  law : LawH H' h l
  k : SameX h l H H'
theorem St.next {h l : Addr} {H H1 H2 : Hp} (a : St h l H H1) (L : LawH H2 h l) (x : SameX h l H1 H2) : St h l H H2 := ⟨L, a.k.trans x⟩
theorem St.same {h l : Addr} {H H1 H2 : Hp} (a : St h l H H1) (e : Same H1 H2) : St h l H H2 := ⟨a.law.same e, fun b o h1 h2 q => e b o (a.k b o h1 h2 q)⟩
theorem LawH.nh {H : Hp} {h l f : Addr} (x : LawH H h l) (hf : H f = none) : f ≠ h ∧ f ≠ l := by
  obtain ⟨m, i, cs, e1, e2, _⟩ := x.ex
  exact ⟨(ne_of_none e1 hf).symm, (ne_of_none e2 hf).symm⟩
theorem LawH.upd {H : Hp} {h l f : Addr} {o : HO} (x : LawH H h l) (h1 : f ≠ h) (h2 : f ≠ l) : LawH (L2.upd H f o) h l := by
  obtain ⟨m, i, cs, e1, e2, e3⟩ := x.ex
  exact ⟨m, i, cs, by rw [upd_ne (Ne.symm h1)]; exact e1, by rw [upd_ne (Ne.symm h2)]; exact e2, e3⟩
theorem St.upd {h l f : Addr} {H H1 : Hp} {o : HO} (a : St h l H H1) (hf : H f = none) (h1 : f ≠ h) (h2 : f ≠ l) : St h l H (L2.upd H1 f o) := by
  refine ⟨a.law.upd h1 h2, fun b u b1 b2 q => ?_⟩
  rw [upd_ne (ne_of_none q hf)]
  exact a.k b u b1 b2 q
theorem St.none {h l f : Addr} {H H1 : Hp} (a : St h l H H1) (hf : H1 f = Option.none) : H f = Option.none := by
  cases q : H f with
  | none => rfl
  | some o =>
    obtain ⟨n1, n2⟩ := a.law.nh hf
    rw [a.k f o n1 n2 q] at hf
    cases hf
theorem St.trans {h l : Addr} {H H1 H2 : Hp} (a : St h l H H1) (b : St h l H1 H2) : St h l H H2 := ⟨b.law, a.k.trans b.k⟩
theorem St.refl {h l : Addr} {H : Hp} (x : LawH H h l) : St h l H H := ⟨x, fun _ _ _ _ q => q⟩
theorem sqT_x {K : PySem.W.Frag} {H H1 : Hp} {h l a : Addr} {xs : List V} (L : LawH H h l) (e : SameX h l H H1) (s : SqT K H a xs) : SqT K H1 a xs := by
  obtain ⟨m, i, cs, e1, e2, _⟩ := L.ex
  rcases s with (s | ⟨o, s⟩) | s
  · exact .inl (.inl (e _ _ (fun z => by rw [z, e1] at s; cases s) (fun z => by rw [z, e2] at s; cases s) s))
  · exact .inl (.inr ⟨o, e _ _ (fun z => by rw [z, e1] at s; cases s) (fun z => by rw [z, e2] at s; cases s) s⟩)
  · exact .inr s
theorem paired_x {K : PySem.W.Frag} {H H' : Hp} {h l : Addr} (L : LawH H h l) (e : SameX h l H H') : ∀ {qs : List Addr} {rs : List Ro}, Paired (fun q r => SqT K H q (rV r)) qs rs → Paired (fun q r => SqT K H' q (rV r)) qs rs
  | _, _, .nil => .nil
  | _, _, .cons h t => .cons (sqT_x L e h) (paired_x L e t)
theorem RtAt.x {K : PySem.W.Frag} {H H' : Hp} {h l b : Addr} {rs : List Ro} (x : RtAt K H b rs) (L : LawH H h l) (e : SameX h l H H') : RtAt K H' b rs := by
  obtain ⟨qs, h1, h2⟩ := x.ex
  exact ⟨qs, sqT_x L e h1, paired_x L e h2⟩
theorem PlanAt.x {K : PySem.W.Frag} {H H' : Hp} {h l p : Addr} {zs : List Int} {rs : List Ro} (x : PlanAt K H p zs rs) (L : LawH H h l) (e : SameX h l H H') : PlanAt K H' p zs rs := by
  obtain ⟨a, b, h1, h2, h3⟩ := x.ex
  exact ⟨a, b, sqT_x L e h1, sqT_x L e h2, h3.x L e⟩
theorem paired_imp {K : PySem.W.Frag} {H H' : Hp} (e : ∀ a xs, SqT K H a xs → SqT K H' a xs) : ∀ {qs : List Addr} {rs : List Ro}, Paired (fun q r => SqT K H q (rV r)) qs rs → Paired (fun q r => SqT K H' q (rV r)) qs rs
  | _, _, .nil => .nil
  | _, _, .cons h t => .cons (e _ _ h) (paired_imp e t)
theorem paired_snoc {K : PySem.W.Frag} {H : Hp} {q : Addr} {r : Ro} (h : SqT K H q (rV r)) : ∀ {qs : List Addr} {rs : List Ro}, Paired (fun q r => SqT K H q (rV r)) qs rs → Paired (fun q r => SqT K H q (rV r)) (qs ++ [q]) (rs ++ [r])
  | _, _, .nil => .cons h .nil
  | _, _, .cons g t => .cons g (paired_snoc h t)
theorem sqT_lst {K : PySem.W.Frag} {H : Hp} {f a : Addr} {xs ys : List V} {o : HO} (hf : H f = some (.lst ys)) (s : SqT K H a xs) : SqT K (upd H f o) a xs := by
  rcases s with (s | ⟨u, s⟩) | s
  · exact .inl (.inl (by rw [upd_ne (fun z => by rw [z, hf] at s; cases s)]; exact s))
  · exact .inl (.inr ⟨u, by rw [upd_ne (fun z => by rw [z, hf] at s; cases s)]; exact s⟩)
  · exact .inr s
section
variable {P : Program} {w : World} {K : PySem.W.Frag} {mg : Str → Option Value} {base : Heap}
def nPla : List Str := ["_law_h", "_law_shelves", "_law_carriers", "_law_sizes", "_law_shelf", "_law_routes", "_law_carrier", "_law_entries", "_law_k"]
theorem scPlan : FnScope nPla ["_law_h", "_law_shelves", "_law_carriers"] (defScope sPlan) := ⟨rfl, rfl, rfl, by decide +kernel, rfl, by decide +kernel, by decide +kernel⟩
/-- a valid plan, its entries too -/
structure Good2 (zs : List Int) (rs : List Ro) : Prop where
  z1 : 1 ≤ zs.length ∧ zs.length ≤ 12
  z2 : ∀ z ∈ zs, 0 ≤ z ∧ z ≤ 9
  r1 : 1 ≤ rs.length ∧ rs.length ≤ 6
  r2 : ∀ r ∈ rs, 1 ≤ r.length ∧ r.length ≤ 6
def spPlan (K : PySem.W.Frag) : Sp := fun vs H Q _ => ∃ (h l : Addr), vs = [.ref h, .int 12, .int 6] ∧ LawH H h l ∧ ∀ H' p zs rs, St h l H H' → PlanAt K H' p zs rs → Good2 zs rs → Q (.ref p) H'
theorem ok_plan {f fN : Addr} {fd dN : FuncData} (F : Df K mg "_law_plan" sPlan ["_law_h", "_law_shelves", "_law_carriers"] f fd) (FN : Df K mg "_law_next" sNext ["_law_h", "_law_limit"] fN dN) (B : Bt mg) : FnOk P w K mg base CX0 2 f fd ["_law_h", "_law_shelves", "_law_carriers"] (spPlan K) := by
  have GN : FnOk P w K mg base CX0 1 fN dN ["_law_h", "_law_limit"] qNext := by unfold qNext; exact ok_next FN.F B
  refine F.F.ok scPlan (fun vs H Q E h => ?_) (fun cdv A outer s H vs Q E hr h => ?_)
  · obtain ⟨h, l, rfl, _⟩ := h
    rfl
  · obtain ⟨h, l, rfl, LH, q⟩ := h
    refine ⟨_, pss_cons (ps_set (i := 3) scPlan.nd rfl (Or.inl rfl) (pe_lst pa_nil))
      (pss_cons (ps_for PassesOwn.never rfl (pi_range1 (by rfl) B.range (pa_cons (pe_op op_add pe_int (pe_call (E := E0) GN hr (by rfl) FN.g FN.F.kp FN.b .nil pass0 (pa_cons (pv 0) (pa_cons (pv 1) pa_nil)))) pa_nil)) (pg_name (i := 4) scPlan.nd rfl (Or.inl rfl))
        (pss_one (ps_expr (pe_bm PySem.F.plainAttrs_list PySem.F.slot_list_append PySem.F.type_list_append mt_append (pv 3) (pa_cons (pe_ix ix_list (pe_lst (pa_cons (pe_call (E := E0) GN hr (by rfl) FN.g FN.F.kp FN.b .nil pass0 (pa_cons (pv 0) (pa_cons pe_int pa_nil))) (pa_cons (pe_call (E := E0) GN hr (by rfl) FN.g FN.F.kp FN.b .nil pass0 (pa_cons (pv 0) (pa_cons pe_int pa_nil))) pa_nil)))
          (pe_op op_fdiv (pe_call (E := E0) GN hr (by rfl) FN.g FN.F.kp FN.b .nil pass0 (pa_cons (pv 0) (pa_cons pe_int pa_nil))) pe_int) (fun _ _ => rfl)) pa_nil)))))
      (pss_cons (ps_set (i := 5) scPlan.nd rfl (Or.inl rfl) (pe_lst pa_nil))
      (pss_cons (ps_for PassesOwn.never rfl (pi_range1 (by rfl) B.range (pa_cons (pe_op op_add pe_int (pe_call (E := E0) GN hr (by rfl) FN.g FN.F.kp FN.b .nil pass0 (pa_cons (pv 0) (pa_cons (pv 2) pa_nil)))) pa_nil)) (pg_name (i := 6) scPlan.nd rfl (Or.inl rfl))
        (pss_cons (ps_set (i := 7) scPlan.nd rfl (Or.inl rfl) (pe_lst pa_nil))
        (pss_cons (ps_for PassesOwn.never rfl (pi_range1 (by rfl) B.range (pa_cons (pe_op op_add pe_int (pe_call (E := E0) GN hr (by rfl) FN.g FN.F.kp FN.b .nil pass0 (pa_cons (pv 0) (pa_cons (pe_ix ix_list (pe_lst (pa_cons pe_int (pa_cons pe_int pa_nil))) (pe_call (E := E0) GN hr (by rfl) FN.g FN.F.kp FN.b .nil pass0 (pa_cons (pv 0) (pa_cons pe_int pa_nil))) (fun _ _ => rfl)) pa_nil)))) pa_nil)) (pg_name (i := 8) scPlan.nd rfl (Or.inl rfl))
          (pss_one (ps_expr (pe_bm PySem.F.plainAttrs_list PySem.F.slot_list_append PySem.F.type_list_append mt_append (pv 7) (pa_cons (pe_ifExp (pt_cmpR op_eq (pe_call (E := E0) GN hr (by rfl) FN.g FN.F.kp FN.b .nil pass0 (pa_cons (pv 0) (pa_cons pe_int pa_nil))) pe_int (nomark _)) pe_non
            (pe_call (E := E0) GN hr (by rfl) FN.g FN.F.kp FN.b .nil pass0 (pa_cons (pv 0) (pa_cons (pe_callB call_len_seq (by rfl) B.len b_len (pa_cons (pv 3) pa_nil)) pa_nil)))) pa_nil)))))
        (pss_one (ps_expr (pe_bm PySem.F.plainAttrs_list PySem.F.slot_list_append PySem.F.type_list_append mt_append (pv 5) (pa_cons (pe_callTy call_tuple_of (by rfl) B.tuple b_tuple (pa_cons (pv 7) pa_nil)) pa_nil)))))))
      (pss_one (ps_ret (pe_tup (pa_cons (pe_callTy call_tuple_of (by rfl) B.tuple b_tuple (pa_cons (pv 3) pa_nil)) (pa_cons (pe_callTy call_tuple_of (by rfl) B.tuple b_tuple (pa_cons (pv 5) pa_nil)) pa_nil)))))))), ?_⟩
    refine ⟨Nat.zero_le _, fun fs hfs => ?_⟩
    obtain ⟨fh, fl⟩ := LH.nh hfs
    have S1 := (St.refl LH).upd (o := .lst []) hfs fh fl
    have k1 : (upd H fs (.lst [])) fs = some (.lst []) := upd_same
    generalize upd H fs (.lst []) = H1 at S1 k1 ⊢
    -- the sizes
    refine ⟨.ref h, rfl, .int 12, rfl, ?_⟩
    show qNext _ _ _ _
    refine go_next S1.law (by decide) (by decide) fun n1 H2 hn1 L2 x2 => ⟨1, n1, rfl, rfl, _, rfl, by omega, by omega, ?_⟩
    refine for_range (lo := 0) (n := ((1 : Int) + (n1 : Nat)).toNat) (fun i σ H' => (∃ y4, σ = [some (.ref h), some (.int 12), some (.int 6), some (.ref fs), y4, none, none, none, none]) ∧ St h l H H' ∧ ∃ zs : List Int, zs.length = i ∧ (∀ z ∈ zs, 0 ≤ z ∧ z ≤ 9) ∧ H' fs = some (.lst (zs.map V.int)))
      ⟨⟨none, rfl⟩, S1.next L2 x2, [], rfl, fun z hz => (List.not_mem_nil hz).elim, x2 _ _ fh fl k1⟩ (fun i σ H' hi ⟨⟨y4, es⟩, S, zs, zl, hz, kf⟩ => ?_) (fun σ H' ⟨⟨y4, es⟩, S, zs, zl, hz, kf⟩ => ?_)
    · subst es
      have hi12 : i < 12 := by omega
      refine ⟨.ref fs, rfl, .inl ⟨rfl, _, .inl (.inl kf)⟩, .ref h, rfl, ?_⟩
      show qNext _ _ _ _
      refine go_next S.law (by decide) (by decide) fun a H3 ha L3 x3 => ⟨.ref h, rfl, ?_⟩
      have S3 := S.next L3 x3
      show qNext _ _ _ _
      refine go_next S3.law (by decide) (by decide) fun b H4 hb L4 x4 => ⟨(by show 2 ≤ sizeLine; decide), fun D hD => ⟨.ref h, rfl, ?_⟩⟩
      have S4 := S3.next L4 x4
      obtain ⟨Dh, Dl⟩ := L4.nh hD
      have S5 := S4.same (same_upd (o := .lst [.int (a : Nat), .int (b : Nat)]) hD)
      have kD : (upd H4 D (.lst [.int (a : Nat), .int (b : Nat)])) D = some (.lst [.int (a : Nat), .int (b : Nat)]) := upd_same
      have kf5 := (same_upd (o := .lst [.int (a : Nat), .int (b : Nat)]) hD) _ _ (x4 _ _ fh fl (x3 _ _ fh fl kf))
      generalize upd H4 D (.lst [.int (a : Nat), .int (b : Nat)]) = H5 at S5 kD kf5 ⊢
      show qNext _ _ _ _
      refine go_next S5.law (by decide) (by decide) fun c H6 hc L6 x6 => ⟨c, 4, rfl, rfl, ⟨by decide, by decide⟩, ?_⟩
      have S6 := S5.next L6 x6
      have kD6 := x6 _ _ Dh Dl kD
      have kf6 := x6 _ _ fh fl kf5
      obtain ⟨z, hz0, hat⟩ : ∃ z : Int, (0 ≤ z ∧ z ≤ 9) ∧ atI [V.int (a : Nat), V.int (b : Nat)] ((c : Int) / 4) = some (.int z) := by
        have : c = 0 ∨ c = 1 ∨ c = 2 ∨ c = 3 ∨ c = 4 := by omega
        rcases this with rfl | rfl | rfl | rfl | rfl
        · exact ⟨a, ⟨by omega, by omega⟩, rfl⟩
        · exact ⟨a, ⟨by omega, by omega⟩, rfl⟩
        · exact ⟨a, ⟨by omega, by omega⟩, rfl⟩
        · exact ⟨a, ⟨by omega, by omega⟩, rfl⟩
        · exact ⟨b, ⟨by omega, by omega⟩, rfl⟩
      refine ⟨D, _, _, _, rfl, rfl, .inl (.inl kD6), hat, fs, _, _, rfl, rfl, kf6, ?_, ⟨_, rfl⟩, S6.upd hfs fh fl, zs ++ [z], by rw [List.length_append, zl]; rfl, fun y hy => ?_, ?_⟩
      · rw [List.length_map]
        exact small1000 (by omega)
      · rcases List.mem_append.mp hy with hy | hy
        · exact hz y hy
        · rw [List.mem_singleton.mp hy]
          exact hz0
      · rw [upd_same, List.map_append]
        rfl
    subst es
    have zl12 : 1 ≤ zs.length ∧ zs.length ≤ 12 := by rw [zl]; omega
    -- the routes
    refine ⟨Nat.zero_le _, fun fr hfr => ?_⟩
    obtain ⟨rh, rl⟩ := S.law.nh hfr
    have nfr := S.none hfr
    have S7 := S.same (same_upd (o := .lst []) hfr)
    have kr : (upd H' fr (.lst [])) fr = some (.lst []) := upd_same
    have kf7 := (same_upd (o := .lst []) hfr) _ _ kf
    generalize upd H' fr (.lst []) = H7 at S7 kr kf7 ⊢
    refine ⟨.ref h, rfl, .int 6, rfl, ?_⟩
    show qNext _ _ _ _
    refine go_next S7.law (by decide) (by decide) fun n2 H8 hn2 L8 x8 => ⟨1, n2, rfl, rfl, _, rfl, by omega, by omega, ?_⟩
    refine for_range (lo := 0) (n := ((1 : Int) + (n2 : Nat)).toNat) (fun i σ H' => (∃ y4 y6 y7 y8, σ = [some (.ref h), some (.int 12), some (.int 6), some (.ref fs), y4, some (.ref fr), y6, y7, y8]) ∧ St h l H H' ∧ H' fs = some (.lst (zs.map V.int)) ∧
        ∃ (qs : List Addr) (rs : List Ro), rs.length = i ∧ H' fr = some (.lst (qs.map V.ref)) ∧ Paired (fun q r => SqT K H' q (rV r)) qs rs ∧ ∀ r ∈ rs, 1 ≤ r.length ∧ r.length ≤ 6)
      ⟨⟨_, _, _, _, rfl⟩, S7.next L8 x8, x8 _ _ fh fl kf7, [], [], rfl, x8 _ _ rh rl kr, .nil, fun r hr => (List.not_mem_nil hr).elim⟩ (fun i σ H9 hi ⟨⟨y4, y6, y7, y8, es⟩, S9, kf9, qs, rs, rl9, kr9, hP, hR⟩ => ?_) (fun σ H9 ⟨⟨y4, y6, y7, y8, es⟩, S9, kf9, qs, rs, rl9, kr9, hP, hR⟩ => ?_)
    · subst es
      have hi6 : i < 6 := by omega
      refine ⟨Nat.zero_le _, fun fe hfe => ?_⟩
      obtain ⟨eh, el⟩ := S9.law.nh hfe
      have ef : fe ≠ fs := (ne_of_none kf9 hfe).symm
      have er : fe ≠ fr := (ne_of_none kr9 hfe).symm
      have T10 := (St.refl S9.law).upd (o := .lst []) hfe eh el
      have ke : (upd H9 fe (.lst [])) fe = some (.lst []) := upd_same
      generalize upd H9 fe (.lst []) = H10 at T10 ke ⊢
      refine ⟨.ref h, rfl, (by show 2 ≤ sizeLine; decide), fun D hD => ⟨.ref h, rfl, ?_⟩⟩
      obtain ⟨Dh, Dl⟩ := T10.law.nh hD
      have T11 := T10.same (same_upd (o := .lst [.int 3, .int 6]) hD)
      have kD : (upd H10 D (.lst [.int 3, .int 6])) D = some (.lst [.int 3, .int 6]) := upd_same
      have ke11 := (same_upd (o := .lst [.int 3, .int 6]) hD) _ _ ke
      generalize upd H10 D (.lst [.int 3, .int 6]) = H11 at T11 kD ke11 ⊢
      show qNext _ _ _ _
      refine go_next T11.law (by decide) (by decide) fun u H12 hu L12 x12 => ?_
      have T12 := T11.next L12 x12
      obtain ⟨lim, l1, l2, hat⟩ : ∃ lim : Int, 0 < lim ∧ lim ≤ 6 ∧ atI [V.int 3, V.int 6] (u : Nat) = some (.int lim) := by
        have : u = 0 ∨ u = 1 := by omega
        rcases this with rfl | rfl
        · exact ⟨3, by decide, by decide, rfl⟩
        · exact ⟨6, by decide, by decide, rfl⟩
      refine ⟨D, _, _, _, rfl, rfl, .inl (.inl (x12 _ _ Dh Dl kD)), hat, ?_⟩
      show qNext _ _ _ _
      have p64 : (1000 : Int) < 2 ^ 64 := by decide
      refine go_next T12.law l1 (by omega) fun n3 H13 hn3 L13 x13 => ⟨1, n3, rfl, rfl, _, rfl, by omega, by omega, ?_⟩
      have T13 := T12.next L13 x13
      have ke13 := x13 _ _ eh el (x12 _ _ eh el ke11)
      refine for_range (lo := 0) (n := ((1 : Int) + (n3 : Nat)).toNat) (fun j σ H' => (∃ y8, σ = [some (.ref h), some (.int 12), some (.int 6), some (.ref fs), y4, some (.ref fr), some (.int (0 + (i : Nat))), some (.ref fe), y8]) ∧ St h l H9 H' ∧ ∃ r : Ro, r.length = j ∧ H' fe = some (.lst (rV r)))
        ⟨⟨_, rfl⟩, T13, [], rfl, ke13⟩ (fun j σ H14 hj ⟨⟨y8, es⟩, T14, r, rlen, ke14⟩ => ?_) (fun σ H14 ⟨⟨y8, es⟩, T14, r, rlen, ke14⟩ => ?_)
      · subst es
        have hj6 : j < 6 := by omega
        refine ⟨.ref fe, rfl, .inl ⟨rfl, _, .inl (.inl ke14)⟩, .ref h, rfl, ?_⟩
        show qNext _ _ _ _
        refine go_next T14.law (by decide) (by decide) fun v H15 hv L15 x15 => ⟨rfl, _, rfl, ?_⟩
        have T15 := T14.next L15 x15
        have ke15 := x15 _ _ eh el ke14
        by_cases hv0 : v = 0
        · rw [decide_eq_true (by rw [hv0]; rfl)]
          refine iteT ⟨fe, _, _, rfl, rfl, ke15, ?_, ⟨_, rfl⟩, T15.upd hfe eh el, r ++ [none], by rw [List.length_append, rlen]; rfl, ?_⟩
          · rw [rV_len]
            exact small1000 (by omega)
          · rw [upd_same]
            unfold rV
            rw [List.map_append]
            rfl
        · rw [decide_eq_false fun z => hv0 (by have := V.int.inj z; omega)]
          have kf15 := T15.k _ _ fh fl kf9
          refine iteF ⟨.ref h, rfl, .ref fs, rfl, fs, _, rfl, .inl (.inl (.inl kf15)), ?_⟩
          rw [List.length_map]
          show qNext _ _ _ _
          refine go_next T15.law (by omega) (by omega) fun e H16 he L16 x16 => ?_
          have T16 := T15.next L16 x16
          refine ⟨fe, _, _, rfl, rfl, x16 _ _ eh el ke15, ?_, ⟨_, rfl⟩, T16.upd hfe eh el, r ++ [some (e : Int)], by rw [List.length_append, rlen]; rfl, ?_⟩
          · rw [rV_len]
            exact small1000 (by omega)
          · rw [upd_same]
            unfold rV
            rw [List.map_append]
            rfl
      · subst es
        have kr14 := T14.k _ _ rh rl kr9
        refine ⟨.ref fr, rfl, .inl ⟨rfl, _, .inl (.inl kr14)⟩, .ref fe, rfl, fe, _, rfl, .inl ⟨.inl (.inl ke14), fun t ht => ?_⟩⟩
        have U15 := T14.same (same_upd (o := .tup (rV r)) ht)
        have kt : (upd H14 t (.tup (rV r))) t = some (.tup (rV r)) := upd_same
        generalize upd H14 t (.tup (rV r)) = H15 at U15 kt ⊢
        have kr15 := U15.k _ _ rh rl kr9
        have kf15 := U15.k _ _ fh fl kf9
        have hql : qs.length = i := by rw [paired_len hP, rl9]
        refine ⟨fr, _, _, rfl, rfl, kr15, ?_, ⟨_, _, _, _, rfl⟩, (S9.trans U15).upd nfr rh rl, ?_, qs ++ [t], rs ++ [r], by rw [List.length_append, rl9]; rfl, ?_, ?_, fun x hx => ?_⟩
        · rw [List.length_map]
          exact small1000 (by omega)
        · rw [upd_ne (ne_of_none kf hfr)]
          exact kf15
        · rw [upd_same, List.map_append]
          rfl
        · exact paired_snoc (sqT_lst kr15 (.inl (.inl kt))) (paired_imp (fun a xs s => sqT_lst kr15 (sqT_x S9.law U15.k s)) hP)
        · rcases List.mem_append.mp hx with hx | hx
          · exact hR x hx
          · rw [List.mem_singleton.mp hx, rlen]
            omega
    subst es
    refine ⟨.ref fs, rfl, fs, _, rfl, .inl ⟨.inl (.inl kf9), fun a ha => ?_⟩⟩
    have ma : Same H9 (upd H9 a (.tup (zs.map V.int))) := same_upd ha
    have ka : (upd H9 a (.tup (zs.map V.int))) a = some (.tup (zs.map V.int)) := upd_same
    generalize upd H9 a (.tup (zs.map V.int)) = Ha at ma ka ⊢
    refine ⟨.ref fr, rfl, fr, _, rfl, .inl ⟨.inl (.inl (ma _ _ kr9)), fun b hb => ?_⟩⟩
    have mb : Same Ha (upd Ha b (.tup (qs.map V.ref))) := same_upd hb
    have kb : (upd Ha b (.tup (qs.map V.ref))) b = some (.tup (qs.map V.ref)) := upd_same
    generalize upd Ha b (.tup (qs.map V.ref)) = Hb at mb kb ⊢
    refine ⟨(by show 2 ≤ sizeLine; decide), fun p hp => ?_⟩
    have mp : Same Hb (upd Hb p (.tup [.ref a, .ref b])) := same_upd hp
    refine q _ p zs rs (((S9.same ma).same mb).same mp) ⟨a, b, .inl (.inl upd_same), .inl (.inl (mp _ _ (mb _ _ ka))), qs, .inl (.inl (mp _ _ kb)), paired_same ((ma.trans mb).trans mp) hP⟩ ⟨zl12, hz, ?_, hR⟩
    rw [rl9]
    omega
end
end Sv


set_option maxHeartbeats 8000000
namespace Sv
open PySem PySem.Spec PyProof.Rows L2
/-! ### lists of ints as data -/
def dIs (l : List Int) : List PyData := l.map PyData.int
theorem dpAll_is {K : PySem.W.Frag} {H : Hp} : ∀ l : List Int, DpAll K H (l.map V.int) (dIs l)
  | [] => .nil
  | x :: l => .cons (.int x) (dpAll_is l)
theorem eqv_dIs : ∀ a b : List Int, PyData.eqvAll (dIs a) (dIs b) = decide (a = b)
  | [], [] => by show PyData.eqvAll [] [] = _; rw [PyData.eqvAll]; rfl
  | [], y :: b => by show PyData.eqvAll [] (.int y :: dIs b) = _; rw [PyData.eqvAll]; rfl
  | x :: a, [] => by show PyData.eqvAll (.int x :: dIs a) [] = _; rw [PyData.eqvAll]; rfl
  | x :: a, y :: b => by
    show PyData.eqvAll (.int x :: dIs a) (.int y :: dIs b) = _
    rw [PyData.eqvAll, PyData.eqv, eqv_dIs a b]
    by_cases h1 : x = y
    · subst h1
      by_cases h2 : a = b
      · subst h2
        simp
      · simp [h2]
    · have : (x == y) = false := by simpa using h1
      rw [this]
      simp [h1]
theorem can_dIs : ∀ l : List Int, PyData.canLayAll0 (dIs l) = true
  | [] => by show PyData.canLayAll0 [] = true; rw [PyData.canLayAll0]
  | x :: l => by
    show PyData.canLayAll0 (.int x :: dIs l) = true
    rw [PyData.canLayAll0, can_dIs l, PyData.canLay0]
    rfl
theorem dep_dIs : ∀ l : List Int, PyData.depthAll (dIs l) ≤ 1
  | [] => by show PyData.depthAll [] ≤ 1; rw [PyData.depthAll]; omega
  | x :: l => by
    show PyData.depthAll (.int x :: dIs l) ≤ 1
    rw [PyData.depthAll]
    have h1 := dep_dIs l
    have h2 : PyData.depth (.int x) ≤ 1 := by
      simp only [PyData.depth]
      omega
    omega
theorem shaped_dIs (l : List Int) : SeqAt.shaped (.list (dIs l)) = true := by
  unfold SeqAt.shaped
  rw [Bool.and_eq_true]
  refine ⟨?_, decide_eq_true ?_⟩
  · rw [PyData.canLay0]
    exact can_dIs l
  · have h := dep_dIs l
    rw [PyData.depth]
    omega
theorem neI_go {K : PySem.W.Frag} {H : Hp} {x y : Addr} {a b : List Int} {Q : VK} (hx : SqL K H x (a.map V.int)) (hy : SqL K H y (b.map V.int)) (q : Q (.bl (!decide (a = b))) H) : qNe K (.ref x) (.ref y) H Q := by
  unfold qNe
  refine ⟨.list (dIs a), .list (dIs b), .lst hx (dpAll_is a), .lst hy (dpAll_is b), shaped_dIs a, shaped_dIs b, ?_⟩
  rw [PyData.eqv, eqv_dIs]
  exact q
section
variable {P : Program} {w : World} {K : PySem.W.Frag} {mg : Str → Option Value} {base : Heap}
def rLn (K : PySem.W.Frag) : List V → Hp → VK → Prop := fun xs H Q => ∃ p ys, xs = [.ref p] ∧ (SqL K H p ys ∨ SqT K H p ys) ∧ Q (.int ys.length) H
theorem pts_pw {X : Cx} {c : Expr} {t : TT} (h : PW X c t) : PTs X [c] t := pts_one h.pt
def nFb : List Str := ["_law_plan_here", "_law_sizes", "_law_routes", "_law_k", "_law_bad", "_law_entry"]
theorem scFirstBad : FnScope nFb ["_law_plan_here"] (defScope sFirstBad) := ⟨rfl, rfl, rfl, by decide +kernel, rfl, by decide +kernel, by decide +kernel⟩
def spFirstBad (K : PySem.W.Frag) : Sp := fun vs H Q _ => ∃ (p : Addr) (zs : List Int) (rs : List Ro), vs = [.ref p] ∧ PlanAt K H p zs rs ∧ Small zs rs ∧ (bad zs rs = none → ∀ H', Same H H' → Q .non H') ∧ (∀ part i, bad zs rs = some (part, i) → NewS H [.str part, .int i] Q)
theorem bad_s {zs : List Int} {rs : List Ro} {i : Int} (h : badS zs = some i) : bad zs rs = some (("sizes" : Str), i) := by
  unfold bad
  rw [h]
theorem bad_r {zs : List Int} {rs : List Ro} {i : Int} (h1 : badS zs = none) (h : badR zs.length rs = some i) : bad zs rs = some (("routes" : Str), i) := by
  unfold bad
  rw [h1]
  simp only [h, Option.map_some]
theorem bad_n {zs : List Int} {rs : List Ro} (h1 : badS zs = none) (h : badR zs.length rs = none) : bad zs rs = none := by
  unfold bad
  rw [h1]
  simp only [h, Option.map_none]
/-- the bad entries of a route -/
def be (n : Int) (r : Ro) : List Int := r.filterMap fun e => match e with
  | none => none
  | some z => if 0 ≤ z ∧ z < n then none else some z
theorem be_nil {n : Int} {r : Ro} : be n r = [] ↔ ∀ e ∈ r, okE n e = true := by
  unfold be
  rw [List.filterMap_eq_nil_iff]
  refine ⟨fun h e he => ?_, fun h e he => ?_⟩
  · have := h e he
    cases e with
    | none => rfl
    | some z =>
      by_cases hz : 0 ≤ z ∧ z < n
      · exact decide_eq_true ⟨hz.1, by omega⟩
      · have this : (if 0 ≤ z ∧ z < n then none else some z) = none := this
        rw [if_neg hz] at this
        cases this
  · have := h e he
    cases e with
    | none => rfl
    | some z =>
      have hz : 0 ≤ z ∧ z ≤ n - 1 := of_decide_eq_true this
      show (if 0 ≤ z ∧ z < n then none else some z) = none
      rw [if_pos ⟨hz.1, by omega⟩]
theorem be_none {n : Int} {r : Ro} {i : Nat} (h : r[i]? = some none) : be n (r.take (i + 1)) = be n (r.take i) := by
  unfold be
  rw [List.take_add_one, h, List.filterMap_append]
  simp
theorem be_in {n : Int} {r : Ro} {i : Nat} {z : Int} (h : r[i]? = some (some z)) (hz : 0 ≤ z ∧ z < n) : be n (r.take (i + 1)) = be n (r.take i) := by
  unfold be
  rw [List.take_add_one, h, List.filterMap_append]
  simp [hz]
theorem be_out {n : Int} {r : Ro} {i : Nat} {z : Int} (h : r[i]? = some (some z)) (hz : ¬ (0 ≤ z ∧ z < n)) : be n (r.take (i + 1)) = be n (r.take i) ++ [z] := by
  unfold be
  rw [List.take_add_one, h, List.filterMap_append]
  show _ ++ [some z].filterMap _ = _
  rw [List.filterMap_cons_some (b := z) (by show (if 0 ≤ z ∧ z < n then none else some z) = some z; rw [if_neg hz])]
  rfl
theorem be_len (n : Int) (r : Ro) : (be n r).length ≤ r.length := List.length_filterMap_le _ _
theorem okR_iff {n : Int} {r : Ro} : okR n r = true ↔ (1 ≤ r.length ∧ r.length ≤ 6) ∧ be n r = [] := by
  unfold okR
  rw [Bool.and_eq_true, decide_eq_true_eq, List.all_eq_true, be_nil]
theorem ok_firstBad {f : Addr} {fd : FuncData} (F : Df K mg "_law_first_bad" sFirstBad ["_law_plan_here"] f fd) (B : Bt mg) : FnOk P w K mg base CX0 1 f fd ["_law_plan_here"] (spFirstBad K) := by
  refine F.F.ok scFirstBad (fun vs H Q E h => ?_) (fun cdv A outer s H vs Q E hr h => ?_)
  · obtain ⟨p, zs, rs, rfl, _⟩ := h
    rfl
  · obtain ⟨p, zs, rs, rfl, hp, ⟨sz1, sz2, sz3⟩, q1, q2⟩ := h
    obtain ⟨a, b, hp1, ha, hb⟩ := hp.ex
    obtain ⟨qs, hA, hP⟩ := hb.ex
    have hql := paired_len hP
    refine ⟨_, pss_cons (ps_asg (pv 0) (pg_tup rfl (pgs_cons (pg_name (i := 1) scFirstBad.nd rfl (.inr rfl)) (pgs_cons (pg_name (i := 2) scFirstBad.nd rfl (.inl rfl)) pgs_nil))))
      (pss_cons (ps_if (pt_not (pt_chain op_le op_le pe_int (pe_callB call_len_seq (by rfl) B.len b_len (pa_cons (pv 1) pa_nil)) pe_int)) (pss_one (ps_ret (pe_tup (pa_cons pe_str (pa_cons (pe_un un_neg pe_int) pa_nil))))) pss_nil)
      (pss_cons (ps_for PassesOwn.never rfl (pi_range1 (by rfl) B.range (pa_cons (pe_callB call_len_seq (by rfl) B.len b_len (pa_cons (pv 1) pa_nil)) pa_nil)) (pg_name (i := 3) scFirstBad.nd rfl (Or.inl rfl))
        (pss_one (ps_if (pt_not (pt_chain op_le op_le pe_int (pe_ix ix_tup (pv 1) (pv 3) (fun _ _ => rfl)) pe_int)) (pss_one (ps_ret (pe_tup (pa_cons pe_str (pa_cons (pv 3) pa_nil))))) pss_nil)))
      (pss_cons (ps_if (pt_not (pt_chain op_le op_le pe_int (pe_callB call_len_seq (by rfl) B.len b_len (pa_cons (pv 2) pa_nil)) pe_int)) (pss_one (ps_ret (pe_tup (pa_cons pe_str (pa_cons (pe_un un_neg pe_int) pa_nil))))) pss_nil)
      (pss_cons (ps_for PassesOwn.never rfl (pi_range1 (by rfl) B.range (pa_cons (pe_callB call_len_seq (by rfl) B.len b_len (pa_cons (pv 2) pa_nil)) pa_nil)) (pg_name (i := 3) scFirstBad.nd rfl (Or.inl rfl))
        (pss_cons (ps_setLc (i := 4) (own := [("_law_entry", 5)]) (g := gName 5) (tt := tAnd (tTest (tOp (fun x y H Q => y = .non ∧ Q (.bl (!decide (x = .non))) H) (tVar 5) (tC .non))) (tNot (tTest (tChain (rI0 fun i j => .bl (decide (i ≤ j))) (rI0 fun i j => .bl (decide (i < j))) (tC (.int 0)) (tVar 5) (tCB (rLn K) (tCons (tVar 1) tNil)))))) (te := tVar 5) rfl scFirstBad.nd rfl rfl (sw_true rfl rfl rfl (by decide +kernel)) (pi_tup (pe_ix ix_tup (pv 2) (pv 3) (fun _ _ => rfl))) (blkOk_by (N := nFb) (sc := defScope sFirstBad) (by decide +kernel))
            (fun _ _ _ _ _ => pg_name (i := 5) scFirstBad.nd rfl (Or.inl rfl))
            (fun _ _ _ _ _ => pts_pw (pw_and (pt_cmpR op_notN (pv 5) pe_non (nomark _)) (pw_and1 (pt_not (pt_chain op_le op_lt pe_int (pv 5) (pe_callB call_len_seq (by rfl) B.len b_len (pa_cons (pv 1) pa_nil))))))) (fun _ _ _ _ _ => pv 5))
        (pss_one (ps_if (pw_or (pt_cmpR (op_neQ hr.units) (pv 4) (pe_lst pa_nil) (nomark _)) (pw_or1 (pt_not (pt_chain op_le op_le pe_int (pe_callB call_len_seq (by rfl) B.len b_len (pa_cons (pe_ix ix_tup (pv 2) (pv 3) (fun _ _ => rfl)) pa_nil)) pe_int)))).pt (pss_one (ps_ret (pe_tup (pa_cons pe_str (pa_cons (pv 3) pa_nil))))) pss_nil))))
      (pss_one (ps_ret pe_non)))))), ?_⟩
    have ei : ∀ i : Nat, (0 : Int) + (i : Nat) = (i : Nat) := fun i => by omega
    refine ⟨.ref p, rfl, p, _, rfl, hp1, rfl, _, _, rfl, _, _, rfl, rfl, ?_⟩
    have no : ¬ (1 ≤ zs.length ∧ zs.length ≤ 12) → bad zs rs = some (("sizes" : Str), -1) := fun hz => bad_s (by unfold badS; rw [if_neg hz])
    have fin : ∀ {part : Str} {i : Int} {H1 : Hp}, bad zs rs = some (part, i) → Same H H1 → (2 ≤ sizeLine ∧ ∀ q, H1 q = none → Q (.ref q) (upd H1 q (.tup [.str part, .int i]))) := fun e sm => ⟨by decide, fun q hq => q2 _ _ e _ _ (same_of sm (Same.free sm hq)) (Same.free sm hq) upd_same⟩
    refine ⟨.ref a, rfl, a, _, rfl, .inr ha, 1, _, rfl, rfl, _, rfl, ?_⟩
    rw [List.length_map]
    by_cases c1 : (1 : Int) ≤ (zs.length : Nat)
    case neg =>
      rw [decide_eq_false c1]
      exact iteF ⟨false, rfl, iteT ⟨1, rfl, fin (no fun z => c1 (by omega)) fun _ _ h => h⟩⟩
    rw [decide_eq_true c1]
    refine iteT ⟨_, _, rfl, rfl, _, rfl, ?_⟩
    by_cases c2 : ((zs.length : Nat) : Int) ≤ 12
    case neg =>
      rw [decide_eq_false c2]
      exact iteT ⟨1, rfl, fin (no fun z => c2 (by omega)) fun _ _ h => h⟩
    rw [decide_eq_true c2]
    have hz : 1 ≤ zs.length ∧ zs.length ≤ 12 := ⟨by omega, by omega⟩
    have eb : badS zs = (fst okZ zs 0).map fun (k : Nat) => (k : Int) := by unfold badS; rw [if_pos hz]
    refine iteF ⟨.ref a, rfl, a, _, rfl, .inr ha, _, rfl, by omega, by rw [List.length_map]; omega, ?_⟩
    rw [List.length_map]
    refine for_range (lo := 0) (n := ((zs.length : Nat) : Int).toNat) (fun i σ H' => (∃ y3, σ = [some (.ref p), some (.ref a), some (.ref b), y3, none, none]) ∧ Same H H' ∧ ∀ (j : Nat) (z : Int), j < i → zs[j]? = some z → okZ z = true)
      ⟨⟨none, rfl⟩, fun _ _ h => h, fun j z hj => by omega⟩ (fun i σ H' hi ⟨⟨y3, es⟩, sm, hok⟩ => ?_) (fun σ H' ⟨⟨y3, es⟩, sm, hok⟩ => ?_)
    · subst es
      rw [Int.toNat_natCast] at hi
      rw [ei]
      obtain ⟨z, hz1⟩ : ∃ z, zs[i]? = some z := ⟨zs[i], List.getElem?_eq_getElem hi⟩
      refine ⟨.ref a, rfl, .int (i : Nat), rfl, a, zs.map V.int, (i : Nat), .int z, rfl, rfl, sqT_same sm ha, atI_nat (by rw [List.getElem?_map, hz1]; rfl), 0, z, rfl, rfl, _, rfl, ?_⟩
      by_cases d1 : (0 : Int) ≤ z
      · rw [decide_eq_true d1]
        refine iteT ⟨_, _, rfl, rfl, _, rfl, ?_⟩
        by_cases d2 : z ≤ 9
        · rw [decide_eq_true d2]
          refine iteF ⟨⟨_, rfl⟩, sm, fun j z' hj hz' => ?_⟩
          by_cases hji : j = i
          · rw [hji, hz1] at hz'
            rw [← Option.some.inj hz']
            exact decide_eq_true ⟨d1, d2⟩
          · exact hok j z' (by omega) hz'
        · rw [decide_eq_false d2]
          refine iteT ⟨.int (i : Nat), rfl, fin (bad_s ?_) sm⟩
          rw [eb, fst_some (i := i) (x := z) hok hz1 (decide_eq_false fun w => d2 w.2)]
          rfl
      · rw [decide_eq_false d1]
        refine iteF ⟨false, rfl, iteT ⟨.int (i : Nat), rfl, fin (bad_s ?_) sm⟩⟩
        rw [eb, fst_some (i := i) (x := z) hok hz1 (decide_eq_false fun w => d1 w.1)]
        rfl
    rw [Int.toNat_natCast] at hok
    have bS : badS zs = none := by
      rw [eb, fst_none fun j z hz' => hok j z (List.getElem?_eq_some_iff.mp hz').1 hz']
      rfl
    subst es
    have no2 : ¬ (1 ≤ rs.length ∧ rs.length ≤ 6) → bad zs rs = some (("routes" : Str), -1) := fun hz => bad_r bS (by unfold badR; rw [if_neg hz])
    refine ⟨.ref b, rfl, b, _, rfl, .inr (sqT_same sm hA), 1, _, rfl, rfl, _, rfl, ?_⟩
    rw [List.length_map, hql]
    by_cases c3 : (1 : Int) ≤ (rs.length : Nat)
    case neg =>
      rw [decide_eq_false c3]
      exact iteF ⟨false, rfl, iteT ⟨1, rfl, fin (no2 fun z => c3 (by omega)) sm⟩⟩
    rw [decide_eq_true c3]
    refine iteT ⟨_, _, rfl, rfl, _, rfl, ?_⟩
    by_cases c4 : ((rs.length : Nat) : Int) ≤ 6
    case neg =>
      rw [decide_eq_false c4]
      exact iteT ⟨1, rfl, fin (no2 fun z => c4 (by omega)) sm⟩
    rw [decide_eq_true c4]
    have hr2 : 1 ≤ rs.length ∧ rs.length ≤ 6 := ⟨by omega, by omega⟩
    have eb2 : badR zs.length rs = (fst (okR zs.length) rs 0).map fun (k : Nat) => (k : Int) := by unfold badR; rw [if_pos hr2]
    refine iteF ⟨.ref b, rfl, b, _, rfl, .inr (sqT_same sm hA), _, rfl, by omega, by rw [List.length_map, hql]; omega, ?_⟩
    rw [List.length_map, hql]
    refine for_range (lo := 0) (n := ((rs.length : Nat) : Int).toNat) (fun i σ H' => (∃ y3 y4, σ = [some (.ref p), some (.ref a), some (.ref b), y3, y4, none]) ∧ Same H H' ∧ ∀ (j : Nat) (r : Ro), j < i → rs[j]? = some r → okR zs.length r = true)
      ⟨⟨y3, none, rfl⟩, sm, fun j z hj => by omega⟩ (fun i σ H' hi ⟨⟨y3, y4, es⟩, sm, hok2⟩ => ?_) (fun σ H' ⟨⟨y3, y4, es⟩, sm, hok2⟩ => ?_)
    · subst es
      rw [Int.toNat_natCast] at hi
      rw [ei]
      obtain ⟨r, hr1⟩ : ∃ r, rs[i]? = some r := ⟨rs[i], List.getElem?_eq_getElem hi⟩
      obtain ⟨qa, hqa⟩ : ∃ q, qs[i]? = some q := ⟨qs[i]'(by omega), List.getElem?_eq_getElem (by omega)⟩
      obtain ⟨r', hr', hqr⟩ := paired_at hP hqa
      obtain rfl : r' = r := Option.some.inj (hr'.symm.trans hr1)
      have lr := sz3 r' (List.mem_of_getElem? hr1)
      have hqi : atI (qs.map V.ref) ((i : Nat) : Int) = some (.ref qa) := atI_nat (by rw [List.getElem?_map, hqa]; rfl)
      refine ⟨.ref b, rfl, .int (i : Nat), rfl, b, qs.map V.ref, (i : Nat), .ref qa, rfl, rfl, sqT_same sm hA, hqi, qa, rfl, ⟨_, sqT_same sm hqr⟩, fun D hD => ?_⟩
      refine lc_tup (xs := rV r') (fun k H2 => Same H' H2 ∧ H2 D = some (.lst ((be zs.length (r'.take k)).map V.int))) ⟨same_upd hD, upd_same⟩ (fun k H2 _ h => sqT_same (sm.trans h.1) hqr) (fun k x H2 hx ⟨sm2, hd⟩ => ?_) (fun H2 ⟨sm2, hd⟩ => ?_)
      · obtain ⟨e, he, rfl⟩ := rV_lt hx
        have sm3 : Same H H2 := sm.trans sm2
        cases e with
        | none =>
          refine ⟨rfl, .non, rfl, rfl, _, rfl, ?_⟩
          refine iteF (iteF ⟨sm2, ?_⟩)
          rw [be_none he]
          exact hd
        | some z =>
          refine ⟨rfl, .int z, rfl, rfl, _, rfl, ?_⟩
          refine iteT ⟨.int z, rfl, 0, z, rfl, rfl, _, rfl, ?_⟩
          have push : ¬ (0 ≤ z ∧ z < (zs.length : Nat)) → ∃ acc, H2 D = some (.lst acc) ∧ acc.length < sizeLine ∧ Same H' (upd H2 D (.lst (acc ++ [.int z]))) ∧ (upd H2 D (.lst (acc ++ [.int z]))) D = some (.lst ((be zs.length (r'.take (k + 1))).map V.int)) := fun hz => by
            refine ⟨_, hd, ?_, same_of sm2 hD, ?_⟩
            · rw [List.length_map]
              have h1 := be_len zs.length (r'.take k)
              rw [List.length_take] at h1
              exact small1000 (by omega)
            · rw [be_out he hz, List.map_append]
              exact upd_same
          by_cases d1 : (0 : Int) ≤ z
          · rw [decide_eq_true d1]
            refine iteT ⟨.ref a, rfl, a, zs.map V.int, rfl, .inr (sqT_same sm3 ha), z, _, rfl, rfl, _, rfl, ?_⟩
            rw [List.length_map]
            by_cases d2 : z < (zs.length : Nat)
            · rw [decide_eq_true d2]
              refine iteF ⟨sm2, ?_⟩
              rw [be_in he ⟨d1, d2⟩]
              exact hd
            · rw [decide_eq_false d2]
              obtain ⟨acc, g1, g2, g3, g4⟩ := push fun w => d2 w.2
              exact iteT ⟨.int z, rfl, acc, g1, g2, g3, g4⟩
          · rw [decide_eq_false d1]
            obtain ⟨acc, g1, g2, g3, g4⟩ := push fun w => d1 w.1
            exact iteF ⟨false, rfl, iteT ⟨.int z, rfl, acc, g1, g2, g3, g4⟩⟩
      · rw [rV_len, List.take_length] at hd
        have sm3 : Same H H2 := sm.trans sm2
        have bl := be_len zs.length r'
        refine ⟨.ref D, rfl, (by show 0 ≤ sizeLine; decide), fun t ht => ?_⟩
        have tD : D ≠ t := ne_of_none hd ht
        have sm4 : Same H (upd H2 t (.lst [])) := same_of sm3 (Same.free sm3 ht)
        refine neI_go (a := be zs.length r') (b := []) (.inl (.inl (by rw [upd_ne tD]; exact hd))) (.inl (.inl upd_same)) ⟨_, rfl, ?_⟩
        have bad_now : okR zs.length r' = false → bad zs rs = some (("routes" : Str), ((i : Nat) : Int)) := fun hf => bad_r bS (by
          rw [eb2, fst_some (i := i) (x := r') hok2 hr1 hf]
          rfl)
        by_cases hbe : be zs.length r' = []
        · rw [decide_eq_true hbe]
          refine iteF ⟨.ref b, rfl, .int (i : Nat), rfl, b, qs.map V.ref, (i : Nat), .ref qa, rfl, rfl, sqT_same sm4 hA, hqi, qa, rV r', rfl, .inr (sqT_same sm4 hqr), 1, _, rfl, rfl, _, rfl, ?_⟩
          rw [rV_len]
          by_cases d1 : (1 : Int) ≤ (r'.length : Nat)
          · rw [decide_eq_true d1]
            refine iteT ⟨_, _, rfl, rfl, _, rfl, ?_⟩
            by_cases d2 : ((r'.length : Nat) : Int) ≤ 6
            · rw [decide_eq_true d2]
              refine iteF ⟨⟨_, _, rfl⟩, sm4, fun j z' hj hz' => ?_⟩
              by_cases hji : j = i
              · rw [hji, hr1] at hz'
                rw [← Option.some.inj hz']
                exact okR_iff.mpr ⟨⟨by omega, by omega⟩, hbe⟩
              · exact hok2 j z' (by omega) hz'
            · rw [decide_eq_false d2]
              refine iteT ⟨.int (i : Nat), rfl, fin (bad_now ?_) sm4⟩
              exact Bool.eq_false_iff.mpr fun w => d2 (by have := (okR_iff.mp w).1; omega)
          · rw [decide_eq_false d1]
            refine iteF ⟨false, rfl, iteT ⟨.int (i : Nat), rfl, fin (bad_now ?_) sm4⟩⟩
            exact Bool.eq_false_iff.mpr fun w => d1 (by have := (okR_iff.mp w).1; omega)
        · rw [decide_eq_false hbe]
          refine iteT ⟨.int (i : Nat), rfl, fin (bad_now ?_) sm4⟩
          exact Bool.eq_false_iff.mpr fun w => hbe (okR_iff.mp w).2
    rw [Int.toNat_natCast] at hok2
    refine q1 (bad_n bS ?_) H' sm
    rw [eb2, fst_none fun j z hz' => hok2 j z (List.getElem?_eq_some_iff.mp hz').1 hz']
    rfl
end
end Sv


set_option maxHeartbeats 8000000
namespace Sv
open PySem PySem.Spec PyProof.Rows L2
section
variable {P : Program} {w : World} {K : PySem.W.Frag} {mg : Str → Option Value} {base : Heap}
abbrev sMeetings : Stmt := topS 50
def nMe : List Str := ["_law_plan_here", "_law_number", "_law_found", "_law_carrier", "_law_shelf"]
theorem scMeetings : FnScope nMe ["_law_plan_here", "_law_number"] (defScope sMeetings) := ⟨rfl, rfl, rfl, by decide +kernel, rfl, by decide +kernel, by decide +kernel⟩
def spMeetings (K : PySem.W.Frag) : Sp := fun vs H Q _ => ∃ (p : Addr) (zs : List Int) (rs : List Ro) (n : Int), vs = [.ref p, .int n] ∧ PlanAt K H p zs rs ∧ rs.length ≤ 1000 ∧ (∀ r ∈ rs, r ≠ [] ∧ r.length ≤ 1000) ∧ NewTL H (meets rs (n - 1)) Q
theorem ok_meetings {f : Addr} {fd : FuncData} (F : Df K mg "_law_meetings" sMeetings ["_law_plan_here", "_law_number"] f fd) (B : Bt mg) : FnOk P w K mg base CX0 1 f fd ["_law_plan_here", "_law_number"] (spMeetings K) := by
  refine F.F.ok scMeetings (fun vs H Q E h => ?_) (fun cdv A outer s H vs Q E hr h => ?_)
  · obtain ⟨p, zs, rs, n, rfl, _⟩ := h
    rfl
  · obtain ⟨p, zs, rs, n, rfl, hp, hl, hrs, q⟩ := h
    obtain ⟨a, b, hp1, ha, hb⟩ := hp.ex
    obtain ⟨qs, hA, hP⟩ := hb.ex
    have hql := paired_len hP
    refine ⟨_, pss_cons (ps_set (i := 2) scMeetings.nd rfl (Or.inl rfl) (pe_lst pa_nil))
      (pss_cons (ps_for PassesOwn.never rfl (pi_range1 (by rfl) B.range (pa_cons (pe_callB call_len_seq (by rfl) B.len b_len (pa_cons (pe_ix ix_tup (pv 0) pe_int (fun _ _ => rfl)) pa_nil)) pa_nil)) (pg_name (i := 3) scMeetings.nd rfl (.inl rfl))
        (pss_cons (ps_set (i := 4) scMeetings.nd rfl (Or.inl rfl) (pe_ix ix_tup (pe_ix ix_tup (pe_ix ix_tup (pv 0) pe_int (fun _ _ => rfl)) (pv 3) (fun _ _ => rfl)) (pe_op op_mod (pe_op op_sub (pv 1) pe_int) (pe_callB call_len_seq (by rfl) B.len b_len (pa_cons (pe_ix ix_tup (pe_ix ix_tup (pv 0) pe_int (fun _ _ => rfl)) (pv 3) (fun _ _ => rfl)) pa_nil))) (fun _ _ => rfl)))
        (pss_one (ps_if (pt_cmpR op_notN (pv 4) pe_non (nomark _)) (pss_one (ps_expr (pe_bm PySem.F.plainAttrs_list PySem.F.slot_list_append PySem.F.type_list_append mt_append (pv 2) (pa_cons (pe_tup (pa_cons (pv 3) (pa_cons (pv 4) pa_nil))) pa_nil)))) pss_nil))))
      (pss_one (ps_ret (pv 2)))), ?_⟩
    refine ⟨Nat.zero_le _, fun f hf => ?_⟩
    have sm0 : Same H (upd H f (.lst [])) := same_upd hf
    refine ⟨.ref p, rfl, p, _, 1, .ref b, rfl, rfl, sqT_same sm0 hp1, rfl, b, _, rfl, .inr (sqT_same sm0 hA), _, rfl, by omega, by rw [List.length_map, hql]; omega, ?_⟩
    rw [List.length_map, hql]
    refine for_range (lo := 0) (n := ((rs.length : Nat) : Int).toNat) (fun i σ H' => (∃ y3 y4, σ = [some (.ref p), some (.int n), some (.ref f), y3, y4]) ∧ Same H H' ∧ TL H' f (meetN rs (n - 1) i)) ⟨⟨none, none, rfl⟩, sm0, [], upd_same, .nil⟩
      (fun i σ H' hi ⟨⟨y3, y4, es⟩, sm, tl⟩ => ?_) (fun σ H' ⟨⟨y3, y4, es⟩, sm, tl⟩ => ?_)
    · subst es
      rw [Int.toNat_natCast] at hi
      have ei : (0 : Int) + (i : Nat) = (i : Nat) := by omega
      rw [ei]
      obtain ⟨qa, hqa⟩ : ∃ q, qs[i]? = some q := ⟨qs[i]'(by omega), List.getElem?_eq_getElem (by omega)⟩
      obtain ⟨r, hr1, hqr⟩ := paired_at hP hqa
      obtain ⟨rne, rl⟩ := hrs r (List.mem_of_getElem? hr1)
      obtain ⟨eg, em⟩ := ent_get rne (n - 1)
      have hrl : 0 < r.length := List.length_pos_iff.mpr rne
      obtain ⟨ps, hff, htv⟩ := tl.ex
      have pl : ps.length ≤ i := by rw [tupsV_len htv]; exact meetN_len _ _ _
      have hqi : atI (qs.map V.ref) ((i : Nat) : Int) = some (.ref qa) := atI_nat (by rw [List.getElem?_map, hqa]; rfl)
      have eg2 : (rV r)[((n - 1) % (r.length : Int)).toNat]? = some (eV (ent r (n - 1))) := rV_get eg
      have hmod : (n - 1) % (((rV r).length : Nat) : Int) = (((n - 1) % (r.length : Int)).toNat : Nat) := by rw [rV_len]; exact em
      have hpos : (0 : Int) < (((rV r).length : Nat) : Int) := by rw [rV_len]; omega
      have k1 := sqT_same sm hp1
      have k2 := sqT_same sm hA
      have k3 := sqT_same sm hqr
      refine ⟨.ref p, rfl, p, _, 1, .ref b, rfl, rfl, k1, rfl, .int (i : Nat), rfl, b, _, (i : Nat), .ref qa, rfl, rfl, k2, hqi, .int n, rfl, n, 1, rfl, rfl, ?_⟩
      refine ⟨.ref p, rfl, p, _, 1, .ref b, rfl, rfl, k1, rfl, .int (i : Nat), rfl, b, _, (i : Nat), .ref qa, rfl, rfl, k2, hqi, qa, rV r, rfl, .inr k3, n - 1, _, rfl, rfl, hpos, qa, rV r, _, eV (ent r (n - 1)), rfl, rfl, k3, ?_, ?_⟩
      · show atI (rV r) ((n - 1) % (((rV r).length : Nat) : Int)) = _
        rw [hmod]
        exact atI_nat eg2
      cases he : ent r (n - 1) with
      | none =>
        refine ⟨.non, rfl, rfl, false, rfl, iteF ⟨⟨_, _, rfl⟩, sm, ?_⟩⟩
        rw [meetN_none hr1 he]
        exact tl
      | some z =>
        refine ⟨.int z, rfl, rfl, true, rfl, iteT ⟨.ref f, rfl, .inl ⟨rfl, _, .inl (.inl hff)⟩, .int (i : Nat), rfl, .int z, rfl, (by show 2 ≤ sizeLine; decide), fun t ht => ?_⟩⟩
        have fp : f ≠ t := ne_of_none hff ht
        have hf2 : (upd H' t (.tup [.int (i : Nat), .int z])) f = some (.lst (ps.map V.ref)) := by rw [upd_ne fp]; exact hff
        refine ⟨f, _, _, rfl, rfl, hf2, ?_, ⟨_, _, rfl⟩, same_of (same_of sm (Same.free sm ht)) hf, ?_⟩
        · rw [List.length_map]
          exact small1000 (by omega)
        · rw [meetN_some hr1 he]
          exact (tl.same (same_upd ht)).push hf2 upd_same
    · subst es
      rw [Int.toNat_natCast] at tl
      exact ⟨.ref f, rfl, q _ _ sm hf tl⟩
end
/-! ### pieces of tuples -/
@[irreducible] def qRep (K : PySem.W.Frag) : R2 := rRepT K
theorem op_repQ {X : Cx} : OpR X (binaryOp .Mult) (qRep X.K) := by
  unfold qRep
  exact op_repT
theorem rep_go {K : PySem.W.Frag} {H : Hp} {a : Addr} {xs : List V} {k : Int} {Q : VK} (hA : SqT K H a xs) (h0 : xs ≠ []) (h1 : 2 ≤ k) (h2 : k ≤ 1000) (hl : xs.length ≤ 1000) (q : ∀ H' p, Same H H' → SqT K H' p (List.replicate k.toNat xs).flatten → Q (.ref p) H') : qRep K (.ref a) (.int k) H Q := by
  unfold qRep
  exact ⟨a, k, xs, rfl, rfl, hA, h0, h1, h2, hl, fun p hp => q _ p (same_upd hp) (.inl (.inl upd_same))⟩
theorem cut_ex (n : Nat) (lo hi : Option Int) : ∃ a b : Nat, ∀ xs : List V, xs.length = n → cutV xs lo hi = (xs.drop a).take b := ⟨_, _, fun xs h => by unfold cutV; rw [h]⟩
theorem flat_map {α β : Type} (f : α → β) (k : Nat) (l : List α) : (List.replicate k (l.map f)).flatten = ((List.replicate k l).flatten).map f := by
  induction k with
  | zero => rfl
  | succ k ih => rw [List.replicate_succ, List.replicate_succ, List.flatten_cons, List.flatten_cons, ih, List.map_append]
theorem flat_len {α : Type} (k : Nat) (l : List α) : (List.replicate k l).flatten.length = k * l.length := by
  induction k with
  | zero => simp
  | succ k ih => rw [List.replicate_succ, List.flatten_cons, List.length_append, ih, Nat.succ_mul]; omega
theorem flat_mem {α : Type} {k : Nat} {l : List α} {x : α} (h : x ∈ (List.replicate k l).flatten) : x ∈ l := by
  obtain ⟨y, hy, hx⟩ := List.mem_flatten.mp h
  rw [(List.mem_replicate.mp hy).2] at hx
  exact hx
section
variable {K : PySem.W.Frag} {H : Hp}
theorem paired_app : ∀ {qs qs2 : List Addr} {rs rs2 : List Ro}, Paired (fun q r => SqT K H q (rV r)) qs rs → Paired (fun q r => SqT K H q (rV r)) qs2 rs2 → Paired (fun q r => SqT K H q (rV r)) (qs ++ qs2) (rs ++ rs2)
  | _, _, _, _, .nil, h => h
  | _, _, _, _, .cons h t, h2 => .cons h (paired_app t h2)
theorem paired_take : ∀ {qs : List Addr} {rs : List Ro} (k : Nat), Paired (fun q r => SqT K H q (rV r)) qs rs → Paired (fun q r => SqT K H q (rV r)) (qs.take k) (rs.take k)
  | _, _, _, .nil => by simp only [List.take_nil]; exact .nil
  | _, _, 0, .cons h t => .nil
  | _, _, k + 1, .cons h t => .cons h (paired_take k t)
theorem paired_drop : ∀ {qs : List Addr} {rs : List Ro} (k : Nat), Paired (fun q r => SqT K H q (rV r)) qs rs → Paired (fun q r => SqT K H q (rV r)) (qs.drop k) (rs.drop k)
  | _, _, _, .nil => by simp only [List.drop_nil]; exact .nil
  | _, _, 0, .cons h t => .cons h t
  | _, _, k + 1, .cons h t => paired_drop k t
theorem paired_rep {qs : List Addr} {rs : List Ro} (h : Paired (fun q r => SqT K H q (rV r)) qs rs) : ∀ k : Nat, Paired (fun q r => SqT K H q (rV r)) (List.replicate k qs).flatten (List.replicate k rs).flatten
  | 0 => .nil
  | k + 1 => by
    rw [List.replicate_succ, List.replicate_succ, List.flatten_cons, List.flatten_cons]
    exact paired_app h (paired_rep h k)
end
end Sv


set_option maxHeartbeats 8000000
namespace Sv
open PySem PySem.Spec PyProof.Rows L2
section
variable {P : Program} {w : World} {K : PySem.W.Frag} {mg : Str → Option Value} {base : Heap}
/-- the parts of a plan -/
structure Pk (K : PySem.W.Frag) (H : Hp) (a b : Addr) (zs : List Int) (qs : List Addr) (rs : List Ro) : Prop where
  a : SqT K H a (zs.map V.int)
  b : SqT K H b (qs.map V.ref)
  p : Paired (fun q r => SqT K H q (rV r)) qs rs
theorem Pk.same {H H' : Hp} {a b : Addr} {zs : List Int} {qs : List Addr} {rs : List Ro} (x : Pk K H a b zs qs rs) (e : Same H H') : Pk K H' a b zs qs rs := ⟨sqT_same e x.a, sqT_same e x.b, paired_same e x.p⟩
theorem Pk.x {H H' : Hp} {h l a b : Addr} {zs : List Int} {qs : List Addr} {rs : List Ro} (x : Pk K H a b zs qs rs) (L : LawH H h l) (e : SameX h l H H') : Pk K H' a b zs qs rs := ⟨sqT_x L e x.a, sqT_x L e x.b, paired_x L e x.p⟩
theorem sl_goI {α : Type} {f : α → V} {H : Hp} {a : Addr} {l : List α} {lo hi : Option Int} {Q : VK} (hA : SqT K H a (l.map f)) (q : ∀ H' p x y, Same H H' → SqT K H' p (((l.drop x).take y).map f) → Q (.ref p) H') : qSl K (.ref a) lo hi H Q := by
  obtain ⟨x, y, e⟩ := cut_ex l.length lo hi
  refine sl_go hA fun H' p sm hp => q H' p x y sm ?_
  rw [e _ (List.length_map _), ← List.map_drop, ← List.map_take] at hp
  exact hp
def nSpo : List Str := ["_law_h", "_law_plan_here", "_law_sizes", "_law_routes", "_law_k", "_law_j", "_law_kind", "_law_odd", "_law_entry", "_law_route"]
theorem scSpoilt : FnScope nSpo ["_law_h", "_law_plan_here"] (defScope sSpoilt) := ⟨rfl, rfl, rfl, by decide +kernel, rfl, by decide +kernel, by decide +kernel⟩
def spSpoilt (K : PySem.W.Frag) : Sp := fun vs H Q _ => ∃ (h l p : Addr) (zs : List Int) (rs : List Ro), vs = [.ref h, .ref p] ∧ LawH H h l ∧ PlanAt K H p zs rs ∧ Good2 zs rs ∧ ∀ H' p' zs' rs', St h l H H' → PlanAt K H' p' zs' rs' → Small zs' rs' → Q (.ref p') H'
theorem ok_spoilt {f fN : Addr} {fd dN : FuncData} (F : Df K mg "_law_spoilt" sSpoilt ["_law_h", "_law_plan_here"] f fd) (FN : Df K mg "_law_next" sNext ["_law_h", "_law_limit"] fN dN) (B : Bt mg) : FnOk P w K mg base CX0 2 f fd ["_law_h", "_law_plan_here"] (spSpoilt K) := by
  have GN : FnOk P w K mg base CX0 1 fN dN ["_law_h", "_law_limit"] qNext := by unfold qNext; exact ok_next FN.F B
  refine F.F.ok scSpoilt (fun vs H Q E h => ?_) (fun cdv A outer s H vs Q E hr h => ?_)
  · obtain ⟨h, l, p, zs, rs, rfl, _⟩ := h
    rfl
  · obtain ⟨h, l, p, zs, rs, rfl, LH, hp, gd, q⟩ := h
    obtain ⟨a, b, hp1, ha, hb⟩ := hp.ex
    obtain ⟨qs, hA, hP⟩ := hb.ex
    have hql := paired_len hP
    refine ⟨_, pss_cons (ps_asg (pv 1) (pg_tup rfl (pgs_cons (pg_name (i := 2) scSpoilt.nd rfl (.inl rfl)) (pgs_cons (pg_name (i := 3) scSpoilt.nd rfl (.inl rfl)) pgs_nil))))
      (pss_cons (ps_par3 (i := 4) (j := 5) (l := 6) rfl scSpoilt.nd rfl rfl rfl (by decide) (by decide) (by decide) rfl rfl rfl (pa_cons (pe_call (E := E0) GN hr (by rfl) FN.g FN.F.kp FN.b .nil pass0 (pa_cons (pv 0) (pa_cons (pe_callB call_len_seq (by rfl) B.len b_len (pa_cons (pv 2) pa_nil)) pa_nil)))
          (pa_cons (pe_call (E := E0) GN hr (by rfl) FN.g FN.F.kp FN.b .nil pass0 (pa_cons (pv 0) (pa_cons (pe_callB call_len_seq (by rfl) B.len b_len (pa_cons (pv 3) pa_nil)) pa_nil)))
          (pa_cons (pe_call (E := E0) GN hr (by rfl) FN.g FN.F.kp FN.b .nil pass0 (pa_cons (pv 0) (pa_cons pe_int pa_nil))) pa_nil))) (by rfl))
      (pss_cons (ps_set (i := 7) scSpoilt.nd rfl (Or.inl rfl) (pe_ix ix_list (pe_lst (pa_cons (pe_un un_neg pe_int) (pa_cons pe_int (pa_cons pe_int (pa_cons pe_int pa_nil))))) (pe_call (E := E0) GN hr (by rfl) FN.g FN.F.kp FN.b .nil pass0 (pa_cons (pv 0) (pa_cons pe_int pa_nil))) (fun _ _ => rfl)))
      (pss_cons (ps_if (pt_cmpR op_eq (pv 6) pe_int (nomark _)) (pss_one (ps_ret (pe_tup (pa_cons (pe_op op_catQ (pe_op op_catQ (pe_slice sl_tupQ (pv 2) po_none (po_some (pv 4))) (pe_tup (pa_cons (pv 7) pa_nil))) (pe_slice sl_tupQ (pv 2) (po_some (pe_op op_add (pv 4) pe_int)) po_none)) (pa_cons (pv 3) pa_nil))))) pss_nil)
      (pss_cons (ps_if (pt_cmpR op_eq (pv 6) pe_int (nomark _)) (pss_one (ps_ret (pe_ifExp (pt_cmpR op_gt (pe_callB call_len_seq (by rfl) B.len b_len (pa_cons (pv 2) pa_nil)) pe_int (nomark _))
          (pe_tup (pa_cons (pe_ix ix_list (pe_lst (pa_cons (pe_tup pa_nil) (pa_cons (pe_op op_repQ (pv 2) pe_int) pa_nil))) (pe_call (E := E0) GN hr (by rfl) FN.g FN.F.kp FN.b .nil pass0 (pa_cons (pv 0) (pa_cons pe_int pa_nil))) (fun _ _ => rfl)) (pa_cons (pv 3) pa_nil)))
          (pe_tup (pa_cons (pe_op op_repQ (pv 2) pe_int) (pa_cons (pv 3) pa_nil)))))) pss_nil)
      (pss_cons (ps_if (pt_cmpR op_eq (pv 6) pe_int (nomark _)) (pss_one (ps_ret (pe_tup (pa_cons (pv 2) (pa_cons (pe_ix ix_list (pe_lst (pa_cons (pe_tup pa_nil) (pa_cons (pe_op op_repQ (pv 3) pe_int) (pa_cons (pe_op op_repQ (pv 3) pe_int) pa_nil)))) (pe_call (E := E0) GN hr (by rfl) FN.g FN.F.kp FN.b .nil pass0 (pa_cons (pv 0) (pa_cons pe_int pa_nil))) (fun _ _ => rfl)) pa_nil))))) pss_nil)
      (pss_cons (ps_set (i := 8) scSpoilt.nd rfl (Or.inl rfl) (pe_ix ix_list (pe_lst (pa_cons (pe_un un_neg pe_int) (pa_cons (pe_callB call_len_seq (by rfl) B.len b_len (pa_cons (pv 2) pa_nil)) (pa_cons pe_non (pa_cons (pe_op op_sub (pe_callB call_len_seq (by rfl) B.len b_len (pa_cons (pv 2) pa_nil)) pe_int) pa_nil))))) (pe_call (E := E0) GN hr (by rfl) FN.g FN.F.kp FN.b .nil pass0 (pa_cons (pv 0) (pa_cons pe_int pa_nil))) (fun _ _ => rfl)))
      (pss_cons (ps_set (i := 9) scSpoilt.nd rfl (Or.inl rfl) (pe_ix ix_list (pe_lst (pa_cons (pe_tup pa_nil) (pa_cons (pe_op op_repQ (pe_ix ix_tup (pv 3) (pv 5) (fun _ _ => rfl)) pe_int) (pa_cons (pe_op op_catQ (pe_slice sl_tupQ (pe_ix ix_tup (pv 3) (pv 5) (fun _ _ => rfl)) po_none (po_some (pe_un un_neg pe_int))) (pe_tup (pa_cons (pv 8) pa_nil)))
          (pa_cons (pe_op op_catQ (pe_tup (pa_cons (pv 8) pa_nil)) (pe_ix ix_tup (pv 3) (pv 5) (fun _ _ => rfl))) pa_nil))))) (pe_call (E := E0) GN hr (by rfl) FN.g FN.F.kp FN.b .nil pass0 (pa_cons (pv 0) (pa_cons pe_int pa_nil))) (fun _ _ => rfl)))
      (pss_one (ps_ret (pe_tup (pa_cons (pv 2) (pa_cons (pe_op op_catQ (pe_op op_catQ (pe_slice sl_tupQ (pv 3) po_none (po_some (pv 5))) (pe_tup (pa_cons (pv 9) pa_nil))) (pe_slice sl_tupQ (pv 3) (po_some (pe_op op_add (pv 5) pe_int)) po_none)) pa_nil)))))))))))), ?_⟩
    have K0 : Pk K H a b zs qs rs := ⟨ha, hA, hP⟩
    refine ⟨.ref p, rfl, p, _, rfl, hp1, rfl, _, _, rfl, _, _, rfl, rfl, ?_⟩
    refine ⟨.ref h, rfl, .ref a, rfl, a, _, rfl, .inr K0.a, ?_⟩
    rw [List.length_map]
    have p64 : (1000 : Int) < 2 ^ 64 := by decide
    obtain ⟨⟨z1, z12⟩, _, ⟨r1, r6⟩, gr⟩ := gd
    show qNext _ _ _ _
    refine go_next LH (by omega) (by omega) fun n1 H1 hn1 L1 x1 => ?_
    have S1 := (St.refl LH).next L1 x1
    have K1 := K0.x LH x1
    refine ⟨.ref h, rfl, .ref b, rfl, b, _, rfl, .inr K1.b, ?_⟩
    rw [List.length_map, hql]
    show qNext _ _ _ _
    refine go_next L1 (by omega) (by omega) fun n2 H2 hn2 L2' x2 => ?_
    have S2 := S1.next L2' x2
    have K2 := K1.x L1 x2
    refine ⟨.ref h, rfl, ?_⟩
    show qNext _ _ _ _
    refine go_next L2' (by decide) (by decide) fun kd H3 hkd L3 x3 => ?_
    have S3 := S2.next L3 x3
    have K3 := K2.x L2' x3
    refine ⟨_, _, _, rfl, ?_⟩
    refine ⟨1, rfl, (by show 4 ≤ sizeLine; decide), fun D hD => ⟨.ref h, rfl, ?_⟩⟩
    obtain ⟨Dh, Dl⟩ := L3.nh hD
    have S4 := S3.same (same_upd (o := .lst [.int (-1), .int 10, .int 9, .int 99]) hD)
    have K4 := K3.same (same_upd (o := .lst [.int (-1), .int 10, .int 9, .int 99]) hD)
    have kD : (upd H3 D (.lst [.int (-1), .int 10, .int 9, .int 99])) D = some (.lst [.int (-1), .int 10, .int 9, .int 99]) := upd_same
    generalize (upd H3 D (.lst [.int (-1), .int 10, .int 9, .int 99])) = H4 at S4 K4 kD ⊢
    show qNext _ _ _ _
    refine go_next S4.law (by decide) (by decide) fun n4 H5 hn4 L5 x5 => ?_
    have S5 := S4.next L5 x5
    have K5 := K4.x S4.law x5
    have kD5 := x5 _ _ Dh Dl kD
    obtain ⟨o, hat⟩ : ∃ o : Int, atI [V.int (-1), V.int 10, V.int 9, V.int 99] (n4 : Nat) = some (.int o) := by
      have : n4 = 0 ∨ n4 = 1 ∨ n4 = 2 ∨ n4 = 3 := by omega
      rcases this with rfl | rfl | rfl | rfl
      · exact ⟨-1, rfl⟩
      · exact ⟨10, rfl⟩
      · exact ⟨9, rfl⟩
      · exact ⟨99, rfl⟩
    refine ⟨D, _, _, _, rfl, rfl, .inl (.inl kD5), hat, ?_⟩
    have e1 : (1 : Int) + 0 = 1 := rfl
    have fin : ∀ {H' : Hp} {x y : Addr} {zs' : List Int} {rs' : List Ro}, St h l H H' → SqT K H' x (zs'.map V.int) → RtAt K H' y rs' → Small zs' rs' → (2 ≤ sizeLine ∧ ∀ p, H' p = none → Q (.ref p) (upd H' p (.tup [.ref x, .ref y]))) := fun S hx hy sm => ⟨by decide, fun p hp => q _ p _ _ (S.same (same_upd hp)) ⟨_, _, .inl (.inl upd_same), sqT_same (same_upd hp) hx, hy.same (same_upd hp)⟩ sm⟩
    have b1000 : ∀ r ∈ rs, r.length ≤ 1000 := fun r hr => by have := gr r hr; omega
    -- one size is odd
    refine ⟨.int kd, rfl, rfl, _, rfl, ?_⟩
    by_cases d0 : kd = 0
    · rw [decide_eq_true (by rw [d0]; rfl)]
      refine iteT ⟨.ref a, rfl, .int (n1 : Nat), rfl, n1, rfl, sl_goI K5.a fun H6 t1 u1 v1 s6 h6 => ?_⟩
      refine ⟨.int o, rfl, (by show 1 ≤ sizeLine; decide), fun t2 ht2 => ?_⟩
      have s7 : Same H6 (upd H6 t2 (.tup [.int o])) := same_upd ht2
      have h7 : SqT K (upd H6 t2 (.tup [.int o])) t2 ([o].map V.int) := .inl (.inl upd_same)
      generalize (upd H6 t2 (.tup [.int o])) = H7 at s7 h7 ⊢
      refine cat_go (sqT_same s7 h6) h7 ?_ fun H8 t3 s8 h8 => ?_
      · rw [List.length_map, List.length_take, List.length_drop]
        show _ + 1 ≤ 1000
        omega
      have s58 := (s6.trans s7).trans s8
      refine ⟨.ref a, rfl, .int (n1 : Nat), rfl, n1, 1, rfl, rfl, (n1 : Int) + 1, rfl, sl_goI (K5.same s58).a fun H9 t4 u2 v2 s9 h9 => ?_⟩
      refine cat_go (sqT_same s9 h8) h9 ?_ fun H10 t5 s10 h10 => ?_
      · rw [List.length_append, List.length_map, List.length_map, List.length_map, List.length_take, List.length_drop, List.length_take, List.length_drop]
        show _ + 1 + _ ≤ 1000
        omega
      have s5a := (s58.trans s9).trans s10
      rw [← List.map_append, ← List.map_append] at h10
      refine ⟨.ref b, rfl, fin (S5.same s5a) h10 ⟨qs, (K5.same s5a).b, (K5.same s5a).p⟩ ⟨?_, by omega, b1000⟩⟩
      rw [List.length_append, List.length_append, List.length_take, List.length_drop, List.length_take, List.length_drop]
      show _ + 1 + _ ≤ 1000
      omega
    rw [decide_eq_false fun z => d0 (by have := V.int.inj z; omega)]
    refine iteF ?_
    -- too few or too many sizes
    refine ⟨.int kd, rfl, rfl, _, rfl, ?_⟩
    have zne : zs.map V.int ≠ [] := fun z => by have := congrArg List.length z; rw [List.length_map] at this; simp at this; rw [this] at z1; simp at z1
    by_cases d1 : kd = 1
    · rw [decide_eq_true (by rw [d1]; rfl)]
      refine iteT ?_
      refine ⟨.ref a, rfl, a, _, rfl, .inr K5.a, _, _, rfl, rfl, _, rfl, ?_⟩
      rw [List.length_map]
      by_cases c : (1 : Int) < (zs.length : Nat)
      · rw [decide_eq_true c]
        refine iteT ⟨(by show 0 ≤ sizeLine; decide), fun t1 ht1 => ?_⟩
        have S6 := S5.same (same_upd (o := .tup []) ht1)
        have K6 := K5.same (same_upd (o := .tup []) ht1)
        have k1 : SqT K (upd H5 t1 (.tup [])) t1 (([] : List Int).map V.int) := .inl (.inl upd_same)
        generalize (upd H5 t1 (.tup [])) = H6 at S6 K6 k1 ⊢
        refine ⟨.ref a, rfl, rep_go K6.a zne (by decide) (by decide) (by rw [List.length_map]; omega) fun H7 t2 s7 h7 => ?_⟩
        rw [flat_map] at h7
        refine ⟨(by show 2 ≤ sizeLine; decide), fun D2 hD2 => ⟨.ref h, rfl, ?_⟩⟩
        have S7 := S6.same s7
        obtain ⟨Eh, El⟩ := S7.law.nh hD2
        have s8 := same_upd (o := .lst [.ref t1, .ref t2]) hD2
        have S8 := S7.same s8
        have kE : (upd H7 D2 (.lst [.ref t1, .ref t2])) D2 = some (.lst [.ref t1, .ref t2]) := upd_same
        generalize (upd H7 D2 (.lst [.ref t1, .ref t2])) = H8 at s8 S8 kE ⊢
        have K8 := (K6.same s7).same s8
        have k18 := sqT_same s8 (sqT_same s7 k1)
        have k28 := sqT_same s8 h7
        show qNext _ _ _ _
        refine go_next S8.law (by decide) (by decide) fun n5 H9 hn5 L9 x9 => ?_
        have S9 := S8.next L9 x9
        have K9 := K8.x S8.law x9
        have kE9 := x9 _ _ Eh El kE
        have : n5 = 0 ∨ n5 = 1 := by omega
        rcases this with rfl | rfl
        · refine ⟨D2, _, _, .ref t1, rfl, rfl, .inl (.inl kE9), rfl, .ref b, rfl, fin S9 (sqT_x S8.law x9 k18) ⟨qs, K9.b, K9.p⟩ ⟨by simp, by omega, b1000⟩⟩
        · refine ⟨D2, _, _, .ref t2, rfl, rfl, .inl (.inl kE9), rfl, .ref b, rfl, fin S9 (sqT_x S8.law x9 k28) ⟨qs, K9.b, K9.p⟩ ⟨?_, by omega, b1000⟩⟩
          rw [flat_len]
          have : (7 : Int).toNat = 7 := rfl
          rw [this]
          omega
      · rw [decide_eq_false c]
        refine iteF ⟨.ref a, rfl, rep_go K5.a zne (by decide) (by decide) (by rw [List.length_map]; omega) fun H7 t2 s7 h7 => ?_⟩
        rw [flat_map] at h7
        refine ⟨.ref b, rfl, fin (S5.same s7) h7 ⟨qs, (K5.same s7).b, (K5.same s7).p⟩ ⟨?_, by omega, b1000⟩⟩
        rw [flat_len]
        have : (13 : Int).toNat = 13 := rfl
        rw [this]
        omega
    rw [decide_eq_false fun z => d1 (by have := V.int.inj z; omega)]
    refine iteF ?_
    -- too few or too many routes
    refine ⟨.int kd, rfl, rfl, _, rfl, ?_⟩
    have qne : qs.map V.ref ≠ [] := fun z => by have := congrArg List.length z; rw [List.length_map, hql] at this; simp at this; rw [this] at r1; simp at r1
    by_cases d2 : kd = 2
    · rw [decide_eq_true (by rw [d2]; rfl)]
      refine iteT ⟨.ref a, rfl, (by show 0 ≤ sizeLine; decide), fun t1 ht1 => ?_⟩
      have S6 := S5.same (same_upd (o := .tup []) ht1)
      have K6 := K5.same (same_upd (o := .tup []) ht1)
      have k1 : SqT K (upd H5 t1 (.tup [])) t1 (([] : List Addr).map V.ref) := .inl (.inl upd_same)
      generalize (upd H5 t1 (.tup [])) = H6 at S6 K6 k1 ⊢
      refine ⟨.ref b, rfl, rep_go K6.b qne (by decide) (by decide) (by rw [List.length_map]; omega) fun H7 t2 s7 h7 => ?_⟩
      have K7 := K6.same s7
      refine ⟨.ref b, rfl, rep_go K7.b qne (by decide) (by decide) (by rw [List.length_map]; omega) fun H8 t3 s8 h8 => ?_⟩
      rw [flat_map] at h7 h8
      refine ⟨(by show 3 ≤ sizeLine; decide), fun D2 hD2 => ⟨.ref h, rfl, ?_⟩⟩
      have S8 := (S6.same s7).same s8
      obtain ⟨Eh, El⟩ := S8.law.nh hD2
      have s9 := same_upd (o := .lst [.ref t1, .ref t2, .ref t3]) hD2
      have S9 := S8.same s9
      have kE : (upd H8 D2 (.lst [.ref t1, .ref t2, .ref t3])) D2 = some (.lst [.ref t1, .ref t2, .ref t3]) := upd_same
      generalize (upd H8 D2 (.lst [.ref t1, .ref t2, .ref t3])) = H9 at s9 S9 kE ⊢
      have K9 := (K7.same s8).same s9
      have k19 := sqT_same s9 (sqT_same s8 (sqT_same s7 k1))
      have k29 := sqT_same s9 (sqT_same s8 h7)
      have k39 := sqT_same s9 h8
      show qNext _ _ _ _
      refine go_next S9.law (by decide) (by decide) fun n5 Ha hn5 La xa => ?_
      have Sa := S9.next La xa
      have Ka := K9.x S9.law xa
      have kEa := xa _ _ Eh El kE
      have : n5 = 0 ∨ n5 = 1 ∨ n5 = 2 := by omega
      rcases this with rfl | rfl | rfl
      · refine ⟨D2, _, _, .ref t1, rfl, rfl, .inl (.inl kEa), rfl, fin (rs' := []) Sa Ka.a ⟨[], sqT_x S9.law xa k19, .nil⟩ ⟨by omega, by simp, fun r hr => (List.not_mem_nil hr).elim⟩⟩
      · refine ⟨D2, _, _, .ref t2, rfl, rfl, .inl (.inl kEa), rfl, fin Sa Ka.a ⟨_, sqT_x S9.law xa k29, paired_rep Ka.p 7⟩ ⟨by omega, ?_, fun r hr => b1000 r (flat_mem hr)⟩⟩
        rw [flat_len]
        omega
      · refine ⟨D2, _, _, .ref t3, rfl, rfl, .inl (.inl kEa), rfl, fin Sa Ka.a ⟨_, sqT_x S9.law xa k39, paired_rep Ka.p 2⟩ ⟨by omega, ?_, fun r hr => b1000 r (flat_mem hr)⟩⟩
        rw [flat_len]
        omega
    rw [decide_eq_false fun z => d2 (by have := V.int.inj z; omega)]
    refine iteF ?_
    -- another route
    refine ⟨1, rfl, .ref a, rfl, a, _, rfl, .inr K5.a, .ref a, rfl, a, _, rfl, .inr K5.a, _, 1, rfl, rfl, (by show 4 ≤ sizeLine; decide), fun D2 hD2 => ⟨.ref h, rfl, ?_⟩⟩
    obtain ⟨Eh, El⟩ := S5.law.nh hD2
    have s6 := same_upd (o := .lst [.int (-1), .int ((zs.map V.int).length : Nat), .non, .int (((zs.map V.int).length : Nat) - 1)]) hD2
    have S6 := S5.same s6
    have K6 := K5.same s6
    have kE : (upd H5 D2 (.lst [.int (-1), .int ((zs.map V.int).length : Nat), .non, .int (((zs.map V.int).length : Nat) - 1)])) D2 = some (.lst [.int (-1), .int ((zs.map V.int).length : Nat), .non, .int (((zs.map V.int).length : Nat) - 1)]) := upd_same
    generalize (upd H5 D2 (.lst [.int (-1), .int ((zs.map V.int).length : Nat), .non, .int (((zs.map V.int).length : Nat) - 1)])) = H6 at s6 S6 K6 kE ⊢
    show qNext _ _ _ _
    refine go_next S6.law (by decide) (by decide) fun n5 H7 hn5 L7 x7 => ?_
    have S7 := S6.next L7 x7
    have K7 := K6.x S6.law x7
    have kE7 := x7 _ _ Eh El kE
    obtain ⟨e, hat2⟩ : ∃ e : Option Int, atI [V.int (-1), .int ((zs.map V.int).length : Nat), .non, .int (((zs.map V.int).length : Nat) - 1)] (n5 : Nat) = some (eV e) := by
      have : n5 = 0 ∨ n5 = 1 ∨ n5 = 2 ∨ n5 = 3 := by omega
      rcases this with rfl | rfl | rfl | rfl
      · exact ⟨some (-1), rfl⟩
      · exact ⟨some _, rfl⟩
      · exact ⟨none, rfl⟩
      · exact ⟨some _, rfl⟩
    refine ⟨D2, _, _, _, rfl, rfl, .inl (.inl kE7), hat2, ?_⟩
    obtain ⟨qj, hqj⟩ : ∃ q, qs[n2]? = some q := ⟨qs[n2]'(by omega), List.getElem?_eq_getElem (by omega)⟩
    obtain ⟨r, hr1, _⟩ := paired_at hP hqj
    have hrl := gr r (List.mem_of_getElem? hr1)
    have hqi : atI (qs.map V.ref) ((n2 : Nat) : Int) = some (.ref qj) := atI_nat (by rw [List.getElem?_map, hqj]; rfl)
    have rAt : ∀ {H' : Hp}, Pk K H' a b zs qs rs → SqT K H' qj (rV r) := fun k => by
      obtain ⟨r', h1, h2⟩ := paired_at k.p hqj
      obtain rfl : r' = r := Option.some.inj (h1.symm.trans hr1)
      exact h2
    have rne : rV r ≠ [] := fun z => by have := congrArg List.length z; rw [rV_len] at this; simp at this; rw [this] at hrl; simp at hrl
    -- the four routes
    refine ⟨(by show 0 ≤ sizeLine; decide), fun t1 ht1 => ?_⟩
    have s8 := same_upd (o := .tup []) ht1
    have k1 : SqT K (upd H7 t1 (.tup [])) t1 (rV []) := .inl (.inl upd_same)
    generalize (upd H7 t1 (.tup [])) = H8 at s8 k1 ⊢
    have K8 := K7.same s8
    refine ⟨.ref b, rfl, .int (n2 : Nat), rfl, b, _, (n2 : Nat), .ref qj, rfl, rfl, K8.b, hqi, rep_go (rAt K8) rne (by decide) (by decide) (by rw [rV_len]; omega) fun H9 t2 s9 h9 => ?_⟩
    have K9 := K8.same s9
    refine ⟨.ref b, rfl, .int (n2 : Nat), rfl, b, _, (n2 : Nat), .ref qj, rfl, rfl, K9.b, hqi, 1, rfl, -1, rfl, sl_goI (l := r) (f := eV) (rAt K9) fun Ha ta u1 v1 sa ha' => ?_⟩
    have Ka := K9.same sa
    refine ⟨eV e, rfl, (by show 1 ≤ sizeLine; decide), fun tb htb => ?_⟩
    have sb := same_upd (o := .tup [eV e]) htb
    have kb : SqT K (upd Ha tb (.tup [eV e])) tb ([e].map eV) := .inl (.inl upd_same)
    generalize (upd Ha tb (.tup [eV e])) = Hb at sb kb ⊢
    have Kb := Ka.same sb
    refine cat_go (sqT_same sb ha') kb ?_ fun Hc t3 sc hc => ?_
    · rw [List.length_map, List.length_take, List.length_drop]
      show _ + 1 ≤ 1000
      omega
    have Kc := Kb.same sc
    refine ⟨eV e, rfl, (by show 1 ≤ sizeLine; decide), fun td htd => ?_⟩
    have sd := same_upd (o := .tup [eV e]) htd
    have kd2 : SqT K (upd Hc td (.tup [eV e])) td ([e].map eV) := .inl (.inl upd_same)
    generalize (upd Hc td (.tup [eV e])) = Hd at sd kd2 ⊢
    have Kd := Kc.same sd
    refine ⟨.ref b, rfl, .int (n2 : Nat), rfl, b, _, (n2 : Nat), .ref qj, rfl, rfl, Kd.b, hqi, cat_go kd2 (rAt Kd) ?_ fun He t4 se he => ?_⟩
    · rw [rV_len]
      show 1 + _ ≤ 1000
      omega
    have Ke := Kd.same se
    have k1e : SqT K He t1 (rV []) := sqT_same se (sqT_same sd (sqT_same sc (sqT_same sb (sqT_same sa (sqT_same s9 k1)))))
    have k2e : SqT K He t2 (rV (List.replicate 7 r).flatten) := by
      have := sqT_same se (sqT_same sd (sqT_same sc (sqT_same sb (sqT_same sa h9))))
      have e7 : (7 : Int).toNat = 7 := rfl
      unfold rV at this ⊢
      rw [e7, flat_map] at this
      exact this
    have k3e : SqT K He t3 (rV ((r.drop u1).take v1 ++ [e])) := by
      have := sqT_same se (sqT_same sd hc)
      rw [← List.map_append] at this
      exact this
    have k4e : SqT K He t4 (rV ([e] ++ r)) := by
      unfold rV at he ⊢
      rw [List.map_append]
      exact he
    have S8 := (((((((S7.same s8).same s9).same sa).same sb).same sc).same sd).same se)
    refine ⟨(by show 4 ≤ sizeLine; decide), fun D3 hD3 => ⟨.ref h, rfl, ?_⟩⟩
    obtain ⟨Fh, Fl⟩ := S8.law.nh hD3
    have sf := same_upd (o := .lst [.ref t1, .ref t2, .ref t3, .ref t4]) hD3
    have kF : (upd He D3 (.lst [.ref t1, .ref t2, .ref t3, .ref t4])) D3 = some (.lst [.ref t1, .ref t2, .ref t3, .ref t4]) := upd_same
    generalize (upd He D3 (.lst [.ref t1, .ref t2, .ref t3, .ref t4])) = Hf at sf kF ⊢
    have Sf := S8.same sf
    have Kf := Ke.same sf
    show qNext _ _ _ _
    refine go_next Sf.law (by decide) (by decide) fun n6 Hg hn6 Lg xg => ?_
    have Sg := Sf.next Lg xg
    have Kg := Kf.x Sf.law xg
    have kFg := xg _ _ Fh Fl kF
    obtain ⟨tr, r2, hat3, htr, hr2⟩ : ∃ (tr : Addr) (r2 : Ro), atI [V.ref t1, .ref t2, .ref t3, .ref t4] (n6 : Nat) = some (.ref tr) ∧ SqT K Hg tr (rV r2) ∧ r2.length ≤ 1000 := by
      have : n6 = 0 ∨ n6 = 1 ∨ n6 = 2 ∨ n6 = 3 := by omega
      rcases this with rfl | rfl | rfl | rfl
      · exact ⟨t1, _, rfl, sqT_x Sf.law xg (sqT_same sf k1e), by simp⟩
      · exact ⟨t2, _, rfl, sqT_x Sf.law xg (sqT_same sf k2e), by rw [flat_len]; omega⟩
      · refine ⟨t3, _, rfl, sqT_x Sf.law xg (sqT_same sf k3e), ?_⟩
        rw [List.length_append, List.length_take, List.length_drop]
        show _ + 1 ≤ 1000
        omega
      · refine ⟨t4, _, rfl, sqT_x Sf.law xg (sqT_same sf k4e), ?_⟩
        rw [List.length_append]
        show 1 + _ ≤ 1000
        omega
    refine ⟨D3, _, _, _, rfl, rfl, .inl (.inl kFg), hat3, ?_⟩
    -- the routes with it
    refine ⟨.ref a, rfl, .ref b, rfl, .int (n2 : Nat), rfl, n2, rfl, sl_goI Kg.b fun Hh th u2 v2 sh hh => ?_⟩
    have Kh := Kg.same sh
    refine ⟨.ref tr, rfl, (by show 1 ≤ sizeLine; decide), fun ti hti => ?_⟩
    have si := same_upd (o := .tup [.ref tr]) hti
    have ki : SqT K (upd Hh ti (.tup [.ref tr])) ti ([tr].map V.ref) := .inl (.inl upd_same)
    generalize (upd Hh ti (.tup [.ref tr])) = Hi at si ki ⊢
    have Ki := Kh.same si
    refine cat_go (sqT_same si hh) ki ?_ fun Hj tj sj hj => ?_
    · rw [List.length_map, List.length_take, List.length_drop]
      show _ + 1 ≤ 1000
      omega
    have Kj := Ki.same sj
    refine ⟨.ref b, rfl, .int (n2 : Nat), rfl, n2, 1, rfl, rfl, (n2 : Int) + 1, rfl, sl_goI Kj.b fun Hk tk u3 v3 sk hk => ?_⟩
    refine cat_go (sqT_same sk hj) hk ?_ fun Hl tl sl hl => ?_
    · rw [List.length_append, List.length_map, List.length_map, List.length_map, List.length_take, List.length_drop, List.length_take, List.length_drop]
      show _ + 1 + _ ≤ 1000
      omega
    have Kl := (Kj.same sk).same sl
    rw [← List.map_append, ← List.map_append] at hl
    have smgl := (((sh.trans si).trans sj).trans sk).trans sl
    refine fin (rs' := ((rs.drop u2).take v2 ++ [r2]) ++ (rs.drop u3).take v3) (Sg.same smgl) Kl.a ⟨_, hl, paired_app (paired_app (paired_take _ (paired_drop _ Kl.p)) (.cons (sqT_same smgl htr) .nil)) (paired_take _ (paired_drop _ Kl.p))⟩ ⟨by omega, ?_, fun x hx => ?_⟩
    · rw [List.length_append, List.length_append, List.length_take, List.length_drop, List.length_take, List.length_drop]
      show _ + 1 + _ ≤ 1000
      omega
    · rcases List.mem_append.mp hx with hx | hx
      · rcases List.mem_append.mp hx with hx | hx
        · exact b1000 x (List.mem_of_mem_drop (List.mem_of_mem_take hx))
        · rw [List.mem_singleton.mp hx]
          exact hr2
      · exact b1000 x (List.mem_of_mem_drop (List.mem_of_mem_take hx))
end
end Sv


set_option maxHeartbeats 8000000
namespace Sv
open PySem PySem.Spec PyProof.Rows L2 LamX NdefX
/-! ### a function that makes lambdas and hands them to _law_error -/
section
variable {P : Program} {w : World} {K : PySem.W.Frag} {mg : Str → Option Value} {base : Heap}
/-- THE RULE for a def whose code object is known -/
theorem fun_okC {x qual : Str} {st : Stmt} {f c : Addr} {fd : FuncData} {N ps : List Str} {k : Nat} {sp : Sp} (F : Fun K x qual st f fd) (hc : fd.code = .ref c) (S : FnScope N ps (defScope st)) (len : ∀ vs H Q E, sp vs H Q E → vs.length = ps.length)
    (hbody : ∀ (A : Around) (outer : List Env) (s : Shared) (H : Hp) (vs : List V) (Q : VK) (E : XK), Room k (A.deeper (envOfC qual (defScope st) s.heap.objs.size f (.ref c))) → sp vs H Q E →
      ∃ t, PSs (cxOf CX0 P w K mg base N qual (defScope st) f (.ref c) A outer s H E).nox (defBody st) t ∧ t { nx := fun _ H' => Q .non H', rt := Q } (start N vs) H) : FnOk P w K mg base CX0 (k + 1) f fd ps sp := by
  obtain ⟨oc, od, kV, doc, pm, an, cdv, ct, osl, rfl, lk, hcd⟩ := F.ex
  obtain rfl : cdv = .ref c := hc
  refine fn_of lk hcd S len fun A outer s H vs Q E hr hsp => ?_
  obtain ⟨t, h, q⟩ := hbody A outer s H vs Q E hr hsp
  exact ⟨t, h.nox, q⟩
end
/-- the lambda at f, told by the maker's names js -/
def LamIs (X : Cx) (k : Nat) (H : Hp) (f : Addr) (js : List Nat) (tl : List (Option V) → XK → Hp → VK → Prop) : Prop :=
  ∃ (L : LF) (fr : List Str) (dvs : List V), H f = some (LamO f L) ∧ H L.c = some (CodeO L.c L.qual) ∧ DflAt H L.dV dvs ∧ LOk X.prog X.w X.K X.mg X.base k f L fr dvs tl ∧ (X.Ok → Caps X L.cl fr js)
theorem DflAt.ext {H H1 : Hp} {dV : Value} {dvs : List V} (d : DflAt H dV dvs) (e : ExtN H H1) : DflAt H1 dV dvs := by
  rcases d with ⟨a, b⟩ | ⟨a, T, b, c⟩
  · exact .inl ⟨a, b⟩
  · exact .inr ⟨a, T, b, e _ _ c (fun ps z => nomatch z)⟩
theorem LamIs.ext {X : Cx} {k : Nat} {H H1 : Hp} {f : Addr} {js : List Nat} {tl : List (Option V) → XK → Hp → VK → Prop} (h : LamIs X k H f js tl) (e : ExtN H H1) : LamIs X k H1 f js tl := by
  obtain ⟨L, fr, dvs, h1, h2, h3, h4, h5⟩ := h
  exact ⟨L, fr, dvs, e _ _ h1 (fun ps => lamO_tbl ps), e _ _ h2 codeO_ne, h3.ext e, h4, h5⟩
theorem extN_same {H H1 : Hp} (s : Same H H1) : ExtN H H1 := ExtN.of s
def freeB (sc scope : Scope) : Bool := scope.names.all fun y => match y.2 with
  | .free => (match sc.names.lookup y.1 with | some .cell => true | some .free => true | _ => false)
  | _ => true
theorem free_by {sc scope : Scope} (h : freeB sc scope = true) : ∀ y ∈ scope.names, y.2 = .free → sc.names.lookup y.1 = some .cell ∨ sc.names.lookup y.1 = some .free := fun y hy e => by
  have q := List.all_eq_true.mp h y hy
  rw [e] at q
  simp only at q
  split at q
  · rename_i z
    exact .inl z
  · rename_i z
    exact .inr z
  · cases q
/-- the reading of a lambda as a value -/
def tLamK (X : Cx) (k : Nat) (T : List (Addr × Str)) (js : List Nat) (tl : List (Option V) → XK → Hp → VK → Prop) : TE := fun _ H Q => Tabs T H ∧ ∀ (f : Addr) (H1 : Hp), ExtN H H1 → (∀ b, H1 b = none → H b = none) → Tabs T H1 → H f = none → LamIs X k H1 f js tl → Q (.ref f) H1
section
variable {X : Cx} {k : Nat} {T : List (Addr × Str)} {c P : Addr} {params : Arguments} {body : Expr} {scope : Scope} {pos : Pos} {js : List Nat} {fr N ps : List Str} {tl : List (Option V) → XK → Hp → VK → Prop}
/-- what its body keeps, wherever it was made -/
def LamB (X : Cx) (k : Nat) (N : List Str) (params : Arguments) (body : Expr) (scope : Scope) (fr : List Str) (dvs : List V) (tl : List (Option V) → XK → Hp → VK → Prop) : Prop :=
  ∀ (qual : Str) (cl : List (Str × Addr)) (dV : Value) (c f : Addr) (A : Around) (outer : List Env) (s : Shared) (H : Hp) (ws : List (Option V)) (Q : VK) (E : XK), Room k (A.deeper (envF (LF.nf ⟨params, body, scope, qual, cl, dV, c⟩) f s.heap.objs.size)) → tl ws E H Q →
    ∃ t, PE (ncx (L2.CX X.prog X.w) X.prog X.w X.K X.mg X.base N (LF.nf ⟨params, body, scope, qual, cl, dV, c⟩) f A outer s H E) body t ∧ t (startF N dvs ws) H Q
theorem lamB_ok {f c' : Addr} {cl : List (Str × Addr)} {q : Str} {dV : Value} {dvs : List V} (hB : LamB X k N params body scope fr dvs tl) (S : NScope N ps fr scope) (hb : LBinds ⟨params, body, scope, q, cl, dV, c'⟩ ps dvs) (hl : dvs.length = ps.length) :
    LOk X.prog X.w X.K X.mg X.base (k + 1) f ⟨params, body, scope, q, cl, dV, c'⟩ fr dvs tl := lok_of S hb hl fun A outer s H ws Q E hr _ ht => hB q cl dV c' f A outer s H ws Q E hr ht
theorem pe_lamK0 (LT : LamT X T c P) (hB : LamB X k N params body scope fr [] tl) (hd : defaultsOf params X.env = ([], []) := by rfl)
    (hfree : ∀ y ∈ scope.names, y.2 = .free → X.env.scope.names.lookup y.1 = some .cell ∨ X.env.scope.names.lookup y.1 = some .free := by exact free_by rfl)
    (S : NScope N [] fr scope := by exact nscope_by (by decide +kernel)) (hbn : ∀ q cl pm cv ctv, bindArgs (PySem.W.kla_fn "<lambda>" q params body scope cl pm cv ctv) ⟨[], []⟩ = pure [] := by intro q cl pm cv ctv; rfl)
    (hfr : ∀ y ∈ fr, (y, NameKind.free) ∈ scope.names := by decide +kernel) (hjs : js.map (fun j => X.N[j]?) = fr.map some := by rfl) :
    PE X (.Lambda params body scope pos) (tLamK X (k + 1) T js tl) := by
  refine ⟨fun pins s σ H Q I ⟨hT, h⟩ => (pe_lam0 LT hd hfree).run pins s σ H Q I ⟨hT, fun f c' dV H1 a1 a2 a3 a4 a5 a6 a7 => h f H1 a1 a2 a3 a4 ⟨_, fr, [], a5, a6, a7, lamB_ok hB S (lbinds0 hbn) rfl, fun ok => Caps.made ok hfree hfr hjs⟩⟩⟩
theorem pe_lamK1 {i : Int} {jn : Nat} {p2 : Pos} {a : Str} (LT : LamT X T c P) (hB : LamB X k N params body scope fr [.int i] tl) (hbn : ∀ q cl pm cv ctv (T : Addr) (u : Value), ∃ k, bindArgs { PySem.W.kla_fn "<lambda>" q params body scope cl pm cv ctv with defaults := .ref T } ⟨[], []⟩ = seqItems? (.ref T) >>= k ∧ k (some [u].toArray) = pure [(a, u)])
    (hd : defaultsOf params X.env = ([eval (.Constant (.int i) jn p2) X.env], []) := by rfl)
    (hfree : ∀ y ∈ scope.names, y.2 = .free → X.env.scope.names.lookup y.1 = some .cell ∨ X.env.scope.names.lookup y.1 = some .free := by exact free_by rfl)
    (S : NScope N [a] fr scope := by exact nscope_by (by decide +kernel))
    (hfr : ∀ y ∈ fr, (y, NameKind.free) ∈ scope.names := by decide +kernel) (hjs : js.map (fun j => X.N[j]?) = fr.map some := by rfl) :
    PE X (.Lambda params body scope pos) (tLamK X (k + 1) T js tl) := by
  refine ⟨fun pins s σ H Q I ⟨hT, h⟩ => (pe_lam1 (j := 0) LT hd hfree).run pins s σ H Q I ⟨hT, fun f c' dV H1 a1 a2 a3 a4 a5 a6 a7 => h f H1 a1 a2 a3 a4 ⟨_, fr, [.int i], a5, a6, a7, lamB_ok hB S (lbinds1 hbn) rfl, fun ok => Caps.made ok hfree hfr hjs⟩⟩⟩
end
section
variable {CS C0 C1 C2 C3 C4 C5 C6 C7 C8 C9 C10 C11 C12 C13 C14 : Addr}
/-- the reading of _law_error(lambda: ..) -/
def tErrL (K : PySem.W.Frag) (T : List (Addr × Str)) (js : List Nat) (tl : List (Option V) → XK → Hp → VK → Prop) (CS C0 C1 C2 C3 C4 C5 C6 C7 C8 C9 C10 C11 C12 C13 C14 : Addr) : TE := fun σ H Q => Tabs T H ∧ ∀ H1, ExtN H H1 → (∀ b, H1 b = none → H b = none) → Tabs T H1 → tl (js.map (slotAt σ)) (ErrE K CS C0 C1 C2 C3 C4 C5 C6 C7 C8 C9 C10 C11 C12 C13 C14 Q) H1 (OkQ Q)
/-- .. of a lambda that the def around holds -/
def tErrB (X : Cx) (k i : Nat) (σ0 : L2.St) (CS C0 C1 C2 C3 C4 C5 C6 C7 C8 C9 C10 C11 C12 C13 C14 : Addr) : TE := fun σ H Q => ∃ f js tl, σ[i]? = some (some (.ref f)) ∧ LamIs X k H f js tl ∧ tl (js.map (slotAt σ0)) (ErrE X.K CS C0 C1 C2 C3 C4 C5 C6 C7 C8 C9 C10 C11 C12 C13 C14 Q) H (OkQ Q)
/-- _law_error(lambda: ..) -/
theorem pe_errLam {X : Cx} {k : Nat} {g : Addr} {T : List (Addr × Str)} {js : List Nat} {tl : List (Option V) → XK → Hp → VK → Prop} {e : Expr} {p pos : Pos} (G : FnSt X.prog X.w X.K X.mg X.base (k + 1) g (KnErr X.prog X.w X.K X.mg X.base k CS C0 C1 C2 C3 C4 C5 C6 C7 C8 C9 C10 C11 C12 C13 C14))
    (hr : Room (k + 1) X.A) (hg : Gl X "_law_error") (hm : X.mg "_law_error" = some (.ref g)) (hk : PySem.W.keepIn X.K (.ref g) = true)
    (hfar : ∀ (pins : List (Addr × Obj)) (σ : L2.St) (H : Hp) (s : Shared), Inv X pins σ H s → Far X) (he : PE X e (tLamK X k T js tl)) (hst : starEach [e] X.env = (false, eval e X.env) :: starEach [] X.env := by rfl) :
    PE X (.Call (.Name "_law_error" p) [e] [] pos) (tErrL X.K T js tl CS C0 C1 C2 C3 C4 C5 C6 C7 C8 C9 C10 C11 C12 C13 C14) := by
  refine ⟨fun pins s σ H Q I ⟨hT, h⟩ => (pe_callSt (te := fun σ1 H1 Q1 => σ1 = σ ∧ tLamK X k T js tl σ1 H1 Q1) G hr hg hm hk ⟨fun pins s σ1 H Q I h => he.run pins s σ1 H Q I h.2⟩ (hst := hst)).run pins s σ H Q I ⟨rfl, hT, fun f H1 a1 a2 a3 a4 a5 pins' s' I' => ?_⟩⟩
  obtain ⟨L, fr, dvs, h1, h2, h3, h4, h5⟩ := a5
  have cp := h5 I'.ok
  exact ⟨f, L, fr, dvs, js.map (slotAt σ), tl, rfl, ⟨h1, h2, h3, h4, cells_of I' cp, fun y c e => hfar _ _ _ _ I' y c (cp.sub y c e)⟩, h H1 a1 a2 a3⟩
/-- _law_error(x) in a comprehension, x a lambda of the def around it -/
theorem pe_errBlk {X : Cx} {k : Nat} {g : Addr} {i : Nat} {x : Str} {p p2 pos : Pos} {scope : Scope} {σ0 : L2.St} {s0 : Shared} {H0 : Hp} {C : Addr} {cl : List (Str × Addr)} {fp : List Addr} (G : FnSt X.prog X.w X.K X.mg X.base (k + 1) g (KnErr X.prog X.w X.K X.mg X.base k CS C0 C1 C2 C3 C4 C5 C6 C7 C8 C9 C10 C11 C12 C13 C14))
    (hr : Room (k + 1) X.A) (hX : ∀ y, X.fn y = true) (B0 : Blk0 X σ0 s0 H0 cl fp) (hg : Gl (X.blk s0 H0 scope (compEnvC scope cl C X.env) fp) "_law_error") (hm : X.mg "_law_error" = some (.ref g)) (hk : PySem.W.keepIn X.K (.ref g) = true)
    (hv : PE (X.blk s0 H0 scope (compEnvC scope cl C X.env) fp) (.Name x p2) (tVar i)) :
    PE (X.blk s0 H0 scope (compEnvC scope cl C X.env) fp) (.Call (.Name "_law_error" p) [.Name x p2] [] pos)
      (tErrB X k i σ0 CS C0 C1 C2 C3 C4 C5 C6 C7 C8 C9 C10 C11 C12 C13 C14) := by
  refine ⟨fun pins s σ H Q I ⟨f, js, tl, e1, ⟨L, fr, dvs, h1, h2, h3, h4, h5⟩, ht⟩ => (pe_callSt (Y := X.blk s0 H0 scope (compEnvC scope cl C X.env) fp) G hr hg hm hk hv).run pins s σ H Q I ⟨.ref f, e1, fun pins' s' I' => ?_⟩⟩
  obtain ⟨pins0, I0, hfp⟩ := B0.inv
  have cp := h5 I0.ok
  have far := far_def I0 hX
  refine ⟨f, L, fr, dvs, js.map (slotAt σ0), tl, rfl, ⟨h1, h2, h3, h4, ?_, fun y c e => far y c (cp.sub y c e)⟩, ht⟩
  refine cells_later (fs := frs X.stack) (ex := fp) (cells_of I0 cp) (fun y c e => far y c (cp.sub y c e)) (fun y c e hm => ?_) I'.base
  exact (hfp c hm).2.2.2.2.1 y c (cp.sub y c e) rfl
end
end Sv


set_option maxHeartbeats 8000000
namespace Sv
open PySem PySem.Spec PyProof.Rows L2 LamX NdefX
/-! ### what the law knows between its steps -/
/-- all but lists and tables stay -/
def ExtL (H H1 : Hp) : Prop := ∀ b o, H b = some o → (∀ xs, o ≠ .lst xs) → (∀ ps, o ≠ .tbl ps) → H1 b = some o
theorem ExtL.refl (H : Hp) : ExtL H H := fun _ _ e _ _ => e
theorem ExtL.trans {H H1 H2 : Hp} (a : ExtL H H1) (b : ExtL H1 H2) : ExtL H H2 := fun c o e n m => b c o (a c o e n m) n m
theorem ExtL.n {H H1 : Hp} (e : ExtN H H1) : ExtL H H1 := fun b o h _ m => e b o h m
theorem ExtL.s {H H1 : Hp} (e : Same H H1) : ExtL H H1 := fun b o h _ _ => e b o h
theorem ExtL.x {H H1 : Hp} {h l : Addr} (L : LawH H h l) (e : SameX h l H H1) : ExtL H H1 := fun b o hb n _ => by
  obtain ⟨m, i, cs, e1, e2, _⟩ := L.ex
  refine e b o (fun z => ?_) (fun z => ?_) hb
  · rw [z, e1] at hb
    exact n _ (Option.some.inj hb).symm
  · rw [z, e2] at hb
    exact n _ (Option.some.inj hb).symm
theorem ExtL.upd {H : Hp} {p : Addr} {xs : List V} {o : HO} (h : H p = some (.lst xs)) : ExtL H (L2.upd H p o) := fun b u e n _ => by
  rw [upd_ne (fun z => by rw [z, h] at e; exact n _ (Option.some.inj e).symm)]
  exact e
theorem sqT_ext {K : PySem.W.Frag} {H H1 : Hp} {a : Addr} {xs : List V} (e : ExtL H H1) (h : SqT K H a xs) : SqT K H1 a xs := by
  rcases h with (h | ⟨o, h⟩) | h
  · exact .inl (.inl (e _ _ h (fun _ z => nomatch z) (fun _ z => nomatch z)))
  · exact .inl (.inr ⟨o, e _ _ h (fun _ z => nomatch z) (fun _ z => nomatch z)⟩)
  · exact .inr h
theorem LamIs.extL {X : Cx} {k : Nat} {H H1 : Hp} {f : Addr} {js : List Nat} {tl : List (Option V) → XK → Hp → VK → Prop} (h : LamIs X k H f js tl) (e : ExtL H H1) : LamIs X k H1 f js tl := by
  obtain ⟨L, fr, dvs, h1, h2, h3, h4, h5⟩ := h
  refine ⟨L, fr, dvs, e _ _ h1 (fun _ z => by unfold LamO at z; cases z) (fun ps => lamO_tbl ps), e _ _ h2 (fun _ z => by unfold CodeO at z; cases z) codeO_ne, ?_, h4, h5⟩
  rcases h3 with ⟨a, b⟩ | ⟨a, T, b, c⟩
  · exact .inl ⟨a, b⟩
  · exact .inr ⟨a, T, b, e _ _ c (fun _ z => nomatch z) (fun _ z => nomatch z)⟩
theorem LamIs.not_lst {X : Cx} {k : Nat} {H : Hp} {f p : Addr} {js : List Nat} {tl : List (Option V) → XK → Hp → VK → Prop} {xs : List V} (h : LamIs X k H f js tl) (hp : H p = some (.lst xs)) : f ≠ p := fun z => by
  obtain ⟨L, fr, dvs, h1, _⟩ := h
  rw [z, hp] at h1
  have := Option.some.inj h1
  unfold LamO at this
  cases this
/-- the law's source and its table -/
structure LS (T : List (Addr × Str)) (h l : Addr) (H : Hp) : Prop where
  law : LawH H h l
  tabs : Tabs T H
theorem LawH.ext {H H' : Hp} {h l : Addr} (x : LawH H h l) (e : ExtN H H') : LawH H' h l := by
  obtain ⟨m, i, cs, e1, e2, e3⟩ := x.ex
  exact ⟨m, i, cs, e _ _ e1 (fun _ z => nomatch z), e _ _ e2 (fun _ z => nomatch z), e3⟩
theorem tabs_x {T : List (Addr × Str)} {H H1 : Hp} {h l : Addr} (t : Tabs T H) (L : LawH H h l) (e : SameX h l H H1) : Tabs T H1 := fun p hp => by
  obtain ⟨ps, h1, h2, h3⟩ := t p hp
  obtain ⟨m, i, cs, e1, e2, _⟩ := L.ex
  refine ⟨ps, e _ _ (fun z => ?_) (fun z => ?_) h1, h2, fun pos cv hc => ?_⟩
  · rw [z, e1] at h1
    cases h1
  · rw [z, e2] at h1
    cases h1
  · obtain ⟨c, q1, q2⟩ := h3 pos cv hc
    exact ⟨c, q1, ExtL.x L e _ _ q2 (fun _ z => by unfold CodeO at z; cases z) codeO_ne⟩
theorem LS.x {T : List (Addr × Str)} {h l : Addr} {H H1 : Hp} (a : LS T h l H) (L : LawH H1 h l) (e : SameX h l H H1) : LS T h l H1 := ⟨L, tabs_x a.tabs a.law e⟩
theorem LS.s {T : List (Addr × Str)} {h l : Addr} {H H1 : Hp} (a : LS T h l H) (e : Same H H1) : LS T h l H1 := ⟨a.law.same e, a.tabs.ext e⟩
theorem LS.e {T : List (Addr × Str)} {h l : Addr} {H H1 : Hp} (a : LS T h l H) (e : ExtN H H1) (t : Tabs T H1) : LS T h l H1 := ⟨a.law.ext e, t⟩
section
variable {K : PySem.W.Frag} {H : Hp}
theorem tabs_upd {T : List (Addr × Str)} {p : Addr} {xs : List V} {o : HO} (t : Tabs T H) (hp : H p = some (.lst xs)) : Tabs T (L2.upd H p o) := fun y hy => by
  obtain ⟨ps, h1, h2, h3⟩ := t y hy
  refine ⟨ps, ?_, h2, fun pos cv hc => ?_⟩
  · rw [upd_ne (fun z => by rw [z, hp] at h1; cases h1)]
    exact h1
  · obtain ⟨c, q1, q2⟩ := h3 pos cv hc
    exact ⟨c, q1, ExtL.upd hp _ _ q2 (fun _ z => by unfold CodeO at z; cases z) codeO_ne⟩
theorem LS.u {T : List (Addr × Str)} {h l p : Addr} {xs : List V} {o : HO} (a : LS T h l H) (hp : H p = some (.lst xs)) (n1 : p ≠ h) (n2 : p ≠ l) : LS T h l (L2.upd H p o) := by
  refine ⟨?_, tabs_upd a.tabs hp⟩
  obtain ⟨m, i, cs, e1, e2, e3⟩ := a.law.ex
  exact ⟨m, i, cs, by rw [upd_ne (Ne.symm n1)]; exact e1, by rw [upd_ne (Ne.symm n2)]; exact e2, e3⟩
end
end Sv


set_option maxHeartbeats 4000000
namespace Sv
open PySem PySem.Spec PyProof.Rows L2
/-! ### a hundred and twenty ticks tell the pattern -/
theorem rot_at {α : Type} {r : List α} {k j : Nat} (hk : k ≤ r.length) (hj : j < r.length) : (rot r k)[j]? = r[(j + k) % r.length]? := by
  unfold rot
  by_cases h : j < r.length - k
  · rw [List.getElem?_append_left (by rw [List.length_drop]; exact h), List.getElem?_drop, Nat.mod_eq_of_lt (by omega), Nat.add_comm]
  · rw [List.getElem?_append_right (by rw [List.length_drop]; omega), List.length_drop, List.getElem?_take_of_lt (by omega)]
    congr 1
    rw [show j + k = (j - (r.length - k)) + r.length by omega, Nat.add_mod_right, Nat.mod_eq_of_lt (by omega)]
theorem rot_iff {α : Type} {r : List α} {k : Nat} (hk : k ≤ r.length) : rot r k = r ↔ ∀ j, j < r.length → r[(j + k) % r.length]? = r[j]? := by
  refine ⟨fun h j hj => ?_, fun h => List.ext_getElem? fun j => ?_⟩
  · rw [← rot_at hk hj, h]
  · by_cases hj : j < r.length
    · rw [rot_at hk hj, h j hj]
    · have : (rot r k).length = r.length := by unfold rot; rw [List.length_append, List.length_drop, List.length_take]; omega
      rw [List.getElem?_eq_none (by omega), List.getElem?_eq_none (by omega)]
def entN (r : Ro) (i : Nat) : Option Int := r.getD (i % r.length) none
theorem ent_nat (r : Ro) (i : Nat) : ent r (i : Int) = entN r i := by
  unfold ent entN
  rw [← Int.natCast_emod, Int.toNat_natCast]
theorem entN_at {r : Ro} (h : r ≠ []) (i : Nat) : r[i % r.length]? = some (entN r i) := by
  have hl : 0 < r.length := List.length_pos_iff.mpr h
  unfold entN
  rw [List.getD_eq_getElem?_getD, List.getElem?_eq_getElem (Nat.mod_lt _ hl)]
  rfl
theorem entN_mod (r : Ro) (i : Nat) : entN r (i % r.length) = entN r i := by
  unfold entN
  rw [Nat.mod_mod]
theorem rotN {r : Ro} {k : Nat} (h : r ≠ []) (hk : k ≤ r.length) : rot r k = r ↔ ∀ i, entN r (i + k) = entN r i := by
  have hl : 0 < r.length := List.length_pos_iff.mpr h
  rw [rot_iff hk]
  refine ⟨fun q i => ?_, fun q j hj => ?_⟩
  · have := q (i % r.length) (Nat.mod_lt _ hl)
    rw [entN_at h] at this
    have e2 : r[i % r.length]? = some (entN r i) := entN_at h i
    rw [e2] at this
    have e3 := Option.some.inj this
    rw [← e3]
    unfold entN
    rw [Nat.mod_add_mod]
  · have := q j
    rw [entN_at h, this]
    have e2 := entN_at h j
    rw [Nat.mod_eq_of_lt hj] at e2
    exact e2.symm
theorem per_dvd {r : Ro} (h : r ≠ []) (L : Nat) : (∀ i, entN r (i + L) = entN r i) ↔ rp r ∣ L := by
  obtain ⟨p1, p2, p3, p4⟩ := rp_spec h
  have hp := (rotN h p4).mp p2
  have mul : ∀ q i, entN r (i + rp r * q) = entN r i := by
    intro q
    induction q with
    | zero => intro i; rw [Nat.mul_zero, Nat.add_zero]
    | succ q ih => intro i; rw [Nat.mul_succ, ← Nat.add_assoc, hp, ih]
  refine ⟨fun q => ?_, fun ⟨c, hc⟩ i => by rw [hc, mul]⟩
  by_cases hs : L % rp r = 0
  · exact Nat.dvd_of_mod_eq_zero hs
  · exfalso
    have hlt : L % rp r < rp r := Nat.mod_lt _ (by omega)
    refine p3 (L % rp r) (by omega) hlt ((rotN h (by omega)).mpr fun i => ?_)
    have e : i + L = (i + L % rp r) + rp r * (L / rp r) := by
      have := Nat.mod_add_div L (rp r)
      omega
    rw [← q i, e, mul]
/-- the pairs of a tick -/
def prs (rs : List Ro) (m : Int) : Nat → List (Nat × Int)
  | 0 => []
  | k + 1 => prs rs m k ++ (match rs[k]? with | some r => (match ent r m with | some z => [(k, z)] | none => []) | none => [])
theorem prs_meet (rs : List Ro) (m : Int) : ∀ k, meetN rs m k = (prs rs m k).map fun p => pairV p.1 p.2
  | 0 => rfl
  | k + 1 => by
    unfold meetN prs
    rw [prs_meet rs m k, List.map_append]
    congr 1
    cases rs[k]? with
    | none => rfl
    | some r =>
      simp only
      cases ent r m with
      | none => rfl
      | some z => rfl
theorem prs_lt (rs : List Ro) (m : Int) : ∀ k, ∀ p ∈ prs rs m k, p.1 < k
  | 0, p, h => by cases h
  | k + 1, p, h => by
    unfold prs at h
    rcases List.mem_append.mp h with h | h
    · have := prs_lt rs m k p h
      omega
    · cases hk : rs[k]? with
      | none => rw [hk] at h; cases h
      | some r =>
        rw [hk] at h
        simp only at h
        cases he : ent r m with
        | none => rw [he] at h; cases h
        | some z =>
          rw [he] at h
          rw [List.mem_singleton.mp h]
          exact Nat.lt_succ_self k
theorem look_none {l : List (Nat × Int)} {k : Nat} (h : ∀ p ∈ l, p.1 < k) : l.lookup k = none := by
  induction l with
  | nil => rfl
  | cons p l ih =>
    have h1 := h p (List.mem_cons_self ..)
    obtain ⟨a, b⟩ := p
    rw [List.lookup_cons, ih fun q hq => h q (List.mem_cons_of_mem _ hq)]
    have : (k == a) = false := by simp only [beq_eq_false_iff_ne]; simp at h1; omega
    rw [this]
theorem prs_look (rs : List Ro) (m : Int) : ∀ K k r, k < K → rs[k]? = some r → (prs rs m K).lookup k = ent r m
  | K + 1, k, r, hk, hr => by
    unfold prs
    rw [List.lookup_append]
    by_cases e : k = K
    · subst e
      rw [look_none (prs_lt rs m k), hr]
      simp only [Option.none_or]
      cases ent r m with
      | none => rfl
      | some z => simp [List.lookup]
    · rw [prs_look rs m K k r (by omega) hr]
      have e2 : (match rs[K]? with | some r => (match ent r m with | some z => [(K, z)] | none => []) | none => [] : List (Nat × Int)).lookup k = none := by
        have hb : (k == K) = false := by simpa using e
        cases rs[K]? with
        | none => rfl
        | some r2 =>
          simp only
          cases ent r2 m with
          | none => rfl
          | some z => simp [List.lookup, hb]
      rw [e2, Option.or_none]
theorem prs_eq {rs : List Ro} {m m' : Int} : ∀ K, (∀ k r, k < K → rs[k]? = some r → ent r m = ent r m') → prs rs m K = prs rs m' K
  | 0, _ => rfl
  | K + 1, h => by
    unfold prs
    rw [prs_eq K fun k r hk hr => h k r (by omega) hr]
    cases hr : rs[K]? with
    | none => rfl
    | some r => simp only [h K r (by omega) hr]
theorem prs_iff {rs : List Ro} {m m' : Int} : prs rs m rs.length = prs rs m' rs.length ↔ ∀ r ∈ rs, ent r m = ent r m' := by
  refine ⟨fun h r hr => ?_, fun h => prs_eq _ fun k r _ hr => h r (List.mem_of_getElem? hr)⟩
  obtain ⟨k, hk, e⟩ := List.getElem_of_mem hr
  have e2 : rs[k]? = some r := by rw [List.getElem?_eq_getElem hk, e]
  rw [← prs_look rs m rs.length k r hk e2, ← prs_look rs m' rs.length k r hk e2, h]
def rowsN (rs : List Ro) (n : Nat) : List (List (Nat × Int)) := (List.range n).map fun (i : Nat) => prs rs (i : Int) rs.length
theorem rowsN_len (rs : List Ro) (n : Nat) : (rowsN rs n).length = n := by unfold rowsN; simp
theorem rowsN_at {rs : List Ro} {n i : Nat} (h : i < n) : (rowsN rs n)[i]? = some (prs rs (i : Int) rs.length) := by
  unfold rowsN
  rw [List.getElem?_map, List.getElem?_range h]
  rfl
theorem rowsN_succ (rs : List Ro) (n : Nat) : rowsN rs (n + 1) = rowsN rs n ++ [prs rs (n : Int) rs.length] := by
  unfold rowsN
  rw [List.range_succ, List.map_append]
  rfl
theorem ent60 {r : Ro} (h : 1 ≤ r.length ∧ r.length ≤ 6) (i : Nat) : entN r (i % 120) = entN r i := by
  unfold entN
  congr 1
  have : r.length = 1 ∨ r.length = 2 ∨ r.length = 3 ∨ r.length = 4 ∨ r.length = 5 ∨ r.length = 6 := by omega
  rcases this with e | e | e | e | e | e <;> rw [e] <;> omega
theorem rows_rot {rs : List Ro} (h : ∀ r ∈ rs, 1 ≤ r.length ∧ r.length ≤ 6) {L : Nat} (hL : L ≤ 60) : rot (rowsN rs 120) L = rowsN rs 120 ↔ lc rs ∣ L := by
  rw [rot_iff (by rw [rowsN_len]; omega), rowsN_len]
  have key : (∀ j, j < 120 → (rowsN rs 120)[(j + L) % 120]? = (rowsN rs 120)[j]?) ↔ ∀ r ∈ rs, ∀ i, entN r (i + L) = entN r i := by
    refine ⟨fun q r hr i => ?_, fun q j hj => ?_⟩
    · have := q (i % 120) (by omega)
      rw [rowsN_at (by omega), rowsN_at (by omega)] at this
      have := prs_iff.mp (Option.some.inj this) r hr
      rw [ent_nat, ent_nat, ent60 (h r hr), ent60 (h r hr)] at this
      rw [← this, ← ent60 (h r hr) (i % 120 + L), ← ent60 (h r hr) (i + L)]
      congr 1
      omega
    · rw [rowsN_at (by omega), rowsN_at hj]
      congr 1
      refine prs_iff.mpr fun r hr => ?_
      rw [ent_nat, ent_nat, ent60 (h r hr)]
      exact q r hr j
  rw [key]
  have e : (∀ r ∈ rs, ∀ i, entN r (i + L) = entN r i) ↔ ∀ r ∈ rs, rp r ∣ L := by
    refine ⟨fun q r hr => (per_dvd (fun z => ?_) L).mp (q r hr), fun q r hr => (per_dvd (fun z => ?_) L).mpr (q r hr)⟩
    · have := h r hr
      rw [z] at this
      simp at this
    · have := h r hr
      rw [z] at this
      simp at this
  rw [e, lc_dvd]
/-! ### .. as data -/
theorem eqvAll_map {α : Type} [DecidableEq α] {f : α → PyData} (h : ∀ a b, PyData.eqv (f a) (f b) = decide (a = b)) : ∀ l m : List α, PyData.eqvAll (l.map f) (m.map f) = decide (l = m)
  | [], [] => by show PyData.eqvAll [] [] = _; rw [PyData.eqvAll]; rfl
  | [], y :: m => by show PyData.eqvAll [] (f y :: m.map f) = _; rw [PyData.eqvAll]; rfl
  | x :: l, [] => by show PyData.eqvAll (f x :: l.map f) [] = _; rw [PyData.eqvAll]; rfl
  | x :: l, y :: m => by
    show PyData.eqvAll (f x :: l.map f) (f y :: m.map f) = _
    rw [PyData.eqvAll, h, eqvAll_map h l m]
    by_cases h1 : x = y
    · subst h1
      by_cases h2 : l = m
      · subst h2
        simp
      · simp [h2]
    · simp [h1]
theorem can_map {α : Type} {f : α → PyData} (h : ∀ a, PyData.canLay0 (f a) = true) : ∀ l : List α, PyData.canLayAll0 (l.map f) = true
  | [] => by show PyData.canLayAll0 [] = true; rw [PyData.canLayAll0]
  | x :: l => by
    show PyData.canLayAll0 (f x :: l.map f) = true
    rw [PyData.canLayAll0, can_map h l, h]
    rfl
theorem dep_map {α : Type} {f : α → PyData} {n : Nat} (h : ∀ a, PyData.depth (f a) ≤ n) : ∀ l : List α, PyData.depthAll (l.map f) ≤ n
  | [] => by show PyData.depthAll [] ≤ n; rw [PyData.depthAll]; omega
  | x :: l => by
    show PyData.depthAll (f x :: l.map f) ≤ n
    rw [PyData.depthAll]
    have h1 := dep_map h l
    have h2 := h x
    omega
def dP (p : Nat × Int) : PyData := .tuple [.int (p.1 : Nat), .int p.2]
def dM (l : List (Nat × Int)) : PyData := .list (l.map dP)
def dRw (l : List (List (Nat × Int))) : PyData := .list (l.map dM)
theorem eqv_dP (a b : Nat × Int) : PyData.eqv (dP a) (dP b) = decide (a = b) := by
  obtain ⟨a1, a2⟩ := a
  obtain ⟨b1, b2⟩ := b
  unfold dP
  rw [PyData.eqv, PyData.eqvAll, PyData.eqvAll, PyData.eqvAll, PyData.eqv, PyData.eqv]
  by_cases h1 : a1 = b1
  · subst h1
    by_cases h2 : a2 = b2
    · subst h2
      simp
    · have : (a2 == b2) = false := by simpa using h2
      simp [h2]
  · have : ((a1 : Int) == (b1 : Int)) = false := by simp; omega
    simp [h1]
    intro z
    omega
theorem eqv_dM (a b : List (Nat × Int)) : PyData.eqv (dM a) (dM b) = decide (a = b) := by
  unfold dM
  rw [PyData.eqv]
  exact eqvAll_map eqv_dP a b
theorem eqv_dRw (a b : List (List (Nat × Int))) : PyData.eqv (dRw a) (dRw b) = decide (a = b) := by
  unfold dRw
  rw [PyData.eqv]
  exact eqvAll_map eqv_dM a b
theorem can_dP (a : Nat × Int) : PyData.canLay0 (dP a) = true := by
  unfold dP
  rw [PyData.canLay0, PyData.canLayAll0, PyData.canLayAll0, PyData.canLayAll0, PyData.canLay0, PyData.canLay0]
  rfl
theorem dep_dP (a : Nat × Int) : PyData.depth (dP a) ≤ 2 := by
  unfold dP
  simp only [PyData.depth, PyData.depthAll]
  omega
theorem can_dM (a : List (Nat × Int)) : PyData.canLay0 (dM a) = true := by
  unfold dM
  rw [PyData.canLay0]
  exact can_map can_dP a
theorem dep_dM (a : List (Nat × Int)) : PyData.depth (dM a) ≤ 3 := by
  unfold dM
  have := dep_map dep_dP a
  rw [PyData.depth]
  omega
theorem shaped_dRw (a : List (List (Nat × Int))) : SeqAt.shaped (dRw a) = true := by
  unfold SeqAt.shaped
  rw [Bool.and_eq_true]
  refine ⟨?_, decide_eq_true ?_⟩
  · unfold dRw
    rw [PyData.canLay0]
    exact can_map can_dM a
  · unfold dRw
    have := dep_map dep_dM a
    rw [PyData.depth]
    omega
end Sv


set_option maxHeartbeats 8000000
namespace Sv
open PySem PySem.Spec PyProof.Rows L2 LamX NdefX
/-! ### the law's lambdas -/
def zE : Expr := .Name "x" ⟨0, 0, 0, 0⟩
def eArgs : Expr → List Expr | .Call _ as _ _ => as | _ => []
def eElts : Expr → List Expr | .List es _ => es | .Tuple es _ _ => es | _ => []
def sVal : Stmt → Expr | .Assign _ v _ => v | .Expr v _ => v | .If t _ _ _ => t | _ => zE
def sBody : Stmt → List Stmt | .For _ _ b _ _ => b | _ => []
def lamP : Expr → Arguments | .Lambda p _ _ _ => p | _ => ⟨[], [], none, [], [], none, []⟩
def lamE : Expr → Expr | .Lambda _ b _ _ => b | e => e
def lamS : Expr → Scope | .Lambda _ _ s _ => s | _ => defScope sLaw
def sTurn (i : Nat) : Stmt := (sBody ((defBody sLaw).getD 1 (.Pass ⟨0, 0, 0, 0⟩))).getD i (.Pass ⟨0, 0, 0, 0⟩)
def lam1 : Expr := (eElts (sVal (sTurn 5))).getD 0 zE
def lam2 : Expr := (eElts (sVal (sTurn 5))).getD 1 zE
def lam3 : Expr := (eElts (sVal (sTurn 5))).getD 2 zE
def lam4 : Expr := (eArgs (sVal (sTurn 6))).getD 0 zE
@[irreducible] def qPattern (K : PySem.W.Frag) (C : Addr) : Sp := spPattern K C
@[irreducible] def qVisits (K : PySem.W.Frag) (C : Addr) : Sp := spVisits K C
@[irreducible] def qPlaces (K : PySem.W.Frag) (C : Addr) : Sp := spPlaces K C
@[irreducible] def qInitial (K : PySem.W.Frag) (C : Addr) : Sp := spInitial K C
@[irreducible] def qPlan (K : PySem.W.Frag) : Sp := spPlan K
@[irreducible] def qSpoilt (K : PySem.W.Frag) : Sp := spSpoilt K
@[irreducible] def qBad (K : PySem.W.Frag) : Sp := spFirstBad K
@[irreducible] def qMeet (K : PySem.W.Frag) : Sp := spMeetings K
@[irreducible] def qAlike (K : PySem.W.Frag) : Sp := spAlike K 4
/-- the law's other defs -/
structure Lw (K : PySem.W.Frag) (mg : Str → Option Value) (a1 a2 a3 a4 a5 a6 a7 a8 : Addr) (d1 d2 d3 d4 d5 d6 d7 d8 : FuncData) : Prop where
  M : Df K mg "_law_mix" sMix ["_law_script", "_law_seed"] a1 d1
  N : Df K mg "_law_next" sNext ["_law_h", "_law_limit"] a2 d2
  A : Df K mg "_law_alike" sAlike ["_law_found", "_law_due"] a3 d3
  X : Df K mg "_law_error" sError ["_law_call"] a4 d4
  P : Df K mg "_law_plan" sPlan ["_law_h", "_law_shelves", "_law_carriers"] a5 d5
  B : Df K mg "_law_first_bad" sFirstBad ["_law_plan_here"] a6 d6
  S : Df K mg "_law_spoilt" sSpoilt ["_law_h", "_law_plan_here"] a7 d7
  E : Df K mg "_law_meetings" sMeetings ["_law_plan_here", "_law_number"] a8 d8
abbrev tkX {X : Cx} {E : XK} (tk : Takes X fun cls d _ H => E cls d H) : Passes (L2.CX X.prog X.w) X E := passes_call tk fun _ _ _ _ h => h
section
variable {X : Cx}
variable {C fI fW fS fR fT fP : Addr} {dI dW dS dR dT dP : FuncData}
variable {gP gV gL gN gI gC gR gS gT : Addr} {eP eVv eL eN eI eC eR eS eT : FuncData}
def tl1 (K : PySem.W.Frag) (C : Addr) : List (Option V) → XK → Hp → VK → Prop := fun ws E H Q => ∃ p : Addr, ws = [some (.ref p)] ∧ qPattern K C [.ref p] H Q E
def tl2 (K : PySem.W.Frag) (C : Addr) : List (Option V) → XK → Hp → VK → Prop := fun ws E H Q => ∃ (n : Int) (p : Addr), ws = [some (.int n), some (.ref p)] ∧ qVisits K C [.ref p, .int n] H Q E
def tl3 (K : PySem.W.Frag) (C : Addr) : List (Option V) → XK → Hp → VK → Prop := fun ws E H Q => ∃ p : Addr, ws = [some (.ref p)] ∧ qPlaces K C [.ref p] H Q E
def tl4 (K : PySem.W.Frag) (C : Addr) : List (Option V) → XK → Hp → VK → Prop := fun ws E H Q => ∃ p : Addr, ws = [some (.ref p)] ∧ qInitial K C [.ref p] H Q E
theorem lb1 (T : Pf X.prog X.K X.mg C fI fW fS fR fT fP dI dW dS dR dT dP) (L : Qf X.prog X.K X.mg gP gV gL gN gI gC gR gS gT eP eVv eL eN eI eC eR eS eT) : LamB X 5 ["_law_plan_here"] (lamP lam1) (lamE lam1) (lamS lam1) ["_law_plan_here"] [] (tl1 X.K C) := fun qual cl dV c f A outer s H ws Q E hr ht => by
  have GC : FnOk X.prog X.w X.K X.mg X.base (L2.CX X.prog X.w) 5 gP eP ["plan"] (qPattern X.K C) := by unfold qPattern; exact ok_pattern T L
  obtain ⟨b, rfl, q⟩ := ht
  exact ⟨_, pe_call (E := E) GC hr (by rfl) L.P.g L.P.F.kp L.P.b .nil (tkX (takes_of rfl rfl rfl rfl)) (pa_cons (pv 0) pa_nil), .ref b, rfl, q⟩
theorem lb2 (T : Pf X.prog X.K X.mg C fI fW fS fR fT fP dI dW dS dR dT dP) (L : Qf X.prog X.K X.mg gP gV gL gN gI gC gR gS gT eP eVv eL eN eI eC eR eS eT) : LamB X 5 ["_law_a", "_law_number", "_law_plan_here"] (lamP lam2) (lamE lam2) (lamS lam2) ["_law_number", "_law_plan_here"] [.int 0] (tl2 X.K C) := fun qual cl dV c f A outer s H ws Q E hr ht => by
  have GC : FnOk X.prog X.w X.K X.mg X.base (L2.CX X.prog X.w) 5 gV eVv ["plan", "number"] (qVisits X.K C) := by unfold qVisits; exact ok_visits T L
  obtain ⟨n, b, rfl, q⟩ := ht
  exact ⟨_, pe_call (E := E) GC hr (by rfl) L.V.g L.V.F.kp L.V.b .nil (tkX (takes_of rfl rfl rfl rfl)) (pa_cons (pv 2) (pa_cons (pv 1) pa_nil)), .ref b, rfl, .int n, rfl, q⟩
theorem lb3 (T : Pf X.prog X.K X.mg C fI fW fS fR fT fP dI dW dS dR dT dP) (L : Qf X.prog X.K X.mg gP gV gL gN gI gC gR gS gT eP eVv eL eN eI eC eR eS eT) : LamB X 5 ["_law_b", "_law_plan_here"] (lamP lam3) (lamE lam3) (lamS lam3) ["_law_plan_here"] [.int 0] (tl3 X.K C) := fun qual cl dV c f A outer s H ws Q E hr ht => by
  have GC : FnOk X.prog X.w X.K X.mg X.base (L2.CX X.prog X.w) 5 gL eL ["plan"] (qPlaces X.K C) := by unfold qPlaces; exact ok_places T L
  obtain ⟨b, rfl, q⟩ := ht
  exact ⟨_, pe_call (E := E) GC hr (by rfl) L.L.g L.L.F.kp L.L.b .nil (tkX (takes_of rfl rfl rfl rfl)) (pa_cons (pv 1) pa_nil), .ref b, rfl, q⟩
theorem lb4 (T : Pf X.prog X.K X.mg C fI fW fS fR fT fP dI dW dS dR dT dP) (L : Qf X.prog X.K X.mg gP gV gL gN gI gC gR gS gT eP eVv eL eN eI eC eR eS eT) : LamB X 5 ["_law_plan_here"] (lamP lam4) (lamE lam4) (lamS lam4) ["_law_plan_here"] [] (tl4 X.K C) := fun qual cl dV c f A outer s H ws Q E hr ht => by
  have GC : FnOk X.prog X.w X.K X.mg X.base (L2.CX X.prog X.w) 5 gT eT ["plan"] (qInitial X.K C) := by unfold qInitial; exact ok_initial T L
  obtain ⟨b, rfl, q⟩ := ht
  exact ⟨_, pe_call (E := E) GC hr (by rfl) L.T.g L.T.F.kp L.T.b .nil (tkX (takes_of rfl rfl rfl rfl)) (pa_cons (pv 0) pa_nil), .ref b, rfl, q⟩
end
end Sv


set_option maxHeartbeats 8000000
namespace Sv
open PySem PySem.Spec PyProof.Rows L2 LamX NdefX
/-! ### lists of lists of tuples -/
theorem TL.upd {H : Hp} {f D : Addr} {ts : List (List V)} {xs : List V} {o : HO} (x : TL H f ts) (hD : H D = some (.lst xs)) (n : f ≠ D) : TL (L2.upd H D o) f ts := by
  obtain ⟨ps, h1, h2⟩ := x.ex
  refine ⟨ps, by rw [upd_ne n]; exact h1, tupsV_imp (fun b ys q => ?_) h2⟩
  rw [upd_ne (fun z => by rw [z, hD] at q; cases q)]
  exact q
abbrev LLs (H : Hp) (fs : List Addr) (tss : List (List (List V))) : Prop := Paired (fun f ts => TL H f ts) fs tss
theorem lls_same {H H' : Hp} (e : Same H H') : ∀ {fs : List Addr} {tss : List (List (List V))}, LLs H fs tss → LLs H' fs tss
  | _, _, .nil => .nil
  | _, _, .cons h t => .cons (h.same e) (lls_same e t)
theorem lls_upd {H : Hp} {D : Addr} {xs : List V} {o : HO} (hD : H D = some (.lst xs)) : ∀ {fs : List Addr} {tss : List (List (List V))}, (∀ f ∈ fs, f ≠ D) → LLs H fs tss → LLs (upd H D o) fs tss
  | _, _, _, .nil => .nil
  | _, _, n, .cons h t => .cons (h.upd hD (n _ (List.mem_cons_self ..))) (lls_upd hD (fun f hf => n f (List.mem_cons_of_mem _ hf)) t)
theorem lls_app {H : Hp} : ∀ {fs gs : List Addr} {tss uss : List (List (List V))}, LLs H fs tss → LLs H gs uss → LLs H (fs ++ gs) (tss ++ uss)
  | _, _, _, _, .nil, h => h
  | _, _, _, _, .cons h t, g => .cons h (lls_app t g)
theorem lls_len {H : Hp} : ∀ {fs : List Addr} {tss : List (List (List V))}, LLs H fs tss → fs.length = tss.length
  | _, _, .nil => rfl
  | _, _, .cons _ t => congrArg Nat.succ (lls_len t)
theorem lls_take {H : Hp} : ∀ {fs : List Addr} {tss : List (List (List V))} (k : Nat), LLs H fs tss → LLs H (fs.take k) (tss.take k)
  | _, _, _, .nil => by simp only [List.take_nil]; exact .nil
  | _, _, 0, .cons h t => .nil
  | _, _, k + 1, .cons h t => .cons h (lls_take k t)
theorem lls_drop {H : Hp} : ∀ {fs : List Addr} {tss : List (List (List V))} (k : Nat), LLs H fs tss → LLs H (fs.drop k) (tss.drop k)
  | _, _, _, .nil => by simp only [List.drop_nil]; exact .nil
  | _, _, 0, .cons h t => .cons h t
  | _, _, k + 1, .cons h t => lls_drop k t
/-! ### their data -/
def pvs (l : List (Nat × Int)) : List (List V) := l.map fun p => pairV p.1 p.2
theorem dp_pv {K : PySem.W.Frag} {H : Hp} {p : Addr} {x : Nat × Int} (h : H p = some (.tup (pairV x.1 x.2))) : Dp K H (.ref p) (dP x) := .tup (.inl (.inl h)) (.cons (.int _) (.cons (.int _) .nil))
theorem dpAll_pv {K : PySem.W.Frag} {H : Hp} : ∀ {ps : List Addr} {l : List (Nat × Int)}, TupsV H ps (pvs l) → DpAll K H (ps.map V.ref) (l.map dP)
  | [], [], _ => .nil
  | p :: ps, x :: l, .cons h t => .cons (dp_pv h) (dpAll_pv t)
theorem dp_tl {K : PySem.W.Frag} {H : Hp} {f : Addr} {l : List (Nat × Int)} (h : TL H f (pvs l)) : Dp K H (.ref f) (dM l) := by
  obtain ⟨ps, h1, h2⟩ := h.ex
  exact .lst (.inl (.inl h1)) (dpAll_pv h2)
theorem dpAll_ll {K : PySem.W.Frag} {H : Hp} : ∀ {fs : List Addr} {ls : List (List (Nat × Int))}, LLs H fs (ls.map pvs) → DpAll K H (fs.map V.ref) (ls.map dM)
  | [], [], _ => .nil
  | f :: fs, l :: ls, .cons h t => .cons (dp_tl h) (dpAll_ll t)
theorem neRw_go {K : PySem.W.Frag} {H : Hp} {x y : Addr} {fs gs : List Addr} {a b : List (List (Nat × Int))} {Q : VK} (hx : H x = some (.lst (fs.map V.ref))) (hfs : LLs H fs (a.map pvs)) (hy : H y = some (.lst (gs.map V.ref))) (hgs : LLs H gs (b.map pvs)) (q : Q (.bl (!decide (a = b))) H) : qNe K (.ref x) (.ref y) H Q := by
  unfold qNe
  refine ⟨dRw a, dRw b, .lst (.inl (.inl hx)) (dpAll_ll hfs), .lst (.inl (.inl hy)) (dpAll_ll hgs), shaped_dRw a, shaped_dRw b, ?_⟩
  rw [eqv_dRw]
  exact q
theorem meets_pvs (rs : List Ro) (m : Int) : meets rs m = pvs (prs rs m rs.length) := prs_meet rs m rs.length
/-- tuples of words and numbers -/
def dV : V → PyData
  | .str s => .str s
  | .int i => .int i
  | .non => .none
  | _ => .none
def simV : V → Bool
  | .str _ => true
  | .int _ => true
  | .non => true
  | _ => false
theorem dp_dV {K : PySem.W.Frag} {H : Hp} : ∀ {v : V}, simV v = true → Dp K H v (dV v)
  | .str s, _ => .str s
  | .int i, _ => .int i
  | .non, _ => .non
  | .ref _, h => by cases h
theorem dpAll_dV {K : PySem.W.Frag} {H : Hp} : ∀ {vs : List V}, (∀ v ∈ vs, simV v = true) → DpAll K H vs (vs.map dV)
  | [], _ => .nil
  | v :: vs, h => .cons (dp_dV (h v (List.mem_cons_self ..))) (dpAll_dV fun x hx => h x (List.mem_cons_of_mem _ hx))
def dT (vs : List V) : PyData := .tuple (vs.map dV)
theorem dp_tupS {K : PySem.W.Frag} {H : Hp} {p : Addr} {vs : List V} (h : SqT K H p vs) (s : ∀ v ∈ vs, simV v = true) : Dp K H (.ref p) (dT vs) := .tup h (dpAll_dV s)
theorem dpAll_tl {K : PySem.W.Frag} {H : Hp} : ∀ {ps : List Addr} {ts : List (List V)}, TupsV H ps ts → (∀ t ∈ ts, ∀ v ∈ t, simV v = true) → DpAll K H (ps.map V.ref) (ts.map dT)
  | [], [], _, _ => .nil
  | p :: ps, t :: ts, .cons h r, s => .cons (dp_tupS (.inl (.inl h)) (s t (List.mem_cons_self ..))) (dpAll_tl r fun x hx => s x (List.mem_cons_of_mem _ hx))
theorem dp_tlS {K : PySem.W.Frag} {H : Hp} {f : Addr} {ts : List (List V)} (h : TL H f ts) (s : ∀ t ∈ ts, ∀ v ∈ t, simV v = true) : Dp K H (.ref f) (.list (ts.map dT)) := by
  obtain ⟨ps, h1, h2⟩ := h.ex
  exact .lst (.inl (.inl h1)) (dpAll_tl h2 s)
/-- what the law awaits of a plan -/
def dueV : Option (Str × Int) → List V
  | none => [.str "none"]
  | some (part, i) => [.str "plan", .str part, .int i]
theorem due_sim (b : Option (Str × Int)) : ∀ v ∈ dueV b, simV v = true := by
  intro v hv
  cases b with
  | none =>
    rw [List.mem_singleton.mp hv]
    rfl
  | some x =>
    obtain ⟨part, i⟩ := x
    simp only [dueV, List.mem_cons, List.not_mem_nil, or_false] at hv
    rcases hv with rfl | rfl | rfl <;> rfl
theorem bad_part {zs : List Int} {rs : List Ro} {part : Str} {i : Int} (h : bad zs rs = some (part, i)) : part = "sizes" ∨ part = "routes" := by
  unfold bad at h
  cases hb : badS zs with
  | some j =>
    rw [hb] at h
    exact .inl (congrArg Prod.fst (Option.some.inj h)).symm
  | none =>
    rw [hb] at h
    simp only at h
    cases hr : badR zs.length rs with
    | none => rw [hr] at h; cases h
    | some j =>
      rw [hr] at h
      exact .inr (congrArg Prod.fst (Option.some.inj h)).symm
theorem can_due {zs : List Int} {rs : List Ro} : PyData.canLay0 (dT (dueV (bad zs rs))) = true := by
  cases hb : bad zs rs with
  | none =>
    show PyData.canLay0 (.tuple [.str "none"]) = true
    rw [PyData.canLay0, PyData.canLayAll0, PyData.canLayAll0, PyData.canLay0]
    decide +kernel
  | some x =>
    obtain ⟨part, i⟩ := x
    show PyData.canLay0 (.tuple [.str "plan", .str part, .int i]) = true
    rw [PyData.canLay0, PyData.canLayAll0, PyData.canLayAll0, PyData.canLayAll0, PyData.canLayAll0, PyData.canLay0, PyData.canLay0, PyData.canLay0]
    rcases bad_part hb with rfl | rfl <;> decide +kernel
theorem dep_dT (vs : List V) : PyData.depth (dT vs) ≤ 2 := by
  unfold dT
  have := dep_map (f := dV) (n := 1) (fun v => by
    unfold dV
    split <;> (simp only [PyData.depth]; omega)) vs
  rw [PyData.depth]
  omega
theorem shaped_due {zs : List Int} {rs : List Ro} (n : Nat) : SeqAt.shaped (.list (List.replicate n (dT (dueV (bad zs rs))))) = true := by
  unfold SeqAt.shaped
  rw [Bool.and_eq_true]
  refine ⟨?_, decide_eq_true ?_⟩
  · rw [PyData.canLay0]
    induction n with
    | zero => rw [List.replicate_zero, PyData.canLayAll0]
    | succ n ih => rw [List.replicate_succ, PyData.canLayAll0, ih, can_due]; rfl
  · rw [PyData.depth]
    have : PyData.depthAll (List.replicate n (dT (dueV (bad zs rs)))) ≤ 2 := by
      induction n with
      | zero => rw [List.replicate_zero, PyData.depthAll]; omega
      | succ n ih => 
        rw [List.replicate_succ, PyData.depthAll]
        have := dep_dT (dueV (bad zs rs))
        omega
    omega
theorem dpAll_due {K : PySem.W.Frag} {H : Hp} {vs : List V} (s : ∀ v ∈ vs, simV v = true) : ∀ {ps : List Addr} (n : Nat), ps.length = n → (∀ p ∈ ps, SqT K H p vs) → DpAll K H (ps.map V.ref) (List.replicate n (dT vs))
  | [], _, rfl, _ => .nil
  | p :: ps, _, rfl, h => .cons (dp_tupS (h p (List.mem_cons_self ..)) s) (dpAll_due s ps.length rfl fun q hq => h q (List.mem_cons_of_mem _ hq))
theorem ne_due {K : PySem.W.Frag} {H : Hp} {x y : Addr} {ps qs : List Addr} {n : Nat} {zs : List Int} {rs : List Ro} {Q : VK} (hx : H x = some (.lst (ps.map V.ref))) (hp : ∀ p ∈ ps, SqT K H p (dueV (bad zs rs))) (lp : ps.length = n) (hy : H y = some (.lst (qs.map V.ref))) (hq : ∀ p ∈ qs, SqT K H p (dueV (bad zs rs))) (lq : qs.length = n)
    (q : Q (.bl false) H) : qNe K (.ref x) (.ref y) H Q := by
  unfold qNe
  exact ⟨.list (List.replicate n (dT (dueV (bad zs rs)))), .list (List.replicate n (dT (dueV (bad zs rs)))), .lst (.inl (.inl hx)) (dpAll_due (due_sim _) n lp hp), .lst (.inl (.inl hy)) (dpAll_due (due_sim _) n lq hq), shaped_due n, shaped_due n, by rw [SeqAt.eqv_refl _ (SeqAt.canLay_of_shaped (shaped_due n))]; exact q⟩
/-! ### steps -/
theorem okD_sim {n : Nat} : ∀ {ts : List (List V)}, (∀ t ∈ ts, t.length ≤ 1000) → okDs (n + 1) (ts.map dT) = true
  | [], _ => by show okDs (n + 1) [] = true; rw [okDs]
  | t :: ts, h => by
    show okDs (n + 1) (dT t :: ts.map dT) = true
    rw [okDs, okD_sim fun x hx => h x (List.mem_cons_of_mem _ hx), Bool.and_true]
    unfold dT
    rw [okD, Bool.and_eq_true]
    refine ⟨decide_eq_true (by rw [List.length_map]; exact h t (List.mem_cons_self ..)), ?_⟩
    clear h
    induction t with
    | nil => show okDs n [] = true; rw [okDs]
    | cons v t ih =>
      show okDs n (dV v :: t.map dV) = true
      rw [okDs, ih, Bool.and_true]
      unfold dV
      split <;> (cases n <;> rfl)
theorem okD_pv {n : Nat} : ∀ {l : List (Nat × Int)}, okDs (n + 1) (l.map dP) = true
  | [] => by show okDs (n + 1) [] = true; rw [okDs]
  | p :: l => by
    show okDs (n + 1) (dP p :: l.map dP) = true
    rw [okDs, okD_pv (l := l), Bool.and_true]
    unfold dP
    rw [okD, okDs, okDs, okDs]
    cases n <;> rfl
end Sv


set_option maxHeartbeats 8000000
namespace Sv
open PySem PySem.Spec PyProof.Rows L2 LamX NdefX
/-- how the class of invalid plans answers -/
structure ErA (K : PySem.W.Frag) (CS C0 C1 C2 C3 C4 C5 C6 C7 C8 C9 C10 C11 C12 C13 C14 D : Addr) (nm : Str) : Prop where
  ex : ∃ (b0 b1 b2 b3 b4 b5 b6 b7 b8 b9 b10 b11 b12 b13 b14 : Bool) (j : Nat), ErK K CS C0 C1 C2 C3 C4 C5 C6 C7 C8 C9 C10 C11 C12 C13 C14 D nm b0 b1 b2 b3 b4 b5 b6 b7 b8 b9 b10 b11 b12 b13 b14 j
section
variable {K : PySem.W.Frag} {H : Hp} {Q : VK} {E : XK} {p h l : Addr} {zs : List Int} {rs : List Ro}
variable {CS C C1 C2 C3 C4 C5 C6 C7 C8 C9 C10 C11 C12 C13 C14 : Addr}
theorem go_plan (LH : LawH H h l) (q : ∀ H' p zs rs, St h l H H' → PlanAt K H' p zs rs → Good2 zs rs → Q (.ref p) H') : qPlan K [.ref h, .int 12, .int 6] H Q E := by
  unfold qPlan
  exact ⟨h, l, rfl, LH, q⟩
theorem go_spoilt (LH : LawH H h l) (hp : PlanAt K H p zs rs) (g : Good2 zs rs) (q : ∀ H' p' zs' rs', St h l H H' → PlanAt K H' p' zs' rs' → Small zs' rs' → Q (.ref p') H') : qSpoilt K [.ref h, .ref p] H Q E := by
  unfold qSpoilt
  exact ⟨h, l, p, zs, rs, rfl, LH, hp, g, q⟩
theorem go_bad (hp : PlanAt K H p zs rs) (s : Small zs rs) (q1 : bad zs rs = none → ∀ H', Same H H' → Q .non H') (q2 : ∀ part i, bad zs rs = some (part, i) → NewS H [.str part, .int i] Q) : qBad K [.ref p] H Q E := by
  unfold qBad
  exact ⟨p, zs, rs, rfl, hp, s, q1, q2⟩
theorem go_bad2 (hp : PlanAt K H p zs rs) (s : Small zs rs) (q : ∀ v H', Same H H' → ((bad zs rs = none ∧ v = .non) ∨ ∃ part i t, bad zs rs = some (part, i) ∧ v = .ref t ∧ H' t = some (.tup [.str part, .int i])) → Q v H') : qBad K [.ref p] H Q E :=
  go_bad hp s (fun e H' sm => q _ _ sm (.inl ⟨e, rfl⟩)) (fun part i e H' t sm _ k => q _ _ sm (.inr ⟨part, i, t, e, rfl, k⟩))
theorem cat_go2 {a b : Addr} {y : V} {xs ys : List V} (hA : SqT K H a xs) (hy : y = .ref b) (hB : SqT K H b ys) (hl : xs.length + ys.length ≤ 1000) (q : ∀ H' p, Same H H' → SqT K H' p (xs ++ ys) → Q (.ref p) H') : qCat K (.ref a) y H Q := by
  subst hy
  exact cat_go hA hB hl q
theorem go_meet {n : Int} (hp : PlanAt K H p zs rs) (g : Good zs rs) (q : NewTL H (meets rs (n - 1)) Q) : qMeet K [.ref p, .int n] H Q E := by
  unfold qMeet
  exact ⟨p, zs, rs, n, rfl, hp, by have := g.r1; omega, g.ne, q⟩
theorem go_alike {x y : V} {d : PyData} (h1 : Dp K H x d) (h2 : Dp K H y d) (o : okD 4 d = true) (q : ∀ H', Same H H' → Q (.bl true) H') : qAlike K [x, y] H Q E := by
  unfold qAlike
  exact ⟨x, y, d, rfl, h1, h2, o, q⟩
theorem no_bad (e : bad zs rs = none) : BadE C zs rs H E := fun _ _ z => by rw [e] at z; cases z
theorem go_pattern (hp : PlanAt K H p zs rs) (s : Small zs rs) (e : bad zs rs = none) (q : ∀ H', Same H H' → Q (.int (lc rs : Nat)) H') : qPattern K C [.ref p] H Q E := by
  unfold qPattern
  exact ⟨p, zs, rs, rfl, hp, s, fun _ => q, no_bad e⟩
theorem go_visits {n : Int} (hp : PlanAt K H p zs rs) (s : Small zs rs) (e : bad zs rs = none) (q : NewTL H (meets rs (n - 1)) Q) : qVisits K C [.ref p, .int n] H Q E := by
  unfold qVisits
  exact ⟨p, zs, rs, n, rfl, hp, s, fun _ => q, no_bad e⟩
theorem go_places (hp : PlanAt K H p zs rs) (s : Small zs rs) (e : bad zs rs = none) (q : NewTL H (placesV zs rs.length) Q) : qPlaces K C [.ref p] H Q E := by
  unfold qPlaces
  exact ⟨p, zs, rs, rfl, hp, s, fun _ => q, no_bad e⟩
theorem go_initial (hp : PlanAt K H p zs rs) (s : Small zs rs) (e : bad zs rs = none) (q : ∀ H' t ca sh, Same H H' → H' t = some (.tup [.int 0, .ref ca, .ref sh]) → LayAt H' ca sh ((parc (rs.length + sumN zs)).take rs.length) (segs (parc (rs.length + sumN zs)) rs.length zs) → Q (.ref t) H') : qInitial K C [.ref p] H Q E := by
  unfold qInitial
  exact ⟨p, zs, rs, rfl, hp, s, fun _ => q, no_bad e⟩
/-- what the lambdas' errors are told as -/
theorem err_plan (AP : ErA K CS C C1 C2 C3 C4 C5 C6 C7 C8 C9 C10 C11 C12 C13 C14 C "plan") (hq : NewS H (dueV (bad zs rs)) Q) : BadE C zs rs H (ErrE K CS C C1 C2 C3 C4 C5 C6 C7 C8 C9 C10 C11 C12 C13 C14 Q) := by
  intro part i e H' dd fs sm h1 h2 h3
  rw [e] at hq
  obtain ⟨b0, b1, b2, b3, b4, b5, b6, b7, b8, b9, b10, b11, b12, b13, b14, j, R⟩ := AP.ex
  exact ⟨C, "plan", b0, b1, b2, b3, b4, b5, b6, b7, b8, b9, b10, b11, b12, b13, b14, j, rfl, .inr ⟨dd, fs, rfl, h1⟩, R, .inr ⟨rfl, rfl, dd, fs, _, _, rfl, h1, h2, h3, hq.imp sm⟩⟩
theorem ok_plan_due (e : bad zs rs = none) (hq : NewS H (dueV (bad zs rs)) Q) {v : V} {H' : Hp} (sm : Same H H') : OkQ Q v H' := by
  rw [e] at hq
  exact hq.imp sm
section
variable (AP : ErA K CS C C1 C2 C3 C4 C5 C6 C7 C8 C9 C10 C11 C12 C13 C14 C "plan") (hp : PlanAt K H p zs rs) (s : Small zs rs) (hq : NewS H (dueV (bad zs rs)) Q)
include AP hp s hq
theorem tl1_go : tl1 K C [some (.ref p)] (ErrE K CS C C1 C2 C3 C4 C5 C6 C7 C8 C9 C10 C11 C12 C13 C14 Q) H (OkQ Q) := by
  refine ⟨p, rfl, ?_⟩
  unfold qPattern
  exact ⟨p, zs, rs, rfl, hp, s, fun e _ sm => ok_plan_due e hq sm, err_plan AP hq⟩
theorem tl2_go {n : Int} : tl2 K C [some (.int n), some (.ref p)] (ErrE K CS C C1 C2 C3 C4 C5 C6 C7 C8 C9 C10 C11 C12 C13 C14 Q) H (OkQ Q) := by
  refine ⟨n, p, rfl, ?_⟩
  unfold qVisits
  exact ⟨p, zs, rs, n, rfl, hp, s, fun e _ _ sm _ _ => ok_plan_due e hq sm, err_plan AP hq⟩
theorem tl3_go : tl3 K C [some (.ref p)] (ErrE K CS C C1 C2 C3 C4 C5 C6 C7 C8 C9 C10 C11 C12 C13 C14 Q) H (OkQ Q) := by
  refine ⟨p, rfl, ?_⟩
  unfold qPlaces
  exact ⟨p, zs, rs, rfl, hp, s, fun e _ _ sm _ _ => ok_plan_due e hq sm, err_plan AP hq⟩
theorem tl4_go : tl4 K C [some (.ref p)] (ErrE K CS C C1 C2 C3 C4 C5 C6 C7 C8 C9 C10 C11 C12 C13 C14 Q) H (OkQ Q) := by
  refine ⟨p, rfl, ?_⟩
  unfold qInitial
  exact ⟨p, zs, rs, rfl, hp, s, fun e _ _ _ _ sm _ _ => ok_plan_due e hq sm, err_plan AP hq⟩
end
end
theorem PlanAt.ext {K : PySem.W.Frag} {H H' : Hp} {p : Addr} {zs : List Int} {rs : List Ro} (x : PlanAt K H p zs rs) (e : ExtL H H') : PlanAt K H' p zs rs := by
  obtain ⟨a, b, h1, h2, h3⟩ := x.ex
  obtain ⟨qs, g1, g2⟩ := h3.ex
  exact ⟨a, b, sqT_ext e h1, sqT_ext e h2, qs, sqT_ext e g1, paired_imp (fun _ _ s => sqT_ext e s) g2⟩
theorem PlanAt.upd {K : PySem.W.Frag} {H : Hp} {D p : Addr} {xs : List V} {o : HO} {zs : List Int} {rs : List Ro} (x : PlanAt K H p zs rs) (h : H D = some (.lst xs)) : PlanAt K (L2.upd H D o) p zs rs := x.ext (ExtL.upd h)
theorem comp_step {T : List (Addr × Str)} {Hw H' : Hp} {D : Addr} {ps : List Addr} {i : Nat} {t0 : List V} (hD : Hw D = none) (e : ExtN Hw H') (t : Tabs T H') (hl : ps.length = i) (hd : H' D = some (.lst (ps.map V.ref))) (hp : ∀ p ∈ ps, H' p = some (.tup t0)) (hi : i < 1000) :
    NewS H' t0 (fun y H4 => ∃ acc, H4 D = some (.lst acc) ∧ acc.length < sizeLine ∧ (ExtN Hw (L2.upd H4 D (.lst (acc ++ [y]))) ∧ Tabs T (L2.upd H4 D (.lst (acc ++ [y]))) ∧ ∃ ps' : List Addr, ps'.length = i + 1 ∧ (L2.upd H4 D (.lst (acc ++ [y]))) D = some (.lst (ps'.map V.ref)) ∧ ∀ p ∈ ps', (L2.upd H4 D (.lst (acc ++ [y]))) p = some (.tup t0))) := fun H4 p sm hp0 hk => by
  refine ⟨_, sm _ _ hd, ?_, fun b o hb hn => ?_, tabs_upd (t.ext sm) (sm _ _ hd), ps ++ [p], ?_, ?_, fun z hz => ?_⟩
  · rw [List.length_map, hl]
    exact small1000 (Nat.le_of_lt hi)
  · rw [upd_ne (ne_of_none hb hD)]
    exact sm _ _ (e b o hb hn)
  · rw [List.length_append, hl]
    rfl
  · rw [upd_same, List.map_append]
    rfl
  · have key : H4 z = some (.tup t0) := by
      rcases List.mem_append.mp hz with q | q
      · exact sm _ _ (hp z q)
      · rw [List.mem_singleton.mp q]
        exact hk
    rw [upd_ne (fun e => by rw [e, sm _ _ hd] at key; cases key)]
    exact key
end Sv


set_option maxHeartbeats 8000000
namespace Sv
open PySem PySem.Spec PyProof.Rows L2 LamX NdefX
theorem TL.cat {H : Hp} {f g p : Addr} {ts us : List (List V)} {xs ys : List V} (x : TL H f ts) (y : TL H g us) (hf : H f = some (.lst xs)) (hg : H g = some (.lst ys)) (hp : H p = none) : TL (L2.upd H p (.lst (xs ++ ys))) p (ts ++ us) := by
  obtain ⟨ps, h1, h2⟩ := x.ex
  obtain ⟨qs, g1, g2⟩ := y.ex
  rw [hf] at h1
  rw [hg] at g1
  obtain rfl := HO.lst.inj (Option.some.inj h1)
  obtain rfl := HO.lst.inj (Option.some.inj g1)
  exact ⟨ps ++ qs, by rw [upd_same, List.map_append], tupsV_same (same_upd hp) (tupsV_app h2 g2)⟩
theorem shN_sum (zs : List Int) : ∀ k, k ≤ zs.length → (shN zs k).length = sumN (zs.take k)
  | 0, _ => rfl
  | k + 1, hk => by
    unfold shN
    have e : zs.getD k 0 = zs[k] := by rw [List.getD_eq_getElem?_getD, List.getElem?_eq_getElem (by omega)]; rfl
    rw [List.length_append, posV_len, shN_sum zs k (by omega), e, List.take_succ_eq_append_getElem (by omega), sumN_snoc]
theorem places_len (zs : List Int) (n : Nat) : (placesV zs n).length = n + sumN zs := by
  unfold placesV
  rw [List.length_append, carV_len, shN_sum zs _ (Nat.le_refl _), List.take_length]
def smallT (t : List V) : Prop := (∀ v ∈ t, simV v = true) ∧ t.length ≤ 1000
theorem carV_small (n : Nat) : ∀ t ∈ carV n, smallT t := fun t ht => by
  unfold carV at ht
  obtain ⟨c, _, rfl⟩ := List.mem_map.mp ht
  refine ⟨fun v hv => ?_, by show 2 ≤ 1000; omega⟩
  simp only [List.mem_cons, List.not_mem_nil, or_false] at hv
  rcases hv with rfl | rfl <;> rfl
theorem posV_small (s n : Nat) : ∀ t ∈ posV s n, smallT t := fun t ht => by
  unfold posV at ht
  obtain ⟨c, _, rfl⟩ := List.mem_map.mp ht
  refine ⟨fun v hv => ?_, by show 3 ≤ 1000; omega⟩
  simp only [List.mem_cons, List.not_mem_nil, or_false] at hv
  rcases hv with rfl | rfl | rfl <;> rfl
theorem shN_small (zs : List Int) : ∀ k, ∀ t ∈ shN zs k, smallT t
  | 0, t, ht => by cases ht
  | k + 1, t, ht => by
    unfold shN at ht
    rcases List.mem_append.mp ht with ht | ht
    · exact shN_small zs k t ht
    · exact posV_small _ _ t ht
theorem places_small (zs : List Int) (n : Nat) : ∀ t ∈ placesV zs n, smallT t := fun t ht => by
  unfold placesV at ht
  rcases List.mem_append.mp ht with ht | ht
  · exact carV_small n t ht
  · exact shN_small zs _ t ht
theorem parc_all {n : Nat} {zs : List Int} : (parc (n + sumN zs)).take n ++ (segs (parc (n + sumN zs)) n zs).flatten = parc (n + sumN zs) := by
  have e : ((parc (n + sumN zs)).drop n).take (sumN zs) = (parc (n + sumN zs)).drop n := List.take_of_length_le (by rw [List.length_drop, parc_len]; omega)
  rw [segs_flat, e, List.take_append_drop]
theorem seg_sizes {n : Nat} {zs : List Int} (h : ∀ z ∈ zs, 0 ≤ z ∧ z ≤ 9) : (segs (parc (n + sumN zs)) n zs).map (fun s => (s.length : Int)) = zs := by
  have e := segs_lens (parc (n + sumN zs)) n zs (by rw [parc_len]; omega)
  have e2 : (segs (parc (n + sumN zs)) n zs).map (fun s => (s.length : Int)) = ((segs (parc (n + sumN zs)) n zs).map List.length).map (fun (k : Nat) => (k : Int)) := by rw [List.map_map]; rfl
  rw [e2, e, List.map_map]
  conv => rhs; rw [← List.map_id zs]
  refine List.map_congr_left fun z hz => ?_
  have := h z hz
  show ((z.toNat : Nat) : Int) = z
  omega
end Sv


set_option maxHeartbeats 8000000
namespace Sv
open PySem PySem.Spec PyProof.Rows L2 LamX NdefX
section
variable {P : Program} {w : World} {K : PySem.W.Frag} {mg : Str → Option Value} {base : Heap}
variable {C fI fW fS fR fT fP : Addr} {dI dW dS dR dT dP : FuncData}
variable {gP gV gL gN gI gC gR gS gT : Addr} {eP eVv eL eN eI eC eR eS eT : FuncData}
variable {a1 a2 a3 a4 a5 a6 a7 a8 : Addr} {d1 d2 d3 d4 d5 d6 d7 d8 : FuncData}
def nLaw : List Str := ["_law_script", "_law_h", "_law_turn", "_law_plan_here", "_law_bad", "_law_number", "_law_due", "_law_works", "_law_rows", "_law_length", "_law_spots", "_law_shelf", "_law_state_here", "_law_parcels", "_law_sizes", "_law_call", "_law_k", "_law_one"]
theorem scLaw : FnScope nLaw ["_law_script"] (defScope sLaw) := ⟨rfl, rfl, rfl, by decide +kernel, rfl, by decide +kernel, by decide +kernel⟩
def lamQ : Str := (envOfC "law" (defScope sLaw) 0 0 .none).qual ++ "<lambda>"
def lawT (Pt : Addr) : List (Addr × Str) := [(Pt, lamQ)]
theorem hbn2 : ∀ q cl pm cv ctv (T : Addr) (u : Value), ∃ k, bindArgs { PySem.W.kla_fn "<lambda>" q (lamP lam2) (lamE lam2) (lamS lam2) cl pm cv ctv with defaults := .ref T } ⟨[], []⟩ = seqItems? (.ref T) >>= k ∧ k (some [u].toArray) = pure [(("_law_a" : Str), u)] := by
  intro q cl pm cv ctv T u
  exact ⟨_, rfl, rfl⟩
theorem hbn3 : ∀ q cl pm cv ctv (T : Addr) (u : Value), ∃ k, bindArgs { PySem.W.kla_fn "<lambda>" q (lamP lam3) (lamE lam3) (lamS lam3) cl pm cv ctv with defaults := .ref T } ⟨[], []⟩ = seqItems? (.ref T) >>= k ∧ k (some [u].toArray) = pure [(("_law_b" : Str), u)] := by
  intro q cl pm cv ctv T u
  exact ⟨_, rfl, rfl⟩
def spLaw (K : PySem.W.Frag) (Pt : Addr) : Sp := fun vs H Q _ => ∃ (a : Addr) (ns : List Int), vs = [.ref a] ∧ SqL K H a (ns.map V.int) ∧ ns.length ≤ 63 ∧ Tabs (lawT Pt) H ∧ ∀ H', Q (.bl true) H'
theorem ok_law {f c Pt : Addr} {fd : FuncData} {CS C1 C2 C3 C4 C5 C6 C7 C8 C9 C10 C11 C12 C13 C14 : Addr} (T : Pf P K mg C fI fW fS fR fT fP dI dW dS dR dT dP) (L : Qf P K mg gP gV gL gN gI gC gR gS gT eP eVv eL eN eI eC eR eS eT) (W : Lw K mg a1 a2 a3 a4 a5 a6 a7 a8 d1 d2 d3 d4 d5 d6 d7 d8)
    (F : Df K mg "law" sLaw ["_law_script"] f fd) (hc : fd.code = .ref c) (TB : TabB base mg c Pt) (G : ErG mg CS C C1 C2 C3 C4 C5 C6 C7 C8 C9 C10 C11 C12 C13 C14)
    (AP : ErA K CS C C1 C2 C3 C4 C5 C6 C7 C8 C9 C10 C11 C12 C13 C14 C "plan") (XF : XfC K C) (xp : PySem.W.findIn K (.ref C) "part" = some none) (xi : PySem.W.findIn K (.ref C) "index" = some none) :
    FnOk P w K mg base CX0 8 f fd ["_law_script"] (spLaw K Pt) := by
  have GM : FnOk P w K mg base CX0 1 a1 d1 ["_law_script", "_law_seed"] (spMix K) := ok_mix W.M.F T.bt
  have GN : FnOk P w K mg base CX0 1 a2 d2 ["_law_h", "_law_limit"] qNext := by unfold qNext; exact ok_next W.N.F T.bt
  have GA : FnOk P w K mg base CX0 5 a3 d3 ["_law_found", "_law_due"] (qAlike K) := by unfold qAlike; exact ok_alike W.A T.bt 4
  have GX : FnSt P w K mg base 7 a4 (KnErr P w K mg base 6 CS C C1 C2 C3 C4 C5 C6 C7 C8 C9 C10 C11 C12 C13 C14) := ok_error W.X T.bt G XF xp xi
  have GP : FnOk P w K mg base CX0 2 a5 d5 ["_law_h", "_law_shelves", "_law_carriers"] (qPlan K) := by unfold qPlan; exact ok_plan W.P W.N T.bt
  have GB : FnOk P w K mg base CX0 1 a6 d6 ["_law_plan_here"] (qBad K) := by unfold qBad; exact ok_firstBad W.B T.bt
  have GS : FnOk P w K mg base CX0 2 a7 d7 ["_law_h", "_law_plan_here"] (qSpoilt K) := by unfold qSpoilt; exact ok_spoilt W.S W.N T.bt
  have GE : FnOk P w K mg base CX0 1 a8 d8 ["_law_plan_here", "_law_number"] (qMeet K) := by unfold qMeet; exact ok_meetings W.E T.bt
  have JP : FnOk P w K mg base (L2.CX P w) 5 gP eP ["plan"] (qPattern K C) := by unfold qPattern; exact ok_pattern T L
  have JV : FnOk P w K mg base (L2.CX P w) 5 gV eVv ["plan", "number"] (qVisits K C) := by unfold qVisits; exact ok_visits T L
  have JL : FnOk P w K mg base (L2.CX P w) 5 gL eL ["plan"] (qPlaces K C) := by unfold qPlaces; exact ok_places T L
  have JT : FnOk P w K mg base (L2.CX P w) 5 gT eT ["plan"] (qInitial K C) := by unfold qInitial; exact ok_initial T L
  refine fun_okC F.F hc scLaw (fun vs H Q E h => ?_) (fun A outer s H vs Q E hr h => ?_)
  · obtain ⟨a, ns, rfl, _⟩ := h
    rfl
  · obtain ⟨a, ns, rfl, hA, hl, hT, q⟩ := h
    have LT : LamT (cxOf CX0 P w K mg base nLaw "law" (defScope sLaw) f (.ref c) A outer s H E).nox (lawT Pt) c Pt := ⟨TB, rfl, List.mem_singleton.mpr rfl, fun p hp _ => by rw [List.mem_singleton.mp hp]; rfl⟩
    refine ⟨_, (pss_cons (ps_set (i := 1) scLaw.nd rfl (Or.inl rfl) (pe_call (E := E0) GM (hr.mono (by decide)) (by rfl) W.M.g W.M.F.kp W.M.b .nil pass0 (pa_cons (pv 0) (pa_cons pe_int pa_nil))))
            (pss_cons (ps_for PassesOwn.never rfl (pi_range1 (by rfl) T.bt.range (pa_cons pe_int pa_nil)) (pg_name (i := 2) scLaw.nd rfl (Or.inl rfl))
          (pss_cons (ps_set (i := 3) scLaw.nd rfl (Or.inr rfl) (pe_call (E := E0) GP (hr.mono (by decide)) (by rfl) W.P.g W.P.F.kp W.P.b .nil pass0 (pa_cons (pv 1) (pa_cons pe_int (pa_cons pe_int pa_nil)))))
            (pss_cons (ps_if (pt_cmpR op_eq (pe_call (E := E0) GN (hr.mono (by decide)) (by rfl) W.N.g W.N.F.kp W.N.b .nil pass0 (pa_cons (pv 1) (pa_cons pe_int pa_nil))) pe_int (nomark _)) (pss_one (ps_set (i := 3) scLaw.nd rfl (Or.inr rfl) (pe_call (E := E0) GS (hr.mono (by decide)) (by rfl) W.S.g W.S.F.kp W.S.b .nil pass0 (pa_cons (pv 1) (pa_cons (pv 3) pa_nil))))) pss_nil)
            (pss_cons (ps_set (i := 4) scLaw.nd rfl (Or.inl rfl) (pe_call (E := E0) GB (hr.mono (by decide)) (by rfl) W.B.g W.B.F.kp W.B.b .nil pass0 (pa_cons (pv 3) pa_nil)))
            (pss_cons (ps_set (i := 5) scLaw.nd rfl (Or.inr rfl) (pe_op op_sub (pe_call (E := E0) GN (hr.mono (by decide)) (by rfl) W.N.g W.N.F.kp W.N.b .nil pass0 (pa_cons (pv 1) (pa_cons pe_int pa_nil))) pe_int))
            (pss_cons (ps_set (i := 6) scLaw.nd rfl (Or.inl rfl) (pe_ifExp (pt_cmpR op_isN (pv 4) pe_non (nomark _)) (pe_tup (pa_cons pe_str pa_nil)) (pe_op op_catQ (pe_tup (pa_cons pe_str pa_nil)) (pv 4))))
            (pss_cons (ps_set (i := 7) scLaw.nd rfl (Or.inl rfl) (pe_lst (pa_cons (pe_lamK0 (js := [3]) LT (lb1 T L)) (pa_cons (pe_lamK1 (js := [5, 3]) LT (lb2 T L) hbn2) (pa_cons (pe_lamK1 (js := [3]) LT (lb3 T L) hbn3) pa_nil)))))
            (pss_cons (ps_expr (pe_bm PySem.F.plainAttrs_list PySem.F.slot_list_append PySem.F.type_list_append mt_append (pv 7) <| pa_one (pe_lamK0 (js := [3]) LT (lb4 T L))))
            (pss_cons (ps_if (pt_cmpR (op_neQ hr.units) (pe_lcI (own := [("_law_call", 15)]) (g := gName 15) (tt := fun _ => tYes) rfl scLaw.nd (pi_list (pv 7)) (blkOk_by (N := nLaw) (sc := defScope sLaw) (by decide +kernel)) (fun _ _ _ _ _ => pg_name (i := 15) scLaw.nd rfl (Or.inl rfl)) (fun _ _ _ _ _ _ _ => pts_nil) (fun _ _ _ _ _ _ B0 => pe_errBlk (i := 15) GX hr (fun _ => rfl) B0 (by rfl) W.X.g W.X.F.kp (pv 15))) (pe_op op_rep (pe_lst (pa_cons (pv 6) pa_nil)) pe_int) (nomark _)) pss_never pss_nil)
            (pss_one (ps_if (pt_cmpR op_isN (pv 4) pe_non (nomark _)) ((pss_cons (ps_setLc (i := 8) (own := [("_law_k", 16)]) (g := gName 16) (tt := tYes) (te := tCall (qMeet K) [] E0 (tCons (tVar 3) (tCons (tVar 16) tNil))) rfl scLaw.nd rfl rfl (sw_true rfl rfl rfl (by decide +kernel)) (pi_range2 (by rfl) T.bt.range (pa_cons pe_int (pa_cons pe_int pa_nil))) (blkOk_by (N := nLaw) (sc := defScope sLaw) (by decide +kernel))
                (fun _ _ _ _ _ => pg_name (i := 16) scLaw.nd rfl (Or.inl rfl)) (fun _ _ _ _ _ => pts_nil) (fun _ _ _ _ _ => pe_call (E := E0) GE (hr.mono (by decide)) (by rfl) W.E.g W.E.F.kp W.E.b .nil pass0 (pa_cons (pv 3) (pa_cons (pv 16) pa_nil))))
            (pss_cons (ps_set (i := 9) scLaw.nd rfl (Or.inl rfl) pe_int)
            (pss_cons (ps_while PassesOwn.never (pt_mo (pt_cmpR (op_neQ hr.units) (pe_op op_cat (pe_slice sl_list (pv 8) (po_some (pv 9)) po_none) (pe_slice sl_list (pv 8) po_none (po_some (pv 9)))) (pv 8) (nomark _)))
              (pss_one (ps_set (i := 9) scLaw.nd rfl (Or.inl rfl) (pe_op op_add (pv 9) pe_int))))
            (pss_cons (ps_if (pw_or (pt_cmpR op_ne (pe_call (E := E0) JP (hr.mono (by decide)) (by rfl) L.P.g L.P.F.kp L.P.b .nil passL (pa_cons (pv 3) pa_nil)) (pv 9) (nomark _))
                (pw_or1 (pt_not (pt_val (pe_call (E := E0) GA (hr.mono (by decide)) (by rfl) W.A.g W.A.F.kp W.A.b .nil pass0 (pa_cons (pe_call (E := E0) JV (hr.mono (by decide)) (by rfl) L.V.g L.V.F.kp L.V.b .nil passL (pa_cons (pv 3) (pa_cons (pv 5) pa_nil))) (pa_cons (pe_call (E := E0) GE (hr.mono (by decide)) (by rfl) W.E.g W.E.F.kp W.E.b .nil pass0 (pa_cons (pv 3) (pa_cons (pv 5) pa_nil))) pa_nil))))))).pt pss_never pss_nil)
            (pss_cons (ps_setLc (i := 10) (own := [("_law_k", 16)]) (g := gName 16) rfl scLaw.nd rfl rfl (sw_true rfl rfl rfl (by decide +kernel)) (pi_range1 (by rfl) T.bt.range (pa_cons (pe_callB call_len_seq (by rfl) T.bt.len b_len (pa_cons (pe_ix ix_tup (pv 3) pe_int (fun _ _ => rfl)) pa_nil)) pa_nil)) (blkOk_by (N := nLaw) (sc := defScope sLaw) (by decide +kernel))
                (fun _ _ _ _ _ => pg_name (i := 16) scLaw.nd rfl (Or.inl rfl)) (fun _ _ _ _ _ => pts_nil) (fun _ _ _ _ _ => pe_tup (pa_cons pe_str (pa_cons (pv 16) pa_nil))))
            (pss_cons (ps_for PassesOwn.never rfl (pi_range1 (by rfl) T.bt.range (pa_cons (pe_callB call_len_seq (by rfl) T.bt.len b_len (pa_cons (pe_ix ix_tup (pv 3) pe_int (fun _ _ => rfl)) pa_nil)) pa_nil)) (pg_name (i := 11) scLaw.nd rfl (Or.inr rfl))
              (pss_one (ps_set (i := 10) scLaw.nd rfl (Or.inl rfl) (pe_op op_cat (pv 10) (pe_lc (own := [("_law_k", 16)]) (g := gName 16) rfl scLaw.nd (pi_range1 (by rfl) T.bt.range (pa_cons (pe_ix ix_tup (pe_ix ix_tup (pv 3) pe_int (fun _ _ => rfl)) (pv 11) (fun _ _ => rfl)) pa_nil)) (blkOk_by (N := nLaw) (sc := defScope sLaw) (by decide +kernel))
                (fun _ _ _ _ _ => pg_name (i := 16) scLaw.nd rfl (Or.inl rfl)) (fun _ _ _ _ _ => pts_nil) (fun _ _ _ _ _ => pe_tup (pa_cons pe_str (pa_cons (pv 11) (pa_cons (pv 16) pa_nil)))))))))
            (pss_cons (ps_if (pt_not (pt_val (pe_call (E := E0) GA (hr.mono (by decide)) (by rfl) W.A.g W.A.F.kp W.A.b .nil pass0 (pa_cons (pe_call (E := E0) JL (hr.mono (by decide)) (by rfl) L.L.g L.L.F.kp L.L.b .nil passL (pa_cons (pv 3) pa_nil)) (pa_cons (pv 10) pa_nil))))) pss_never pss_nil)
            (pss_cons (ps_set (i := 12) scLaw.nd rfl (Or.inl rfl) (pe_call (E := E0) JT (hr.mono (by decide)) (by rfl) L.T.g L.T.F.kp L.T.b .nil passL (pa_cons (pv 3) pa_nil)))
            (pss_cons (ps_set (i := 13) scLaw.nd rfl (Or.inl rfl) (pe_callTy call_list_of (by rfl) T.bt.list b_list (pa_cons (pe_ix ix_tup (pv 12) pe_int (fun _ _ => rfl)) pa_nil)))
            (pss_cons (ps_for PassesOwn.never rfl (pi_tup (pe_ix ix_tup (pv 12) pe_int (fun _ _ => rfl))) (pg_name (i := 11) scLaw.nd rfl (Or.inr rfl))
              (pss_one (ps_set (i := 13) scLaw.nd rfl (Or.inl rfl) (pe_op op_cat (pv 13) (pe_callTy call_list_of (by rfl) T.bt.list b_list (pa_cons (pv 11) pa_nil))))))
            (pss_cons (ps_setLc (i := 14) (own := [("_law_one", 17)]) (g := gName 17) (tt := tYes) (te := tCB (rLn K) (tCons (tVar 17) tNil)) rfl scLaw.nd rfl rfl (sw_true rfl rfl rfl (by decide +kernel)) (pi_tup (pe_ix ix_tup (pv 12) pe_int (fun _ _ => rfl))) (blkOk_by (N := nLaw) (sc := defScope sLaw) (by decide +kernel))
                (fun _ _ _ _ _ => pg_name (i := 17) scLaw.nd rfl (Or.inl rfl)) (fun _ _ _ _ _ => pts_nil) (fun _ _ _ _ _ => pe_callB call_len_seq (by rfl) T.bt.len b_len (pa_cons (pv 17) pa_nil)))
            (pss_one (ps_if (pw_or (pt_cmpR op_ne (pe_ix ix_tup (pv 12) pe_int (fun _ _ => rfl)) pe_int (nomark _)) (pw_or (pt_cmpR (op_neQ hr.units) (pv 14) (pe_callTy call_list_of (by rfl) T.bt.list b_list (pa_cons (pe_ix ix_tup (pv 3) pe_int (fun _ _ => rfl)) pa_nil)) (nomark _))
                (pw_or1 (pt_cmpR (op_neQ hr.units) (pv 13) (pe_listRg rfl (by rfl) T.bt.list (prg_2 (by rfl) T.bt.range pe_int (pe_op op_add (pe_callB call_len_seq (by rfl) T.bt.len b_len (pa_cons (pv 10) pa_nil)) pe_int))) (nomark _))))).pt pss_never pss_nil))))))))))))))
            pss_nil)))))))))))
            (pss_one (ps_ret pe_bl)))), ?_⟩
    -- the source
    refine ⟨.ref a, rfl, a, ns, 1, rfl, hA, hl, fun H1 h l LH sm nh nl => ?_⟩
    refine ⟨6, rfl, by omega, by omega, ?_⟩
    refine for_range (lo := 0) (n := (6 : Int).toNat) (fun i σ H' => (∃ x0 x2 x3 x4 x5 x6 x7 x8 x9 x10 x11 x12 x13 x14 x15 x16 x17, σ = [x0, some (.ref h), x2, x3, x4, x5, x6, x7, x8, x9, x10, x11, x12, x13, x14, x15, x16, x17]) ∧ LS (lawT Pt) h l H')
      ⟨⟨_, _, _, _, _, _, _, _, _, _, _, _, _, _, _, _, _, rfl⟩, LH, hT.ext sm⟩ (fun i σ H2 hi ⟨⟨x0, x2, x3, x4, x5, x6, x7, x8, x9, x10, x11, x12, x13, x14, x15, x16, x17, es⟩, S2⟩ => ?_) (fun σ H2 _ => q _)
    subst es
    clear LH sm nh nl hT hA H1
    -- the plan
    refine ⟨.ref h, rfl, ?_⟩
    show qPlan _ _ _ _ _
    refine go_plan S2.law fun H3 p0 zs0 rs0 st3 hp3 g3 => ?_
    have S3 := S2.x st3.law st3.k
    refine (fun (key : ∀ (p : Addr) (zs : List Int) (rs : List Ro) (H' : Hp), LS (lawT Pt) h l H' → PlanAt K H' p zs rs → Small zs rs → (?G : Addr → Hp → Prop) p H') => ?main) ?key
    case main =>
      refine ⟨.ref h, rfl, ?_⟩
      show qNext _ _ _ _
      refine go_next S3.law (by decide) (by decide) fun n4 H4 hn4 L4 x4' => ⟨rfl, _, rfl, ?_⟩
      have S4 := S3.x L4 x4'
      have hp4 := hp3.x S3.law x4'
      by_cases z4 : n4 = 0
      · rw [decide_eq_true (by rw [z4]; rfl)]
        refine iteT ⟨.ref h, rfl, .ref p0, rfl, ?_⟩
        show qSpoilt _ _ _ _ _
        refine go_spoilt S4.law hp4 g3 fun H5 p' zs' rs' st5 hp5 s5 => ?_
        exact key p' zs' rs' H5 (S4.x st5.law st5.k) hp5 s5
      · rw [decide_eq_false fun z => z4 (by have := V.int.inj z; omega)]
        refine iteF ?_
        exact key p0 zs0 rs0 H4 S4 hp4 ⟨by have := g3.z1; omega, by have := g3.r1; omega, fun r hr => by have := g3.r2 r hr; omega⟩
    intro p zs rs H4 S4 hp4 s4
    refine ⟨.ref p, rfl, ?_⟩
    show qBad _ _ _ _ _
    refine go_bad2 hp4 s4 fun v4 H5 m5 hv4 => ?_
    have S5 := S4.s m5
    refine ⟨.ref h, rfl, ?_⟩
    show qNext _ _ _ _
    refine go_next S5.law (by decide) (by decide) fun n6 H6 hn6 L6 x6' => ⟨n6, 100, rfl, rfl, ?_⟩
    have S6 := S5.x L6 x6'
    have hp6 := (hp4.same m5).x S5.law x6'
    refine (fun (key2 : ∀ (t : Addr) (H' : Hp), Same H6 H' → SqT K H' t (dueV (bad zs rs)) → (?G2 : Addr → Hp → Prop) t H') => ?main2) ?key2
    case main2 =>
      refine ⟨v4, rfl, rfl, _, rfl, ?_⟩
      rcases hv4 with ⟨e, hv⟩ | ⟨part, i, t5, e, hv, k5⟩
      · rw [decide_eq_true hv]
        refine iteT ⟨(by show 1 ≤ sizeLine; decide), fun t7 ht7 => ?_⟩
        have m7 := same_upd (o := .tup [.str "none"]) ht7
        have k7 : SqT K (upd H6 t7 (.tup [.str "none"])) t7 [.str "none"] := .inl (.inl upd_same)
        generalize upd H6 t7 (.tup [.str "none"]) = H7 at m7 k7 ⊢
        refine key2 t7 H7 m7 ?_
        rw [e]
        exact k7
      · have k6 : SqT K H6 t5 [.str part, .int i] := sqT_x S5.law x6' (.inl (.inl k5))
        rw [decide_eq_false (fun z => by rw [hv] at z; cases z)]
        refine iteF ⟨(by show 1 ≤ sizeLine; decide), fun t7 ht7 => ⟨v4, rfl, ?_⟩⟩
        have m7 := same_upd (o := .tup [.str "plan"]) ht7
        have k7 : SqT K (upd H6 t7 (.tup [.str "plan"])) t7 [.str "plan"] := .inl (.inl upd_same)
        generalize upd H6 t7 (.tup [.str "plan"]) = H7 at m7 k7 ⊢
        refine cat_go2 k7 hv (sqT_same m7 k6) (by show 1 + 2 ≤ 1000; omega) fun H8 t8 m8 k8 => ?_
        refine key2 t8 H8 (m7.trans m8) ?_
        rw [e]
        exact k8
    have hv4 : decide (v4 = .non) = decide (bad zs rs = none) := by
      rcases hv4 with ⟨e, hv⟩ | ⟨part, i, t5, e, hv, k5⟩
      · rw [hv, e]
        rfl
      · rw [hv, e]
        rfl
    intro t H8 m8 k8
    have S8 := S6.s m8
    have hp8 := hp6.same m8
    clear m8 S6 hp6 S5 m5 x6' L6
    clear S4 hp4
    -- the works
    refine ⟨S8.tabs, fun f1 H24 x24 v24 t24 nf1 is1 => ⟨t24, fun f2 H25 x25 v25 t25 nf2 is2 => ⟨t25, fun f3 H26 x26 v26 t26 nf3 is3 => ⟨(by show 3 ≤ sizeLine; decide), fun W hW => ?_⟩⟩⟩⟩
    have S26 := ((S8.e x24 t24).e x25 t25).e x26 t26
    have E26 := ((ExtL.n x24).trans (.n x25)).trans (.n x26)
    have nW : W ≠ h ∧ W ≠ l := by
      obtain ⟨m, ii, cs, e1, e2, e3⟩ := S26.law.ex
      exact ⟨(ne_of_none e1 hW).symm, (ne_of_none e2 hW).symm⟩
    have m27 : Same H26 (upd H26 W (.lst [.ref f1, .ref f2, .ref f3])) := same_upd hW
    have d27 : (upd H26 W (.lst [.ref f1, .ref f2, .ref f3])) W = some (.lst [.ref f1, .ref f2, .ref f3]) := upd_same
    generalize upd H26 W (.lst [.ref f1, .ref f2, .ref f3]) = H27 at m27 d27 ⊢
    have S27 := S26.s m27
    have E27 := E26.trans (.s m27)
    have is1 := is1.extL (((ExtL.n x25).trans (.n x26)).trans (.s m27))
    have is2 := is2.extL ((ExtL.n x26).trans (.s m27))
    have is3 := is3.extL (.s m27)
    clear S26 E26 x24 x25 x26 v24 v25 v26 t24 t25 t26 nf1 nf2 nf3 m27 hW
    refine ⟨.ref W, rfl, .inl ⟨rfl, _, .inl (.inl d27)⟩, S27.tabs, fun f4 H28 x28 v28 t28 nf4 is4 => ?_⟩
    have S28 := S27.e x28 t28
    have d28 := x28 _ _ d27 (fun _ z => nomatch z)
    refine ⟨W, _, _, rfl, rfl, d28, (by show 3 < sizeLine; decide), ?_⟩
    have S32 := S28.u (o := .lst ([V.ref f1, V.ref f2, V.ref f3] ++ [V.ref f4])) d28 nW.1 nW.2
    have u32 : ExtL H28 (upd H28 W (.lst ([V.ref f1, V.ref f2, V.ref f3] ++ [V.ref f4]))) := ExtL.upd d28
    have d32 : (upd H28 W (.lst ([V.ref f1, V.ref f2, V.ref f3] ++ [V.ref f4]))) W = some (.lst [.ref f1, .ref f2, .ref f3, .ref f4]) := upd_same
    generalize upd H28 W (.lst ([V.ref f1, V.ref f2, V.ref f3] ++ [V.ref f4])) = H32 at S32 u32 d32 ⊢
    have s32 : ExtL H27 H32 := (ExtL.n x28).trans u32
    have is1 := is1.extL s32
    have is2 := is2.extL s32
    have is3 := is3.extL s32
    have is4 := is4.extL u32
    have E32 := E27.trans s32
    have hp32 := hp8.ext E32
    have k32 := sqT_ext E32 k8
    clear E27 s32 u32 d28 x28 v28 t28 nf4 S27 S28 d27 E32 hp8 k8 S8
    -- their errors
    refine ⟨.ref W, rfl, W, rfl, ⟨_, .inl (.inl d32)⟩, fun D33 hD33 => ?_⟩
    refine lc_list (xs := [.ref f1, .ref f2, .ref f3, .ref f4]) (fun i H' => ExtN H32 H' ∧ Tabs (lawT Pt) H' ∧ ∃ ps : List Addr, ps.length = i ∧ H' D33 = some (.lst (ps.map V.ref)) ∧ ∀ p ∈ ps, H' p = some (.tup (dueV (bad zs rs))))
      ⟨extN_same (same_upd hD33), S32.tabs.ext (same_upd hD33), [], rfl, upd_same, fun p hp => (List.not_mem_nil hp).elim⟩ (fun i H' _ h => .inl (.inl (h.1 _ _ d32 (fun _ z => nomatch z)))) (fun i x H' hx ⟨e33, t33, ps, hps, hd, hpp⟩ => ?_) (fun H' ⟨e33, t33, ps, hps, hd, hpp⟩ => ?_)
    · have hi6 : i < 4 := (List.getElem?_eq_some_iff.mp hx).1
      have st := comp_step (t0 := dueV (bad zs rs)) hD33 e33 t33 hps hd hpp (by omega)
      have L33 := ExtL.n e33
      have hp33 := hp32.ext L33
      refine ⟨rfl, yes_go ?_⟩
      have hc6 : i = 0 ∨ i = 1 ∨ i = 2 ∨ i = 3 := by omega
      rcases hc6 with h0 | h0 | h0 | h0
      · rw [h0] at hx
        obtain rfl := Option.some.inj hx
        exact ⟨f1, [3], tl1 K C, rfl, is1.extL L33, tl1_go AP hp33 s4 st⟩
      · rw [h0] at hx
        obtain rfl := Option.some.inj hx
        exact ⟨f2, [5, 3], tl2 K C, rfl, is2.extL L33, tl2_go AP hp33 s4 st⟩
      · rw [h0] at hx
        obtain rfl := Option.some.inj hx
        exact ⟨f3, [3], tl3 K C, rfl, is3.extL L33, tl3_go AP hp33 s4 st⟩
      · rw [h0] at hx
        obtain rfl := Option.some.inj hx
        exact ⟨f4, [3], tl4 K C, rfl, is4.extL L33, tl4_go AP hp33 s4 st⟩
    have S33 : LS (lawT Pt) h l H' := S32.e e33 t33
    have hp33 := hp32.ext (ExtL.n e33)
    have k33 := sqT_ext (ExtL.n e33) k32
    clear S32 hp32 k32 is1 is2 is3 is4 e33 t33 hD33 d32
    refine ⟨.ref t, rfl, (by show 1 ≤ sizeLine; decide), fun u34 hu34 => ?_⟩
    refine ⟨u34, 4, _, rfl, rfl, upd_same, by omega, by omega, (by show 1 * 4 ≤ sizeLine; decide), fun v34 hv34 => ?_⟩
    have m35 : Same H' (upd H' u34 (.lst [.ref t])) := same_upd hu34
    generalize upd H' u34 (.lst [.ref t]) = H35 at m35 hv34 ⊢
    have m36 : Same H35 (upd H35 v34 (.lst (List.replicate (4 : Int).toNat [V.ref t]).flatten)) := same_upd hv34
    have k36 : (upd H35 v34 (.lst (List.replicate (4 : Int).toNat [V.ref t]).flatten)) v34 = some (.lst ((List.replicate 4 t).map V.ref)) := upd_same
    generalize upd H35 v34 (.lst (List.replicate (4 : Int).toNat [V.ref t]).flatten) = H36 at m36 k36 ⊢
    have m3 := m35.trans m36
    refine ne_due (zs := zs) (rs := rs) (n := 4) (m3 _ _ hd) (fun y hy => .inl (.inl (m3 _ _ (hpp y hy)))) hps k36 (fun y hy => ?_) rfl ⟨false, rfl, iteF ?_⟩
    · rw [(List.mem_replicate.mp hy).2]
      exact sqT_same m3 k33
    have S36 := S33.s m3
    have hp36 := hp33.same m3
    clear S33 hp33 k33 m3 m35 m36 k36 hd hpp hps hv34 hu34
    -- valid?
    refine ⟨v4, rfl, rfl, _, rfl, ?_⟩
    rw [hv4]
    by_cases e : bad zs rs = none
    case neg =>
      rw [decide_eq_false e]
      exact iteF ⟨⟨_, _, _, _, _, _, _, _, _, _, _, _, _, _, _, _, _, rfl⟩, S36⟩
    rw [decide_eq_true e]
    refine iteT ?_
    have gd := good_of e
    -- the rows
    refine ⟨1, 121, rfl, ⟨by decide, by decide, by decide, by decide⟩, fun D hD => ?_⟩
    refine lc_range (lo := 1) (n := ((121 : Int) - 1).toNat) (fun i H' => Same H36 H' ∧ ∃ fs : List Addr, H' D = some (.lst (fs.map V.ref)) ∧ (∀ f ∈ fs, f ≠ D) ∧ LLs H' fs ((rowsN rs i).map pvs))
      ⟨same_upd hD, [], upd_same, fun f hf => (List.not_mem_nil hf).elim, .nil⟩ (fun i H' hi ⟨m, fs, kD, nD, ll⟩ => ?_) (fun H' ⟨m, fs, kD, nD, ll⟩ => ?_)
    · refine ⟨rfl, yes_go ⟨.ref p, rfl, .int (1 + (i : Nat)), rfl, ?_⟩⟩
      show qMeet _ _ _ _ _
      refine go_meet (hp36.same m) gd fun H5 f5 m5 n5 tl5 => ⟨_, m5 _ _ kD, ?_, ?_⟩
      · rw [List.length_map, lls_len ll, List.length_map, rowsN_len]
        exact small1000 (by have : ((121 : Int) - 1).toNat = 120 := rfl; omega)
      · have f5D : f5 ≠ D := fun z => by rw [z, kD] at n5; cases n5
        have kD5 := m5 _ _ kD
        refine ⟨same_of (m.trans m5) hD, fs ++ [f5], by rw [upd_same, List.map_append]; rfl, fun f hf => ?_, ?_⟩
        · rcases List.mem_append.mp hf with hf | hf
          · exact nD f hf
          · rw [List.mem_singleton.mp hf]
            exact f5D
        · rw [rowsN_succ, List.map_append]
          refine lls_app (lls_upd kD5 nD (lls_same m5 ll)) (.cons ?_ .nil)
          rw [show (1 : Int) + (i : Nat) - 1 = (i : Nat) by omega, meets_pvs] at tl5
          exact tl5.upd kD5 f5D
    have e120 : ((121 : Int) - 1).toNat = 120 := rfl
    rw [e120] at ll
    have S37 := S36.s m
    have hp37 := hp36.same m
    clear S36 hp36 m hD
    have lcb := lc_le gd.r2
    have fsl : fs.length = 120 := by rw [lls_len ll, List.length_map, rowsN_len]
    -- the length
    refine while_by (fun σ H2 => ∃ k : Nat, 1 ≤ k ∧ k ≤ lc rs ∧ σ = [x0, some (.ref h), some (.int (0 + (i : Nat))), some (.ref p), some v4, some (.int (n6 - 100)), some (.ref t), some (.ref W), some (.ref D), some (.int (k : Nat)), x10, x11, x12, x13, x14, x15, x16, x17] ∧ Same H' H2)
      (fun (σ : L2.St) H2 => match σ[9]? with | some (some (V.int z)) => lc rs + 1 - z.toNat | _ => 0)
      ⟨1, Nat.le_refl _, lcb.1, rfl, fun _ _ h => h⟩ (fun σ H2 ⟨k, k1, k2, es, m2⟩ => ?_) mo_mono
    subst es
    refine mo_go ?_
    have kD2 := m2 _ _ kD
    refine ⟨.ref D, rfl, .int (k : Nat), rfl, k, rfl, D, _, rfl, .inl (.inl kD2), fun q1 hq1 => ⟨.ref D, rfl, .int (k : Nat), rfl, k, rfl, D, _, rfl, .inl (.inl (same_upd hq1 _ _ kD2)), fun q2 hq2 => ?_⟩⟩
    rw [cut_from, cut_to]
    have s1 := same_upd (o := .lst ((fs.map V.ref).drop k)) hq1
    have j1 : (upd H2 q1 (.lst ((fs.map V.ref).drop k))) q1 = some (.lst ((fs.map V.ref).drop k)) := upd_same
    rw [cut_from] at hq2
    generalize upd H2 q1 (.lst ((fs.map V.ref).drop k)) = H3 at s1 j1 hq2 ⊢
    have s2 := same_upd (o := .lst ((fs.map V.ref).take k)) hq2
    have j2 : (upd H3 q2 (.lst ((fs.map V.ref).take k))) q2 = some (.lst ((fs.map V.ref).take k)) := upd_same
    generalize upd H3 q2 (.lst ((fs.map V.ref).take k)) = H4 at s2 j2 ⊢
    refine ⟨q1, q2, _, _, rfl, rfl, s2 _ _ j1, j2, ?_, fun q3 hq3 => ⟨.ref D, rfl, ?_⟩⟩
    · rw [List.length_drop, List.length_take, List.length_map, fsl]
      exact sz1000 (by omega)
    have s3 := same_upd (o := .lst ((fs.map V.ref).drop k ++ (fs.map V.ref).take k)) hq3
    have j3 : (upd H4 q3 (.lst ((fs.map V.ref).drop k ++ (fs.map V.ref).take k))) q3 = some (.lst ((fs.map V.ref).drop k ++ (fs.map V.ref).take k)) := upd_same
    rw [← List.map_drop, ← List.map_take, ← List.map_append] at s3 j3
    rw [← List.map_drop, ← List.map_take, ← List.map_append]
    generalize upd H4 q3 (.lst ((fs.drop k ++ fs.take k).map V.ref)) = H5 at s3 j3 ⊢
    have m5 : Same H2 H5 := (s1.trans s2).trans s3
    have ll5 := lls_same (m2.trans m5) ll
    have e5 : (rot (rowsN rs 120) k).map pvs = ((rowsN rs 120).map pvs).drop k ++ ((rowsN rs 120).map pvs).take k := by
      unfold rot
      rw [List.map_append, List.map_drop, List.map_take]
    refine neRw_go (a := rot (rowsN rs 120) k) (b := rowsN rs 120) j3 (by rw [e5]; exact lls_app (lls_drop k ll5) (lls_take k ll5)) (m5 _ _ kD2) ll5 ⟨_, rfl, ?_⟩
    have rr := rows_rot gd.r2 (L := k) (by omega)
    by_cases hk : rot (rowsN rs 120) k = rowsN rs 120
    case neg =>
      rw [decide_eq_false hk]
      have hlt : k < lc rs := by
        by_cases z : k = lc rs
        · rw [z] at hk rr
          exact absurd (rr.mpr (Nat.dvd_refl _)) hk
        · omega
      refine iteT ⟨.int (k : Nat), rfl, k, 1, rfl, rfl, ⟨k + 1, by omega, by omega, rfl, m2.trans m5⟩, ?_⟩
      show lc rs + 1 - ((k : Int) + 1).toNat < lc rs + 1 - (k : Int).toNat
      omega
    rw [decide_eq_true hk]
    refine iteF ?_
    have ek : k = lc rs := by
      have := Nat.le_of_dvd (by omega) (rr.mp hk)
      omega
    have m6 := m2.trans m5
    have S6 := S37.s m6
    have hp6 := hp37.same m6
    clear ll5 e5 s1 s2 s3 j1 j2 j3 hq1 hq2 hq3 kD2 m2 m5 S37 hp37 kD ll nD fsl
    -- the pattern and the visits
    refine ⟨.ref p, rfl, ?_⟩
    show qPattern _ _ _ _ _ _
    refine go_pattern hp6 s4 e fun H7 m7 => ⟨.int (k : Nat), rfl, rfl, _, rfl, ?_⟩
    rw [decide_eq_true (by rw [ek])]
    refine iteF ⟨.ref p, rfl, .int (n6 - 100), rfl, ?_⟩
    show qVisits _ _ _ _ _ _
    refine go_visits (hp6.same m7) s4 e fun H8 f8 m8 n8 tl8 => ⟨.ref p, rfl, .int (n6 - 100), rfl, ?_⟩
    show qMeet _ _ _ _ _
    refine go_meet ((hp6.same m7).same m8) gd fun H9 f9 m9 n9 tl9 => ?_
    show qAlike _ _ _ _ _
    rw [meets_pvs] at tl8 tl9
    refine go_alike (dp_tl (tl8.same m9)) (dp_tl tl9) ?_ fun Ha ma => ⟨true, rfl, iteF ?_⟩
    · unfold dM
      rw [okD, Bool.and_eq_true]
      refine ⟨decide_eq_true ?_, okD_pv⟩
      rw [List.length_map]
      have := meetN_len rs (n6 - 100 - 1) rs.length
      have e2 := congrArg List.length (prs_meet rs (n6 - 100 - 1) rs.length)
      rw [List.length_map] at e2
      have := gd.r1
      omega
    have m10 := ((m7.trans m8).trans m9).trans ma
    have S10 := S6.s m10
    have hp10 := hp6.same m10
    clear m10 m7 m8 m9 ma S6 hp6 tl8 tl9 n8 n9 rr hk m6
    -- the places
    obtain ⟨aa, bb, hpq, haa, hbb⟩ := hp10.ex
    obtain ⟨qs, hA, hP⟩ := hbb.ex
    have hql := paired_len hP
    have ei : ∀ i : Nat, (0 : Int) + (i : Nat) = (i : Nat) := fun i => by omega
    have b62 : (1000 : Int) < 2 ^ 62 := by decide
    refine ⟨.ref p, rfl, p, _, 1, .ref bb, rfl, rfl, hpq, rfl, bb, _, rfl, .inr hA, _, rfl, by omega, by rw [List.length_map, hql]; have := gd.r1; omega, fun D2 hD2 => ?_⟩
    rw [List.length_map, hql]
    refine lc_range (lo := 0) (n := ((rs.length : Nat) : Int).toNat) (fun i H' => Same Ha H' ∧ TL H' D2 (carV i)) ⟨same_upd hD2, [], upd_same, .nil⟩ (fun j H' hj ⟨sm, tl⟩ => ?_) (fun Hb ⟨sm, tl⟩ => ?_)
    · rw [Int.toNat_natCast] at hj
      rw [ei]
      obtain ⟨ps, hff, htv⟩ := tl.ex
      refine ⟨rfl, yes_go ⟨.int (j : Nat), rfl, (by show 2 ≤ sizeLine; decide), fun t ht => ⟨ps.map V.ref, ?_, ?_, same_of (same_of sm (Same.free sm ht)) hD2, ?_⟩⟩⟩
      · rw [upd_ne (ne_of_none hff ht)]
        exact hff
      · rw [tl.len hff, carV_len]
        exact small1000 (by have := gd.r1; omega)
      · rw [carV_succ]
        exact (tl.same (same_upd ht)).push (by rw [upd_ne (ne_of_none hff ht)]; exact hff) upd_same
    rw [Int.toNat_natCast] at tl
    clear hD2
    refine ⟨.ref p, rfl, p, _, 0, .ref aa, rfl, rfl, sqT_same sm hpq, rfl, aa, _, rfl, .inr (sqT_same sm haa), _, rfl, by omega, by rw [List.length_map]; have := gd.z1; omega, ?_⟩
    rw [List.length_map]
    refine for_range (lo := 0) (n := ((zs.length : Nat) : Int).toNat) (fun j σ H' => (∃ (y10 : Addr) (y11 : Option V), σ = [x0, some (.ref h), some (.int (0 + (i : Nat))), some (.ref p), some v4, some (.int (n6 - 100)), some (.ref t), some (.ref W), some (.ref D), some (.int (k : Nat)), some (.ref y10), y11, x12, x13, x14, x15, x16, x17] ∧ TL H' y10 (carV rs.length ++ shN zs j)) ∧ Same Ha H')
      ⟨⟨D2, x11, rfl, by rw [show shN zs 0 = [] from rfl, List.append_nil]; exact tl⟩, sm⟩ (fun j σ H' hj ⟨⟨y10, y11, es, tl2⟩, sm2⟩ => ?_) (fun σ Hc ⟨⟨y10, y11, es, tl2⟩, sm2⟩ => ?_)
    · subst es
      rw [Int.toNat_natCast] at hj
      rw [ei]
      obtain ⟨z, hz1⟩ : ∃ z, zs[j]? = some z := ⟨zs[j], List.getElem?_eq_getElem hj⟩
      have hz := gd.z2 z (List.mem_of_getElem? hz1)
      have zd : zs.getD j 0 = z := by rw [List.getD_eq_getElem?_getD, hz1]; rfl
      refine ⟨.ref y10, rfl, .ref p, rfl, p, _, 0, .ref aa, rfl, rfl, sqT_same sm2 hpq, rfl, .int (j : Nat), rfl, aa, _, (j : Nat), .int z, rfl, rfl, sqT_same sm2 haa, atI_nat (by rw [List.getElem?_map, hz1]; rfl), z, rfl, by omega, by omega, fun D3 hD3 => ?_⟩
      refine lc_range (lo := 0) (n := z.toNat) (fun u H3 => Same H' H3 ∧ TL H3 D3 (posV j u)) ⟨same_upd hD3, [], upd_same, .nil⟩ (fun u H3 hu ⟨sm4, tl4⟩ => ?_) (fun H3 ⟨sm4, tl4⟩ => ?_)
      · rw [ei]
        obtain ⟨ps2, hdd, htv2⟩ := tl4.ex
        refine ⟨rfl, yes_go ⟨.int (j : Nat), rfl, .int (u : Nat), rfl, (by show 3 ≤ sizeLine; decide), fun t ht => ⟨ps2.map V.ref, ?_, ?_, same_of (same_of sm4 (Same.free sm4 ht)) hD3, ?_⟩⟩⟩
        · rw [upd_ne (ne_of_none hdd ht)]
          exact hdd
        · rw [tl4.len hdd, posV_len]
          exact small1000 (by omega)
        · rw [posV_succ]
          exact (tl4.same (same_upd ht)).push (by rw [upd_ne (ne_of_none hdd ht)]; exact hdd) upd_same
      · have tl3 := tl2.same sm4
        obtain ⟨ps2, hdd, htv2⟩ := tl4.ex
        obtain ⟨ps3, hee, htv3⟩ := tl3.ex
        refine ⟨y10, D3, _, _, rfl, rfl, hee, hdd, ?_, fun p3 hp3 => ⟨⟨p3, _, rfl, ?_⟩, same_of (sm2.trans sm4) (Same.free (sm2.trans sm4) hp3)⟩⟩
        · rw [tl3.len hee, tl4.len hdd, List.length_append, carV_len, posV_len]
          have := shN_len gd.z2 j (by omega)
          have := gd.z1
          have := gd.r1
          exact sz1000 (by omega)
        · have := tl3.cat tl4 hee hdd hp3
          rw [show shN zs (j + 1) = shN zs j ++ posV j (zs.getD j 0).toNat from rfl, zd, ← List.append_assoc]
          exact this
    subst es
    rw [Int.toNat_natCast] at tl2
    have hp11 := hp10.same sm2
    refine ⟨.ref p, rfl, ?_⟩
    show qPlaces _ _ _ _ _ _
    refine go_places hp11 s4 e fun Hd f8 m8 n8 tl8 => ⟨.ref y10, rfl, ?_⟩
    show qAlike _ _ _ _ _
    have tl9 : TL Hd y10 (placesV zs rs.length) := tl2.same m8
    have pl := places_len zs rs.length
    have psm := places_small zs rs.length
    have sN := sumN_le gd.z2
    have z1 := gd.z1
    have r1 := gd.r1
    refine go_alike (dp_tlS tl8 fun t ht => (psm t ht).1) (dp_tlS tl9 fun t ht => (psm t ht).1) ?_ fun He m9 => ⟨true, rfl, iteF ?_⟩
    · rw [okD, Bool.and_eq_true]
      refine ⟨decide_eq_true ?_, okD_sim fun t ht => (psm t ht).2⟩
      rw [List.length_map, pl]
      omega
    have tlE := tl9.same m9
    have mE := (sm2.trans m8).trans m9
    have hpE := hp10.same mE
    clear tl8 tl9 tl2 tl sm2 m8 m9 n8 hp11 sm
    -- the first state
    refine ⟨.ref p, rfl, ?_⟩
    show qInitial _ _ _ _ _ _
    refine go_initial hpE s4 e fun Hf ts ca sh mF kts lay => ?_
    obtain ⟨us, lsh, lsg⟩ := lay.s
    have lca := lay.c
    have tlF := tlE.same mF
    have haF := sqT_same (mE.trans mF) haa
    have hpF := sqT_same (mE.trans mF) hpq
    have sgl := segs_len (parc (rs.length + sumN zs)) rs.length zs
    have usl : us.length = zs.length := by rw [segV_len lsg, sgl]
    refine ⟨.ref ts, rfl, ts, _, 1, .ref ca, rfl, rfl, .inl (.inl kts), rfl, ca, _, rfl, .inr (.inl (.inl lca)), fun Lp hLp => ?_⟩
    have mG := same_upd (o := .lst (((parc (rs.length + sumN zs)).take rs.length).map V.int)) hLp
    have kG : (upd Hf Lp (.lst (((parc (rs.length + sumN zs)).take rs.length).map V.int))) Lp = some (.lst (((parc (rs.length + sumN zs)).take rs.length).map V.int)) := upd_same
    generalize upd Hf Lp (.lst (((parc (rs.length + sumN zs)).take rs.length).map V.int)) = Hg at mG kG ⊢
    refine ⟨.ref ts, rfl, ts, _, 2, .ref sh, rfl, rfl, .inl (.inl (mG _ _ kts)), rfl, sh, rfl, ⟨_, .inl (.inl (mG _ _ lsh))⟩, ?_⟩
    refine for_tup (xs := us.map V.ref) (fun j σ H' => (∃ (y13 : Addr) (y11 : Option V), σ = [x0, some (.ref h), some (.int (0 + (i : Nat))), some (.ref p), some v4, some (.int (n6 - 100)), some (.ref t), some (.ref W), some (.ref D), some (.int (k : Nat)), some (.ref y10), y11, some (.ref ts), some (.ref y13), x14, x15, x16, x17] ∧
        H' y13 = some (.lst (((parc (rs.length + sumN zs)).take rs.length ++ ((segs (parc (rs.length + sumN zs)) rs.length zs).take j).flatten).map V.int))) ∧ Same Hf H')
      ⟨⟨Lp, _, rfl, by rw [List.take_zero]; show _ = some (HO.lst ((_ ++ []).map V.int)); rw [List.append_nil]; exact kG⟩, mG⟩ (fun j σ H' _ h => .inl (.inl (h.2 _ _ lsh))) (fun j x σ H' hx ⟨⟨y13, y11', es, k13⟩, m13⟩ => ?_) (fun σ Hh ⟨⟨y13, y11', es, k13⟩, m13⟩ => ?_)
    · subst es
      obtain ⟨qa, hqa, rfl⟩ := refs_lt hx
      obtain ⟨sg, hs1, hs2⟩ := segV_at lsg hqa
      refine ⟨.ref y13, rfl, .ref qa, rfl, qa, _, rfl, .inr (.inl (.inl (m13 _ _ hs2))), fun l hl => ?_⟩
      have ml := same_upd (o := .lst (sg.map V.int)) hl
      have k2 := ml _ _ k13
      have fl : ((parc (rs.length + sumN zs)).take rs.length ++ ((segs (parc (rs.length + sumN zs)) rs.length zs).take (j + 1)).flatten).map V.int = ((parc (rs.length + sumN zs)).take rs.length ++ ((segs (parc (rs.length + sumN zs)) rs.length zs).take j).flatten).map V.int ++ sg.map V.int := by
        rw [← List.map_append, List.append_assoc]
        congr 2
        rw [List.take_add_one, hs1, List.flatten_append]
        simp
      refine ⟨y13, l, _, _, rfl, rfl, k2, upd_same, ?_, fun p3 hp3 => ⟨⟨p3, _, rfl, ?_⟩, same_of (m13.trans ml) (Same.free (m13.trans ml) hp3)⟩⟩
      · rw [← List.length_append, ← fl, List.length_map]
        have e1 : ((parc (rs.length + sumN zs)).take rs.length ++ ((segs (parc (rs.length + sumN zs)) rs.length zs).take (j + 1)).flatten).length ≤ rs.length + sumN zs := by
          have e3 := parc_all (n := rs.length) (zs := zs)
          have e4 : (segs (parc (rs.length + sumN zs)) rs.length zs).flatten = ((segs (parc (rs.length + sumN zs)) rs.length zs).take (j + 1)).flatten ++ ((segs (parc (rs.length + sumN zs)) rs.length zs).drop (j + 1)).flatten := by
            rw [← List.flatten_append, List.take_append_drop]
          rw [e4] at e3
          have e5 := congrArg List.length e3
          rw [parc_len, List.length_append, List.length_append] at e5
          rw [List.length_append]
          omega
        exact sz1000 (by omega)
      · rw [fl]
        exact upd_same
    subst es
    rw [List.length_map, usl, ← sgl, List.take_length, parc_all] at k13
    have kts2 := m13 _ _ kts
    have lsh2 := m13 _ _ lsh
    -- the sizes
    refine ⟨.ref ts, rfl, ts, _, 2, .ref sh, rfl, rfl, .inl (.inl kts2), rfl, sh, rfl, ⟨_, .inl (.inl lsh2)⟩, fun D4 hD4 => ?_⟩
    refine lc_tup (xs := us.map V.ref) (fun j H' => Same Hh H' ∧ H' D4 = some (.lst ((((segs (parc (rs.length + sumN zs)) rs.length zs).map (fun s => (s.length : Int))).take j).map V.int))) ⟨same_upd hD4, upd_same⟩ (fun j H' _ h => .inl (.inl (h.1 _ _ lsh2))) (fun j x H' hx ⟨m4, k4⟩ => ?_) (fun Hi ⟨m4, k4⟩ => ?_)
    · obtain ⟨qa, hqa, rfl⟩ := refs_lt hx
      obtain ⟨sg, hs1, hs2⟩ := segV_at lsg hqa
      have jl : j < zs.length := by have := (List.getElem?_eq_some_iff.mp hqa).1; omega
      refine ⟨rfl, yes_go ⟨.ref qa, rfl, qa, _, rfl, .inr (.inl (.inl ((m13.trans m4) _ _ hs2))), _, k4, ?_, same_of m4 hD4, ?_⟩⟩
      · rw [List.length_map, List.length_take, List.length_map, sgl]
        exact small1000 (by omega)
      · rw [upd_same, List.take_add_one, List.getElem?_map, hs1, List.map_append, List.length_map]
        rfl
    have k4' : Hi D4 = some (.lst (zs.map V.int)) := by
      rw [k4, List.length_map, usl, List.take_of_length_le (by rw [List.length_map, sgl]; exact Nat.le_refl _), seg_sizes gd.z2]
    have mI := m13.trans m4
    refine ⟨.ref ts, rfl, ts, _, 0, .int 0, rfl, rfl, .inl (.inl (mI _ _ kts)), rfl, rfl, false, rfl, iteF ?_⟩
    refine ⟨.ref D4, rfl, .ref p, rfl, p, _, 0, .ref aa, rfl, rfl, sqT_same mI hpF, rfl, aa, _, rfl, .inr (sqT_same mI haF), fun l1 hl1 => ?_⟩
    have mJ := same_upd (o := .lst (zs.map V.int)) hl1
    refine neI_go (a := zs) (b := zs) (.inl (.inl (mJ _ _ k4'))) (.inl (.inl upd_same)) ⟨_, rfl, ?_⟩
    rw [decide_eq_true rfl]
    refine iteF ?_
    generalize upd Hi l1 (.lst (zs.map V.int)) = Hj at mJ ⊢
    have tlJ := tlF.same (mI.trans mJ)
    obtain ⟨ps9, k9, tv9⟩ := tlJ.ex
    have len9 : (ps9.map V.ref).length = rs.length + sumN zs := by rw [List.length_map, tupsV_len tv9, pl]
    have kp := mJ _ _ (m4 _ _ k13)
    refine ⟨.ref y13, rfl, .ref y10, rfl, y10, _, rfl, .inl (.inl (.inl k9)), _, 1, rfl, rfl, 1, _, rfl, rfl, ?_⟩
    rw [len9]
    refine ⟨RgOk.of_le (by omega) (by omega) (by omega) (by omega), fun l2 hl2 => ?_⟩
    rw [rgV_parc]
    have mK := same_upd (o := .lst ((parc (rs.length + sumN zs)).map V.int)) hl2
    refine neI_go (a := parc (rs.length + sumN zs)) (b := parc (rs.length + sumN zs)) (.inl (.inl (mK _ _ kp))) (.inl (.inl upd_same)) ⟨_, rfl, ?_⟩
    rw [decide_eq_true rfl]
    refine iteF ⟨⟨_, _, _, _, _, _, _, _, _, _, _, _, _, _, _, _, _, rfl⟩, S10.s (((mE.trans mF).trans mI).trans (mJ.trans mK))⟩
end
end Sv


set_option maxHeartbeats 8000000
namespace Sv
open PySem PySem.Spec PyProof.Rows L2 LamX NdefX
/-! ### the end -/
theorem walk_ofTsX {l : PySem.W.OpenLaw} {n k : Nat} {q : Program} {loose : List Str} {XP : (Str → Option Value) → Heap → Prop} {YP : World → Heap → Prop} {d : DefRec} {K : Params → PySem.W.Frag} {CX : World → CXT} {x : Str}
    (hn : l.most = some n) (hn2 : n ≤ sizeLine) (hdf : d.params.defaults = []) (hr : Room k callerA) (hY : ∀ (w : World) (h : Heap), YP w h → (K w.params).In h)
    (F : ∀ (w : World) (mg : Str → Option Value) (fa : Addr) (h : Heap), XP mg h → YP w h → (K w.params).In h → h.Ns mainGlobals mg → mg d.name = some (.ref fa) → LawAtS l w (K w.params) (CX w) k n x mg fa h)
    (hCX : ∀ (w : World) (H : Hp) (s : Shared) (e : Value) (s' : Shared), CX w [] H s (fun _ _ _ => False) e s' → False) :
    PySem.W.WalkO q loose XP YP l.row.toRowW d [] (fun f vs => PySem.call f vs) := by
  refine Att.attach_callB hn hdf fun w s₀ s₁ mg mb fa o pm cd doc a vs ns G Y ho hd hcd hmg hobj hints hlen hbits hg => ?_
  have KX := hY w _ Y
  obtain ⟨fd, cs, sp, hT, nT, C, hb, hsp, hF⟩ := F w mg fa _ G.X Y KX G.T.g hmg
  exact law_callTs KX G.T.g G.T.b G.T.builtins G.T.nolimit hg hT nT C G.T.bmain hobj hints (Nat.le_trans hlen hn2) hr hF hb (fun H hH hS => hsp H a ns hlen hbits hH hS) fun H e s' => hCX w H s₁ e s'
theorem be_of {l : List V} {j : Nat} (h : (l.take j).all (fun z => !eqV z (.bl true)) = true) : ∀ (m : Nat) (z : V), m < j → l[m]? = some z → eqV z (.bl true) = false := fun m z hm hz => by
  have q := List.all_eq_true.mp h z (List.mem_of_getElem? (i := m) (by rw [List.getElem?_take, if_pos hm]; exact hz))
  simpa using q
section
variable {K : PySem.W.Frag} {h : Heap} {mg : Str → Option Value}
theorem df_mk {x : Str} {st : Stmt} {f : Addr} {oc : Value} {od an : Option Addr} {osl : Array (Option Value)} {kV doc pm cdv ct : Value} {ps : List Str} (X : K.In h) (G : h.Ns mainGlobals mg) (a : PySem.W.nsIn K mainGlobals x = some (some (.ref f)))
    (l : K.lookup f = some ⟨oc, od, .func (PySem.W.fnOf x x (defArgs st) (defBody st) (defScope st) .none kV doc pm an cdv ct), osl⟩) (c : PySem.W.codeIn K cdv x = true) (k : PySem.W.keepIn K (.ref f) = true)
    (b : ∀ (kV doc pm : Value) (an : Option Addr) (cdv ct : Value) (us : List Value), us.length = ps.length → bindArgs (PySem.W.fnOf x x (defArgs st) (defBody st) (defScope st) .none kV doc pm an cdv ct) ⟨us, []⟩ = pure (ps.zip us)) :
    Df K mg x st ps f (PySem.W.fnOf x x (defArgs st) (defBody st) (defScope st) .none kV doc pm an cdv ct) := ⟨fun_mk l c k, (fun_mk l c k).binds b, PySem.W.mg_of X G a⟩
/-- all that is asked of one of the classes that the law names -/
structure ErF (K : PySem.W.Frag) (CS C0 C1 C2 C3 C4 C5 C6 C7 C8 C9 C10 C11 C12 C13 C14 D : Addr) (b0 b1 b2 b3 b4 b5 b6 b7 b8 b9 b10 b11 b12 b13 b14 : Bool) : Prop where
  exc : ExcC K D
  ex : PySem.W.exmOne K (.ref D) (.ref CS) = some true
  ve : PySem.W.kitOne K (.ref D) (.type "ValueError") = some true
  k0 : PySem.W.kitOne K (.ref D) (.ref C0) = some b0
  k1 : PySem.W.kitOne K (.ref D) (.ref C1) = some b1
  k2 : PySem.W.kitOne K (.ref D) (.ref C2) = some b2
  k3 : PySem.W.kitOne K (.ref D) (.ref C3) = some b3
  k4 : PySem.W.kitOne K (.ref D) (.ref C4) = some b4
  k5 : PySem.W.kitOne K (.ref D) (.ref C5) = some b5
  k6 : PySem.W.kitOne K (.ref D) (.ref C6) = some b6
  k7 : PySem.W.kitOne K (.ref D) (.ref C7) = some b7
  k8 : PySem.W.kitOne K (.ref D) (.ref C8) = some b8
  k9 : PySem.W.kitOne K (.ref D) (.ref C9) = some b9
  k10 : PySem.W.kitOne K (.ref D) (.ref C10) = some b10
  k11 : PySem.W.kitOne K (.ref D) (.ref C11) = some b11
  k12 : PySem.W.kitOne K (.ref D) (.ref C12) = some b12
  k13 : PySem.W.kitOne K (.ref D) (.ref C13) = some b13
  k14 : PySem.W.kitOne K (.ref D) (.ref C14) = some b14
theorem era_plan {CS C0 C1 C2 C3 C4 C5 C6 C7 C8 C9 C10 C11 C12 C13 C14 : Addr} (F : ErF K CS C0 C1 C2 C3 C4 C5 C6 C7 C8 C9 C10 C11 C12 C13 C14 C0 true false false false false false false false false false false false false false false) : ErA K CS C0 C1 C2 C3 C4 C5 C6 C7 C8 C9 C10 C11 C12 C13 C14 C0 "plan" :=
  ⟨_, _, _, _, _, _, _, _, _, _, _, _, _, _, _, 0, ⟨F.exc, F.ex, F.ve, F.k0, F.k1, F.k2, F.k3, F.k4, F.k5, F.k6, F.k7, F.k8, F.k9, F.k10, F.k11, F.k12, F.k13, F.k14, rfl, rfl, be_of rfl, rfl⟩⟩
theorem all_mk {P : Program} {w : World} {fa : Addr} {fW : Addr} {ocW kVW dcW pmW cdW ctW : Value} {odW anW : Option Addr} {slW : Array (Option Value)}
    {fS : Addr} {ocS kVS dcS pmS cdS ctS : Value} {odS anS : Option Addr} {slS : Array (Option Value)}
    {fR : Addr} {ocR kVR dcR pmR cdR ctR : Value} {odR anR : Option Addr} {slR : Array (Option Value)}
    {fT : Addr} {ocT kVT dcT pmT cdT ctT : Value} {odT anT : Option Addr} {slT : Array (Option Value)}
    {fP : Addr} {ocP kVP dcP pmP cdP ctP : Value} {odP anP : Option Addr} {slP : Array (Option Value)}
    {fgP : Addr} {ocgP kVgP dcgP pmgP cdgP ctgP : Value} {odgP angP : Option Addr} {slgP : Array (Option Value)}
    {fgV : Addr} {ocgV kVgV dcgV pmgV cdgV ctgV : Value} {odgV angV : Option Addr} {slgV : Array (Option Value)}
    {fgL : Addr} {ocgL kVgL dcgL pmgL cdgL ctgL : Value} {odgL angL : Option Addr} {slgL : Array (Option Value)}
    {fgO : Addr} {ocgO kVgO dcgO pmgO cdgO ctgO : Value} {odgO angO : Option Addr} {slgO : Array (Option Value)}
    {fgN : Addr} {ocgN kVgN dcgN pmgN cdgN ctgN : Value} {odgN angN : Option Addr} {slgN : Array (Option Value)}
    {fgI : Addr} {ocgI kVgI dcgI pmgI cdgI ctgI : Value} {odgI angI : Option Addr} {slgI : Array (Option Value)}
    {fgC : Addr} {ocgC kVgC dcgC pmgC cdgC ctgC : Value} {odgC angC : Option Addr} {slgC : Array (Option Value)}
    {fgR : Addr} {ocgR kVgR dcgR pmgR cdgR ctgR : Value} {odgR angR : Option Addr} {slgR : Array (Option Value)}
    {fgS : Addr} {ocgS kVgS dcgS pmgS cdgS ctgS : Value} {odgS angS : Option Addr} {slgS : Array (Option Value)}
    {fgT : Addr} {ocgT kVgT dcgT pmgT cdgT ctgT : Value} {odgT angT : Option Addr} {slgT : Array (Option Value)}
    {fwM : Addr} {ocwM kVwM dcwM pmwM cdwM ctwM : Value} {odwM anwM : Option Addr} {slwM : Array (Option Value)}
    {fwN : Addr} {ocwN kVwN dcwN pmwN cdwN ctwN : Value} {odwN anwN : Option Addr} {slwN : Array (Option Value)}
    {fwA : Addr} {ocwA kVwA dcwA pmwA cdwA ctwA : Value} {odwA anwA : Option Addr} {slwA : Array (Option Value)}
    {fwX : Addr} {ocwX kVwX dcwX pmwX cdwX ctwX : Value} {odwX anwX : Option Addr} {slwX : Array (Option Value)}
    {fwP : Addr} {ocwP kVwP dcwP pmwP cdwP ctwP : Value} {odwP anwP : Option Addr} {slwP : Array (Option Value)}
    {fwB : Addr} {ocwB kVwB dcwB pmwB cdwB ctwB : Value} {odwB anwB : Option Addr} {slwB : Array (Option Value)}
    {fwS : Addr} {ocwS kVwS dcwS pmwS cdwS ctwS : Value} {odwS anwS : Option Addr} {slwS : Array (Option Value)}
    {fwE : Addr} {ocwE kVwE dcwE pmwE cdwE ctwE : Value} {odwE anwE : Option Addr} {slwE : Array (Option Value)}
    {fL : Addr} {ocL kVL dcL pmL cdL ctL : Value} {odL anL : Option Addr} {slL : Array (Option Value)}
    {tm0 : Tok}
    {tm1 : Tok}
    {tm2 : Tok}
    {tm3 : Tok}
    {CS C0 C1 C2 C3 C4 C5 C6 C7 C8 C9 C10 C11 C12 C13 C14 : Addr}
    {pnm pq : Str} {pN : Addr} {pbs pbm : List Value} {psn : List Str} {psub : List Value} {pab : Bool} {pcol : Option Bool} {pdd : Option Addr} {pk0 pk1 pk2 pk3 pk5 : Option Value}
    {fI cc c0 : Addr} {ocI docI pmI ctI : Value} {odI : Option Addr} {slI : Array (Option Value)}
    {ccl : Value} {ccd : Option Addr} {ccs : Array (Option Value)}
    {kcl : Value} {kcd : Option Addr} {kvs : Array Value} {kcs : Array (Option Value)} {kfl : Str} {ktf : Tok}
    {c Pt : Addr} (X : K.In h) (G : h.Ns mainGlobals mg) (hfa : mg "law" = some (.ref fa)) (hPt : h.get? Pt = some { cls := .none, data := .fields #[] })
    (aW : PySem.W.nsIn K mainGlobals "is_within" = some (some (.ref fW)))
    (lW : K.lookup fW = some ⟨ocW, odW, .func (PySem.W.fnOf "is_within" "is_within" (defArgs sWithin) (defBody sWithin) (defScope sWithin) .none kVW dcW pmW anW cdW ctW), slW⟩)
    (cW : PySem.W.codeIn K cdW "is_within" = true)
    (kW : PySem.W.keepIn K (.ref fW) = true)
    (aS : PySem.W.nsIn K mainGlobals "check_sizes" = some (some (.ref fS)))
    (lS : K.lookup fS = some ⟨ocS, odS, .func (PySem.W.fnOf "check_sizes" "check_sizes" (defArgs sCheckSizes) (defBody sCheckSizes) (defScope sCheckSizes) .none kVS dcS pmS anS cdS ctS), slS⟩)
    (cS : PySem.W.codeIn K cdS "check_sizes" = true)
    (kS : PySem.W.keepIn K (.ref fS) = true)
    (aR : PySem.W.nsIn K mainGlobals "check_routes" = some (some (.ref fR)))
    (lR : K.lookup fR = some ⟨ocR, odR, .func (PySem.W.fnOf "check_routes" "check_routes" (defArgs sCheckRoutes) (defBody sCheckRoutes) (defScope sCheckRoutes) .none kVR dcR pmR anR cdR ctR), slR⟩)
    (cR : PySem.W.codeIn K cdR "check_routes" = true)
    (kR : PySem.W.keepIn K (.ref fR) = true)
    (aT : PySem.W.nsIn K mainGlobals "is_route" = some (some (.ref fT)))
    (lT : K.lookup fT = some ⟨ocT, odT, .func (PySem.W.fnOf "is_route" "is_route" (defArgs sIsRoute) (defBody sIsRoute) (defScope sIsRoute) .none kVT dcT pmT anT cdT ctT), slT⟩)
    (cT : PySem.W.codeIn K cdT "is_route" = true)
    (kT : PySem.W.keepIn K (.ref fT) = true)
    (aP : PySem.W.nsIn K mainGlobals "check_plan" = some (some (.ref fP)))
    (lP : K.lookup fP = some ⟨ocP, odP, .func (PySem.W.fnOf "check_plan" "check_plan" (defArgs sCheckPlan) (defBody sCheckPlan) (defScope sCheckPlan) .none kVP dcP pmP anP cdP ctP), slP⟩)
    (cP : PySem.W.codeIn K cdP "check_plan" = true)
    (kP : PySem.W.keepIn K (.ref fP) = true)
    (agP : PySem.W.nsIn K mainGlobals "pattern_length" = some (some (.ref fgP)))
    (lgP : K.lookup fgP = some ⟨ocgP, odgP, .func (PySem.W.fnOf "pattern_length" "pattern_length" (defArgs sPattern) (defBody sPattern) (defScope sPattern) .none kVgP dcgP pmgP angP cdgP ctgP), slgP⟩)
    (cgP : PySem.W.codeIn K cdgP "pattern_length" = true)
    (kgP : PySem.W.keepIn K (.ref fgP) = true)
    (agV : PySem.W.nsIn K mainGlobals "visits" = some (some (.ref fgV)))
    (lgV : K.lookup fgV = some ⟨ocgV, odgV, .func (PySem.W.fnOf "visits" "visits" (defArgs sVisits) (defBody sVisits) (defScope sVisits) .none kVgV dcgV pmgV angV cdgV ctgV), slgV⟩)
    (cgV : PySem.W.codeIn K cdgV "visits" = true)
    (kgV : PySem.W.keepIn K (.ref fgV) = true)
    (agL : PySem.W.nsIn K mainGlobals "places" = some (some (.ref fgL)))
    (lgL : K.lookup fgL = some ⟨ocgL, odgL, .func (PySem.W.fnOf "places" "places" (defArgs sPlaces) (defBody sPlaces) (defScope sPlaces) .none kVgL dcgL pmgL angL cdgL ctgL), slgL⟩)
    (cgL : PySem.W.codeIn K cdgL "places" = true)
    (kgL : PySem.W.keepIn K (.ref fgL) = true)
    (agO : PySem.W.nsIn K mainGlobals "places_of" = some (some (.ref fgO)))
    (lgO : K.lookup fgO = some ⟨ocgO, odgO, .func (PySem.W.fnOf "places_of" "places_of" (defArgs sPlacesOf) (defBody sPlacesOf) (defScope sPlacesOf) .none kVgO dcgO pmgO angO cdgO ctgO), slgO⟩)
    (cgO : PySem.W.codeIn K cdgO "places_of" = true)
    (kgO : PySem.W.keepIn K (.ref fgO) = true)
    (agN : PySem.W.nsIn K mainGlobals "number_of_places" = some (some (.ref fgN)))
    (lgN : K.lookup fgN = some ⟨ocgN, odgN, .func (PySem.W.fnOf "number_of_places" "number_of_places" (defArgs sNumPlaces) (defBody sNumPlaces) (defScope sNumPlaces) .none kVgN dcgN pmgN angN cdgN ctgN), slgN⟩)
    (cgN : PySem.W.codeIn K cdgN "number_of_places" = true)
    (kgN : PySem.W.keepIn K (.ref fgN) = true)
    (agI : PySem.W.nsIn K mainGlobals "visits_in_tick" = some (some (.ref fgI)))
    (lgI : K.lookup fgI = some ⟨ocgI, odgI, .func (PySem.W.fnOf "visits_in_tick" "visits_in_tick" (defArgs sVisitsIn) (defBody sVisitsIn) (defScope sVisitsIn) .none kVgI dcgI pmgI angI cdgI ctgI), slgI⟩)
    (cgI : PySem.W.codeIn K cdgI "visits_in_tick" = true)
    (kgI : PySem.W.keepIn K (.ref fgI) = true)
    (agC : PySem.W.nsIn K mainGlobals "common_pattern" = some (some (.ref fgC)))
    (lgC : K.lookup fgC = some ⟨ocgC, odgC, .func (PySem.W.fnOf "common_pattern" "common_pattern" (defArgs sCommon) (defBody sCommon) (defScope sCommon) .none kVgC dcgC pmgC angC cdgC ctgC), slgC⟩)
    (cgC : PySem.W.codeIn K cdgC "common_pattern" = true)
    (kgC : PySem.W.keepIn K (.ref fgC) = true)
    (agR : PySem.W.nsIn K mainGlobals "route_pattern" = some (some (.ref fgR)))
    (lgR : K.lookup fgR = some ⟨ocgR, odgR, .func (PySem.W.fnOf "route_pattern" "route_pattern" (defArgs sRoutePat) (defBody sRoutePat) (defScope sRoutePat) .none kVgR dcgR pmgR angR cdgR ctgR), slgR⟩)
    (cgR : PySem.W.codeIn K cdgR "route_pattern" = true)
    (kgR : PySem.W.keepIn K (.ref fgR) = true)
    (agS : PySem.W.nsIn K mainGlobals "split_layout" = some (some (.ref fgS)))
    (lgS : K.lookup fgS = some ⟨ocgS, odgS, .func (PySem.W.fnOf "split_layout" "split_layout" (defArgs sSplit) (defBody sSplit) (defScope sSplit) .none kVgS dcgS pmgS angS cdgS ctgS), slgS⟩)
    (cgS : PySem.W.codeIn K cdgS "split_layout" = true)
    (kgS : PySem.W.keepIn K (.ref fgS) = true)
    (agT : PySem.W.nsIn K mainGlobals "initial_state" = some (some (.ref fgT)))
    (lgT : K.lookup fgT = some ⟨ocgT, odgT, .func (PySem.W.fnOf "initial_state" "initial_state" (defArgs sInitial) (defBody sInitial) (defScope sInitial) .none kVgT dcgT pmgT angT cdgT ctgT), slgT⟩)
    (cgT : PySem.W.codeIn K cdgT "initial_state" = true)
    (kgT : PySem.W.keepIn K (.ref fgT) = true)
    (awM : PySem.W.nsIn K mainGlobals "_law_mix" = some (some (.ref fwM)))
    (lwM : K.lookup fwM = some ⟨ocwM, odwM, .func (PySem.W.fnOf "_law_mix" "_law_mix" (defArgs sMix) (defBody sMix) (defScope sMix) .none kVwM dcwM pmwM anwM cdwM ctwM), slwM⟩)
    (cwM : PySem.W.codeIn K cdwM "_law_mix" = true)
    (kwM : PySem.W.keepIn K (.ref fwM) = true)
    (awN : PySem.W.nsIn K mainGlobals "_law_next" = some (some (.ref fwN)))
    (lwN : K.lookup fwN = some ⟨ocwN, odwN, .func (PySem.W.fnOf "_law_next" "_law_next" (defArgs sNext) (defBody sNext) (defScope sNext) .none kVwN dcwN pmwN anwN cdwN ctwN), slwN⟩)
    (cwN : PySem.W.codeIn K cdwN "_law_next" = true)
    (kwN : PySem.W.keepIn K (.ref fwN) = true)
    (awA : PySem.W.nsIn K mainGlobals "_law_alike" = some (some (.ref fwA)))
    (lwA : K.lookup fwA = some ⟨ocwA, odwA, .func (PySem.W.fnOf "_law_alike" "_law_alike" (defArgs sAlike) (defBody sAlike) (defScope sAlike) .none kVwA dcwA pmwA anwA cdwA ctwA), slwA⟩)
    (cwA : PySem.W.codeIn K cdwA "_law_alike" = true)
    (kwA : PySem.W.keepIn K (.ref fwA) = true)
    (awX : PySem.W.nsIn K mainGlobals "_law_error" = some (some (.ref fwX)))
    (lwX : K.lookup fwX = some ⟨ocwX, odwX, .func (PySem.W.fnOf "_law_error" "_law_error" (defArgs sError) (defBody sError) (defScope sError) .none kVwX dcwX pmwX anwX cdwX ctwX), slwX⟩)
    (cwX : PySem.W.codeIn K cdwX "_law_error" = true)
    (kwX : PySem.W.keepIn K (.ref fwX) = true)
    (awP : PySem.W.nsIn K mainGlobals "_law_plan" = some (some (.ref fwP)))
    (lwP : K.lookup fwP = some ⟨ocwP, odwP, .func (PySem.W.fnOf "_law_plan" "_law_plan" (defArgs sPlan) (defBody sPlan) (defScope sPlan) .none kVwP dcwP pmwP anwP cdwP ctwP), slwP⟩)
    (cwP : PySem.W.codeIn K cdwP "_law_plan" = true)
    (kwP : PySem.W.keepIn K (.ref fwP) = true)
    (awB : PySem.W.nsIn K mainGlobals "_law_first_bad" = some (some (.ref fwB)))
    (lwB : K.lookup fwB = some ⟨ocwB, odwB, .func (PySem.W.fnOf "_law_first_bad" "_law_first_bad" (defArgs sFirstBad) (defBody sFirstBad) (defScope sFirstBad) .none kVwB dcwB pmwB anwB cdwB ctwB), slwB⟩)
    (cwB : PySem.W.codeIn K cdwB "_law_first_bad" = true)
    (kwB : PySem.W.keepIn K (.ref fwB) = true)
    (awS : PySem.W.nsIn K mainGlobals "_law_spoilt" = some (some (.ref fwS)))
    (lwS : K.lookup fwS = some ⟨ocwS, odwS, .func (PySem.W.fnOf "_law_spoilt" "_law_spoilt" (defArgs sSpoilt) (defBody sSpoilt) (defScope sSpoilt) .none kVwS dcwS pmwS anwS cdwS ctwS), slwS⟩)
    (cwS : PySem.W.codeIn K cdwS "_law_spoilt" = true)
    (kwS : PySem.W.keepIn K (.ref fwS) = true)
    (awE : PySem.W.nsIn K mainGlobals "_law_meetings" = some (some (.ref fwE)))
    (lwE : K.lookup fwE = some ⟨ocwE, odwE, .func (PySem.W.fnOf "_law_meetings" "_law_meetings" (defArgs sMeetings) (defBody sMeetings) (defScope sMeetings) .none kVwE dcwE pmwE anwE cdwE ctwE), slwE⟩)
    (cwE : PySem.W.codeIn K cdwE "_law_meetings" = true)
    (kwE : PySem.W.keepIn K (.ref fwE) = true)
    (aL : PySem.W.nsIn K mainGlobals "law" = some (some (.ref fL)))
    (lL : K.lookup fL = some ⟨ocL, odL, .func (PySem.W.fnOf "law" "law" (defArgs sLaw) (defBody sLaw) (defScope sLaw) .none kVL dcL pmL anL cdL ctL), slL⟩)
    (cL : PySem.W.codeIn K cdL "law" = true)
    (kL : PySem.W.keepIn K (.ref fL) = true)
    (n_isinstance : PySem.W.nsIn K mainGlobals "isinstance" = some none)
    (n_bool : PySem.W.nsIn K mainGlobals "bool" = some none)
    (n_int : PySem.W.nsIn K mainGlobals "int" = some none)
    (n_str : PySem.W.nsIn K mainGlobals "str" = some none)
    (n_list : PySem.W.nsIn K mainGlobals "list" = some none)
    (n_tuple : PySem.W.nsIn K mainGlobals "tuple" = some none)
    (n_dict : PySem.W.nsIn K mainGlobals "dict" = some none)
    (n_len : PySem.W.nsIn K mainGlobals "len" = some none)
    (n_range : PySem.W.nsIn K mainGlobals "range" = some none)
    (n_enumerate : PySem.W.nsIn K mainGlobals "enumerate" = some none)
    (n_max : PySem.W.nsIn K mainGlobals "max" = some none)
    (n_sum : PySem.W.nsIn K mainGlobals "sum" = some none)
    (n_ValueError : PySem.W.nsIn K mainGlobals "ValueError" = some none)
    (n_super : PySem.W.nsIn K mainGlobals "super" = some none)
    (n_lcm : PySem.W.nsIn K mainGlobals "lcm" = some (some (.builtin "math.lcm")))
    (m0 : PySem.W.nsIn K mainGlobals "MOST_SHELVES" = some (some (.int 12 tm0)))
    (m1 : PySem.W.nsIn K mainGlobals "MOST_ON_SHELF" = some (some (.int 9 tm1)))
    (m2 : PySem.W.nsIn K mainGlobals "MOST_CARRIERS" = some (some (.int 6 tm2)))
    (m3 : PySem.W.nsIn K mainGlobals "MOST_ENTRIES" = some (some (.int 6 tm3)))
    (eS : PySem.W.nsIn K mainGlobals "ShelfError" = some (some (.ref CS)))
    (e0 : PySem.W.nsIn K mainGlobals "InvalidPlan" = some (some (.ref C0)))
    (e1 : PySem.W.nsIn K mainGlobals "InvalidState" = some (some (.ref C1)))
    (e2 : PySem.W.nsIn K mainGlobals "InvalidCount" = some (some (.ref C2)))
    (e3 : PySem.W.nsIn K mainGlobals "UnknownPlace" = some (some (.ref C3)))
    (e4 : PySem.W.nsIn K mainGlobals "UnknownParcel" = some (some (.ref C4)))
    (e5 : PySem.W.nsIn K mainGlobals "UnknownShelf" = some (some (.ref C5)))
    (e6 : PySem.W.nsIn K mainGlobals "UnknownCarrier" = some (some (.ref C6)))
    (e7 : PySem.W.nsIn K mainGlobals "InvalidEffect" = some (some (.ref C7)))
    (e8 : PySem.W.nsIn K mainGlobals "DifferentSizes" = some (some (.ref C8)))
    (e9 : PySem.W.nsIn K mainGlobals "InvalidParcels" = some (some (.ref C9)))
    (e10 : PySem.W.nsIn K mainGlobals "Contradiction" = some (some (.ref C10)))
    (e11 : PySem.W.nsIn K mainGlobals "InvalidArrangement" = some (some (.ref C11)))
    (e12 : PySem.W.nsIn K mainGlobals "ShelfFull" = some (some (.ref C12)))
    (e13 : PySem.W.nsIn K mainGlobals "ParcelCarried" = some (some (.ref C13)))
    (e14 : PySem.W.nsIn K mainGlobals "InvalidSwap" = some (some (.ref C14)))
    (xk0 : PySem.W.keepIn K (.ref C0) = true)
    (xb0 : PySem.W.subIn K (.ref C0) (.type "BaseException") = some true)
    (xt0 : PySem.W.typeIn K (.ref C0) = some (.type "type"))
    (yg0 : PySem.W.findIn K (.ref C0) "__getattribute__" = some (some (.builtin "BaseException.__getattribute__")))
    (yk0 : PySem.W.findIn K (.ref C0) "__getattr__" = some none)
    (yd0 : PySem.W.hasDictIn K C0 = true)
    (ya0 : PySem.W.findIn K (.ref C0) "__class__" = some (some (.builtin "object.__class__")))
    (ym0 : PySem.W.mroIn K C0 (.type "object") = some true)
    (ze0 : PySem.W.exmOne K (.ref C0) (.ref CS) = some true)
    (zv0 : PySem.W.kitOne K (.ref C0) (.type "ValueError") = some true)
    (z0_0 : PySem.W.kitOne K (.ref C0) (.ref C0) = some true)
    (z0_1 : PySem.W.kitOne K (.ref C0) (.ref C1) = some false)
    (z0_2 : PySem.W.kitOne K (.ref C0) (.ref C2) = some false)
    (z0_3 : PySem.W.kitOne K (.ref C0) (.ref C3) = some false)
    (z0_4 : PySem.W.kitOne K (.ref C0) (.ref C4) = some false)
    (z0_5 : PySem.W.kitOne K (.ref C0) (.ref C5) = some false)
    (z0_6 : PySem.W.kitOne K (.ref C0) (.ref C6) = some false)
    (z0_7 : PySem.W.kitOne K (.ref C0) (.ref C7) = some false)
    (z0_8 : PySem.W.kitOne K (.ref C0) (.ref C8) = some false)
    (z0_9 : PySem.W.kitOne K (.ref C0) (.ref C9) = some false)
    (z0_10 : PySem.W.kitOne K (.ref C0) (.ref C10) = some false)
    (z0_11 : PySem.W.kitOne K (.ref C0) (.ref C11) = some false)
    (z0_12 : PySem.W.kitOne K (.ref C0) (.ref C12) = some false)
    (z0_13 : PySem.W.kitOne K (.ref C0) (.ref C13) = some false)
    (z0_14 : PySem.W.kitOne K (.ref C0) (.ref C14) = some false)
    (y_n : PySem.W.specialIn K (.builtin "object.__class__") "__get__" = some (some (.builtin "getset_descriptor.__get__")))
    (y_t : PySem.W.takesIn K (.builtin "object.__class__") = some true)
    (pC : K.lookup C0 = some (excClassObj pnm pq C0 pN pbs pbm true psn psub pab pcol pdd pk0 pk1 pk2 pk3 pk5 "ValueError.__new__"))
    (pR : PySem.HandSPX.refsVE pbm = true)
    (pSa : PySem.W.findIn K (.ref C0) "__setattr__" = some (some (.builtin "object.__setattr__")))
    (pN1 : PySem.W.findIn K (.ref C0) "part" = some none)
    (pN2 : PySem.W.findIn K (.ref C0) "index" = some none)
    (iC : PySem.W.findIn K (.ref C0) "__init__" = some (some (.ref fI)))
    (tI : PySem.W.typeIn K (.ref fI) = some (.type "function"))
    (lI : K.lookup fI = some ⟨ocI, odI, .func ((nfPlan cc c0).fd docI pmI ctI), slI⟩)
    (pCell : K.lookup cc = some ⟨ccl, ccd, .cell (some (.ref C0)), ccs⟩)
    (pCode : PySem.W.codeIn K (.ref c0) "InvalidPlan.__init__" = true)
    (pKo : K.lookup c0 = some ⟨kcl, kcd, .fields kvs, kcs⟩)
    (pKf : kvs[2]? = some (.str kfl ktf))
    (pKm : ((P.main.file : Str) == kfl) = true)
    (pTop : (P.main.scope.names.lookup ("super" : Str)).isSome = false)
    (pHs : PySem.W.ks_superIn K C0 C0 "__init__" = some (some (.builtin "ValueError.__init__")))
    (pHo : PySem.W.nsIn K PySem.cStatics "thirdparty.any" = some none)
    (pHB : PySem.W.subIn K (.ref C0) (.type "ValueError") = some true)
    (pHm : PySem.W.mroIn K C0 (.ref C0) = some true)
    (hcode : cdL = .ref c)
    (htab : PySem.W.codeHdIn K c Pt = true)
    (hnone : K.lookup Pt = none)
    : ∃ (fd : FuncData) (cs : List (Addr × Addr)) (sp : Sp), (∀ p ∈ cs, h.get? p.2 = some { cls := .none, data := .fields #[] }) ∧ (∀ p ∈ cs, K.lookup p.2 = none) ∧ (∀ p ∈ cs, PySem.W.CodeHd h p.1 p.2) ∧ (∀ (s : Shared) (u : Value), BindsTo s fd ⟨[u], []⟩ [("_law_script", u)]) ∧
    (∀ (H : Hp) (a : Addr) (ns : List Int), ns.length ≤ 63 → (∀ z ∈ ns, Builtin.Int.intBits z ≤ 1048576) → (∀ p ∈ cs, H p.2 = some (.tbl #[])) → SqL K H a (ns.map V.int) → sp [.ref a] H (fun v _ => v = .bl true) fun _ _ _ => False) ∧
    ∀ base : Heap, K.In base → base.Ns mainGlobals mg → (∀ p ∈ cs, TabB base mg p.1 p.2) → FnOk P w K mg base CX0 8 fa fd ["_law_script"] sp := by
  have e := hfa.symm.trans (PySem.W.mg_of X G aL)
  cases e
  subst hcode
  have DW := df_mk (ps := ["number", "low", "high"]) X G aW lW cW kW fun _ _ _ _ _ _ us hl => match us, hl with | [_, _, _], _ => rfl
  have DS := df_mk (ps := ["sizes"]) X G aS lS cS kS fun _ _ _ _ _ _ us hl => match us, hl with | [_], _ => rfl
  have DR := df_mk (ps := ["routes", "shelves"]) X G aR lR cR kR fun _ _ _ _ _ _ us hl => match us, hl with | [_, _], _ => rfl
  have DT := df_mk (ps := ["route", "shelves"]) X G aT lT cT kT fun _ _ _ _ _ _ us hl => match us, hl with | [_, _], _ => rfl
  have DP := df_mk (ps := ["plan"]) X G aP lP cP kP fun _ _ _ _ _ _ us hl => match us, hl with | [_], _ => rfl
  have DgP := df_mk (ps := ["plan"]) X G agP lgP cgP kgP fun _ _ _ _ _ _ us hl => match us, hl with | [_], _ => rfl
  have DgV := df_mk (ps := ["plan", "number"]) X G agV lgV cgV kgV fun _ _ _ _ _ _ us hl => match us, hl with | [_, _], _ => rfl
  have DgL := df_mk (ps := ["plan"]) X G agL lgL cgL kgL fun _ _ _ _ _ _ us hl => match us, hl with | [_], _ => rfl
  have DgO := df_mk (ps := ["plan"]) X G agO lgO cgO kgO fun _ _ _ _ _ _ us hl => match us, hl with | [_], _ => rfl
  have DgN := df_mk (ps := ["plan"]) X G agN lgN cgN kgN fun _ _ _ _ _ _ us hl => match us, hl with | [_], _ => rfl
  have DgI := df_mk (ps := ["routes", "number"]) X G agI lgI cgI kgI fun _ _ _ _ _ _ us hl => match us, hl with | [_, _], _ => rfl
  have DgC := df_mk (ps := ["routes"]) X G agC lgC cgC kgC fun _ _ _ _ _ _ us hl => match us, hl with | [_], _ => rfl
  have DgR := df_mk (ps := ["route"]) X G agR lgR cgR kgR fun _ _ _ _ _ _ us hl => match us, hl with | [_], _ => rfl
  have DgS := df_mk (ps := ["plan", "contents"]) X G agS lgS cgS kgS fun _ _ _ _ _ _ us hl => match us, hl with | [_, _], _ => rfl
  have DgT := df_mk (ps := ["plan"]) X G agT lgT cgT kgT fun _ _ _ _ _ _ us hl => match us, hl with | [_], _ => rfl
  have DwM := df_mk (ps := ["_law_script", "_law_seed"]) X G awM lwM cwM kwM fun _ _ _ _ _ _ us hl => match us, hl with | [_, _], _ => rfl
  have DwN := df_mk (ps := ["_law_h", "_law_limit"]) X G awN lwN cwN kwN fun _ _ _ _ _ _ us hl => match us, hl with | [_, _], _ => rfl
  have DwA := df_mk (ps := ["_law_found", "_law_due"]) X G awA lwA cwA kwA fun _ _ _ _ _ _ us hl => match us, hl with | [_, _], _ => rfl
  have DwX := df_mk (ps := ["_law_call"]) X G awX lwX cwX kwX fun _ _ _ _ _ _ us hl => match us, hl with | [_], _ => rfl
  have DwP := df_mk (ps := ["_law_h", "_law_shelves", "_law_carriers"]) X G awP lwP cwP kwP fun _ _ _ _ _ _ us hl => match us, hl with | [_, _, _], _ => rfl
  have DwB := df_mk (ps := ["_law_plan_here"]) X G awB lwB cwB kwB fun _ _ _ _ _ _ us hl => match us, hl with | [_], _ => rfl
  have DwS := df_mk (ps := ["_law_h", "_law_plan_here"]) X G awS lwS cwS kwS fun _ _ _ _ _ _ us hl => match us, hl with | [_, _], _ => rfl
  have DwE := df_mk (ps := ["_law_plan_here", "_law_number"]) X G awE lwE cwE kwE fun _ _ _ _ _ _ us hl => match us, hl with | [_, _], _ => rfl
  have DL := df_mk (ps := ["_law_script"]) X G aL lL cL kL fun _ _ _ _ _ _ us hl => match us, hl with | [_], _ => rfl
  have B : Bt mg := ⟨PySem.W.mg_none_of X G n_isinstance, PySem.W.mg_none_of X G n_bool, PySem.W.mg_none_of X G n_int, PySem.W.mg_none_of X G n_str, PySem.W.mg_none_of X G n_list, PySem.W.mg_none_of X G n_tuple, PySem.W.mg_none_of X G n_dict, PySem.W.mg_none_of X G n_len, PySem.W.mg_none_of X G n_range, PySem.W.mg_none_of X G n_enumerate, PySem.W.mg_none_of X G n_max, PySem.W.mg_none_of X G n_sum⟩
  have OX : OexC K C0 := ⟨⟨pnm, pq, pN, pbs, pbm, psn, psub, pab, pcol, pdd, pk0, pk1, pk2, pk3, pk5, pC, pR⟩, pSa, xb0, xt0, xk0⟩
  have XF : XfC K C0 := ⟨yg0, yk0, xb0, yd0⟩
  have SF : SupF P K mg C0 fI cc (nfPlan cc c0) arPlan := ⟨OX, rfl, ⟨_, _, _, pCell⟩, pCode, ⟨_, _, _, _, _, _, pKo, pKf, pKm⟩, pTop, PySem.W.mg_none_of X G n_super, rfl, rfl, rfl, pHs, pHo, pHB, pHm⟩
  have PL : Pl P K mg C0 fI ((nfPlan cc c0).fd docI pmI ctI) := ⟨⟨cc, c0, _, _, _, _, _, _, rfl, SF, lI⟩, pN1, pN2, PySem.W.mg_of X G e0, iC, tI, .all fun us hl => match us, hl with | [_, _, _], _ => rfl, XF⟩
  have T : Pf P K mg C0 fI fW fS fR fT fP _ _ _ _ _ _ := ⟨B, PL, ⟨_, PySem.W.mg_of X G m0⟩, ⟨_, PySem.W.mg_of X G m1⟩, ⟨_, PySem.W.mg_of X G m2⟩, ⟨_, PySem.W.mg_of X G m3⟩, DW, DS, DR, DT, DP⟩
  have L : Qf P K mg fgP fgV fgL fgN fgI fgC fgR fgS fgT _ _ _ _ _ _ _ _ _ := ⟨PySem.W.mg_of X G n_lcm, DgP, DgV, DgL, ⟨_, _, DgO⟩, DgN, DgI, DgC, DgR, DgS, DgT⟩
  have LW : Lw K mg fwM fwN fwA fwX fwP fwB fwS fwE _ _ _ _ _ _ _ _ := ⟨DwM, DwN, DwA, DwX, DwP, DwB, DwS, DwE⟩
  have EG : ErG mg CS C0 C1 C2 C3 C4 C5 C6 C7 C8 C9 C10 C11 C12 C13 C14 := ⟨PySem.W.mg_of X G eS, PySem.W.mg_of X G e0, PySem.W.mg_of X G e1, PySem.W.mg_of X G e2, PySem.W.mg_of X G e3, PySem.W.mg_of X G e4, PySem.W.mg_of X G e5, PySem.W.mg_of X G e6, PySem.W.mg_of X G e7, PySem.W.mg_of X G e8, PySem.W.mg_of X G e9, PySem.W.mg_of X G e10, PySem.W.mg_of X G e11, PySem.W.mg_of X G e12, PySem.W.mg_of X G e13, PySem.W.mg_of X G e14, PySem.W.mg_none_of X G n_ValueError⟩
  have A0 := era_plan (K := K) ⟨⟨yg0, yk0, xb0, yd0, ya0, y_n, y_t, ym0⟩, ze0, zv0, z0_0, z0_1, z0_2, z0_3, z0_4, z0_5, z0_6, z0_7, z0_8, z0_9, z0_10, z0_11, z0_12, z0_13, z0_14⟩
  refine ⟨_, [(c, Pt)], spLaw K Pt, fun p hp => ?_, fun p hp => ?_, fun p hp => ?_, fun s u => ?_, fun H a ns hl _ hH hS => ?_, fun base _ _ TB => ok_law T L LW DL rfl (TB (c, Pt) (List.mem_singleton.mpr rfl)) EG A0 XF pN1 pN2⟩
  · rw [List.mem_singleton.mp hp]
    exact hPt
  · rw [List.mem_singleton.mp hp]
    exact hnone
  · rw [List.mem_singleton.mp hp]
    exact PySem.W.codeHd_of_K X htab
  · exact .of_eq rfl
  · exact ⟨a, ns, rfl, hS, hl, fun p hp => by rw [List.mem_singleton.mp hp]; exact TabS.nil (hH (c, Pt) (List.mem_singleton.mpr rfl)), fun _ => rfl⟩
end
end Sv
open PySem PySem.W PyProof.Rows
set_option maxHeartbeats 0 in
theorem PySem.Challenge.cw_swapshelves_k01_plans_validated_holds : PySem.Challenge.rw_swapshelves_k01_plans_validated.Holds := by
  refine head ?_
  k_fill
  refine Sv.walk_ofTsX (l := PySem.Challenge.rw_swapshelves_k01_plans_validated) (n := 63) (k := 8) (x := "_law_script") (CX := fun _ => L2.CX0) rfl (by decide) rfl ⟨rfl, by decide, by decide⟩ (fun w h Y => PySem.W.km_in_of Y) ?F (fun _ _ _ _ _ h => h)
  case F =>
    intro w mg fa h XPh Y KX G hmg
    have hPt := PySem.W.km_tabs_of Y 415 (List.mem_singleton.mpr rfl)
    refine' Sv.all_mk (Pt := 415) KX G hmg hPt ?aW ?lW ?cW ?kW ?aS ?lS ?cS ?kS ?aR ?lR ?cR ?kR ?aT ?lT ?cT ?kT ?aP ?lP ?cP ?kP ?agP ?lgP ?cgP ?kgP ?agV ?lgV ?cgV ?kgV ?agL ?lgL ?cgL ?kgL ?agO ?lgO ?cgO ?kgO ?agN ?lgN ?cgN ?kgN ?agI ?lgI ?cgI ?kgI ?agC ?lgC ?cgC ?kgC ?agR ?lgR ?cgR ?kgR ?agS ?lgS ?cgS ?kgS ?agT ?lgT ?cgT ?kgT ?awM ?lwM ?cwM ?kwM ?awN ?lwN ?cwN ?kwN ?awA ?lwA ?cwA ?kwA ?awX ?lwX ?cwX ?kwX ?awP ?lwP ?cwP ?kwP ?awB ?lwB ?cwB ?kwB ?awS ?lwS ?cwS ?kwS ?awE ?lwE ?cwE ?kwE ?aL ?lL ?cL ?kL ?n_isinstance ?n_bool ?n_int ?n_str ?n_list ?n_tuple ?n_dict ?n_len ?n_range ?n_enumerate ?n_max ?n_sum ?n_ValueError ?n_super ?n_lcm ?m0 ?m1 ?m2 ?m3 ?eS ?e0 ?e1 ?e2 ?e3 ?e4 ?e5 ?e6 ?e7 ?e8 ?e9 ?e10 ?e11 ?e12 ?e13 ?e14 ?xk0 ?xb0 ?xt0 ?yg0 ?yk0 ?yd0 ?ya0 ?ym0 ?ze0 ?zv0 ?z0_0 ?z0_1 ?z0_2 ?z0_3 ?z0_4 ?z0_5 ?z0_6 ?z0_7 ?z0_8 ?z0_9 ?z0_10 ?z0_11 ?z0_12 ?z0_13 ?z0_14 ?y_n ?y_t ?pC ?pR ?pSa ?pN1 ?pN2 ?iC ?tI ?lI ?pCell ?pCode ?pKo ?pKf ?pKm ?pTop ?pHs ?pHo ?pHB ?pHm ?hcode ?htab ?hnone
    (case aW => k_is)
    (case lW => k_is)
    (case cW => k_is)
    (case kW => k_is)
    (case aS => k_is)
    (case lS => k_is)
    (case cS => k_is)
    (case kS => k_is)
    (case aR => k_is)
    (case lR => k_is)
    (case cR => k_is)
    (case kR => k_is)
    (case aT => k_is)
    (case lT => k_is)
    (case cT => k_is)
    (case kT => k_is)
    (case aP => k_is)
    (case lP => k_is)
    (case cP => k_is)
    (case kP => k_is)
    (case agP => k_is)
    (case lgP => k_is)
    (case cgP => k_is)
    (case kgP => k_is)
    (case agV => k_is)
    (case lgV => k_is)
    (case cgV => k_is)
    (case kgV => k_is)
    (case agL => k_is)
    (case lgL => k_is)
    (case cgL => k_is)
    (case kgL => k_is)
    (case agO => k_is)
    (case lgO => k_is)
    (case cgO => k_is)
    (case kgO => k_is)
    (case agN => k_is)
    (case lgN => k_is)
    (case cgN => k_is)
    (case kgN => k_is)
    (case agI => k_is)
    (case lgI => k_is)
    (case cgI => k_is)
    (case kgI => k_is)
    (case agC => k_is)
    (case lgC => k_is)
    (case cgC => k_is)
    (case kgC => k_is)
    (case agR => k_is)
    (case lgR => k_is)
    (case cgR => k_is)
    (case kgR => k_is)
    (case agS => k_is)
    (case lgS => k_is)
    (case cgS => k_is)
    (case kgS => k_is)
    (case agT => k_is)
    (case lgT => k_is)
    (case cgT => k_is)
    (case kgT => k_is)
    (case awM => k_is)
    (case lwM => k_is)
    (case cwM => k_is)
    (case kwM => k_is)
    (case awN => k_is)
    (case lwN => k_is)
    (case cwN => k_is)
    (case kwN => k_is)
    (case awA => k_is)
    (case lwA => k_is)
    (case cwA => k_is)
    (case kwA => k_is)
    (case awX => k_is)
    (case lwX => k_is)
    (case cwX => k_is)
    (case kwX => k_is)
    (case awP => k_is)
    (case lwP => k_is)
    (case cwP => k_is)
    (case kwP => k_is)
    (case awB => k_is)
    (case lwB => k_is)
    (case cwB => k_is)
    (case kwB => k_is)
    (case awS => k_is)
    (case lwS => k_is)
    (case cwS => k_is)
    (case kwS => k_is)
    (case awE => k_is)
    (case lwE => k_is)
    (case cwE => k_is)
    (case kwE => k_is)
    (case aL => k_is)
    (case lL => k_is)
    (case cL => k_is)
    (case kL => k_is)
    (case n_isinstance => k_is)
    (case n_bool => k_is)
    (case n_int => k_is)
    (case n_str => k_is)
    (case n_list => k_is)
    (case n_tuple => k_is)
    (case n_dict => k_is)
    (case n_len => k_is)
    (case n_range => k_is)
    (case n_enumerate => k_is)
    (case n_max => k_is)
    (case n_sum => k_is)
    (case n_ValueError => k_is)
    (case n_super => k_is)
    (case n_lcm => k_is)
    (case m0 => k_is)
    (case m1 => k_is)
    (case m2 => k_is)
    (case m3 => k_is)
    (case eS => k_is)
    (case e0 => k_is)
    (case e1 => k_is)
    (case e2 => k_is)
    (case e3 => k_is)
    (case e4 => k_is)
    (case e5 => k_is)
    (case e6 => k_is)
    (case e7 => k_is)
    (case e8 => k_is)
    (case e9 => k_is)
    (case e10 => k_is)
    (case e11 => k_is)
    (case e12 => k_is)
    (case e13 => k_is)
    (case e14 => k_is)
    (case xk0 => k_is)
    (case xb0 => k_is)
    (case xt0 => k_is)
    (case yg0 => k_is)
    (case yk0 => k_is)
    (case yd0 => k_is)
    (case ya0 => k_is)
    (case ym0 => k_is)
    (case ze0 => kernel_rfl)
    (case zv0 => kernel_rfl)
    (case z0_0 => kernel_rfl)
    (case z0_1 => kernel_rfl)
    (case z0_2 => kernel_rfl)
    (case z0_3 => kernel_rfl)
    (case z0_4 => kernel_rfl)
    (case z0_5 => kernel_rfl)
    (case z0_6 => kernel_rfl)
    (case z0_7 => kernel_rfl)
    (case z0_8 => kernel_rfl)
    (case z0_9 => kernel_rfl)
    (case z0_10 => kernel_rfl)
    (case z0_11 => kernel_rfl)
    (case z0_12 => kernel_rfl)
    (case z0_13 => kernel_rfl)
    (case z0_14 => kernel_rfl)
    (case y_n => k_is)
    (case y_t => k_is)
    (case pC => k_is)
    (case pR => decide +kernel)
    (case pSa => k_is)
    (case pN1 => k_is)
    (case pN2 => k_is)
    (case iC => k_is)
    (case tI => k_is)
    (case lI => k_is)
    (case pCell => k_is)
    (case pCode => k_is)
    (case pKo => k_is)
    (case pKf => rfl)
    (case pKm => first | rfl | decide +kernel)
    (case pTop => first | rfl | decide +kernel)
    (case pHs => kernel_rfl)
    (case pHo => first | k_is | kernel_rfl)
    (case pHB => k_is)
    (case pHm => first | k_is | kernel_rfl)
    (case hcode => rfl)
    (case htab => kernel_rfl)
    (case hnone => kernel_rfl)

