import PyProof.Rows.All
import Wide.All
import OpenK.AllK
import Wide.FinOn
import HandS.ForMost
import HandS.ForExc
import HandS.Lambda
import HandS.Nested
import HandS.EndTab
import HandS.Conv
import HandS.Zip
import HandS.SetFor
import HandS.TupAny
import HandS.Gcd
import HandS.Wide
import HandS.WideBits
import HandS.IsInst
import HandS.ExcIs
import HandS.Flow
import KE.KMathGC
import KE.GoesMore
import PyProof.EnumMake
import PyProof.Draws
import HandS.ExcInit
import HandS.ExcSuper
import HandS.ExcField
import HandS.FStr
import KE.KExcSuper
import KE.KSuper
import PySem.Str
import HandS.TupMul
import KE.KTupSum
import KE.KExcIs
import HandS.Style
import HandS.DictComp
import HandS.Strs
import KE.GoesZip
import HandS.More
import HandS.SortInts
import HandS.Deep
import HandS.Walk
import PySem.Challenge.RW_swapshelves_k01_plans_validated
set_option Elab.async false
set_option linter.all false
set_option maxRecDepth 100000
section
open PySem PySem.W PyProof.Rows
set_option maxHeartbeats 0
open_top head for PySem.Challenge.rw_swapshelves_k01_plans_validated
end
set_option maxHeartbeats 4000000
/-! lambdas as values: made with or without one default, called where their cells still hold -/
namespace Sv
open PySem PySem.Spec PyProof.Rows L2 LamX NdefX

/-- a lambda: its text, what it captured, its defaults, its code object -/
structure LF where
  params : Arguments
  body : Expr
  scope : Scope
  qual : Str
  cl : List (Str × Addr)
  dV : Value
  c : Addr
def LF.fd (L : LF) (pm ctv : Value) : FuncData :=
  { PySem.W.kla_fn "<lambda>" L.qual L.params L.body L.scope L.cl pm (.ref L.c) ctv with defaults := L.dV }
def LF.obj (L : LF) (pm ctv : Value) : Obj := { cls := .type "function", data := .func (L.fd pm ctv) }
def LamO (f : Addr) (L : LF) : HO := .ext fun h => ∃ (od : Option Addr) (sl : Array (Option Value)) (pm ctv : Value), h.get? f = some (⟨.type "function", od, .func (L.fd pm ctv), sl⟩ : Obj)
theorem lamO_tbl {f : Addr} {L : LF} (ps : Array Value) : LamO f L ≠ .tbl ps := fun z => by
  unfold LamO at z
  cases z
theorem lamO_at {P : Program} {w : World} {H : Hp} {h : Heap} {f : Addr} {L : LF} (hok : HOk P w H h) (e : H f = some (LamO f L)) :
    ∃ (od : Option Addr) (sl : Array (Option Value)) (pm ctv : Value), h.get? f = some (⟨.type "function", od, .func (L.fd pm ctv), sl⟩ : Obj) := (hok f _ e).1

section
variable {M : Model} {A : Around} {E : Value → Shared → Prop} {s : Shared} {qual : Str} {params : Arguments} {body : Expr} {scope : Scope} {env : Env} {c P : Addr} {ps : Array Value}
  {pos : Pos} {fl : Nat} {mg : Str → Option Value} {clos : List (Str × Addr)} {dV : Value} {Q : Value → Shared → Prop}
/-- the end of its making, the code object new -/
theorem tail_new (hcl : closureFor scope env = pure clos) (hge : env.globals = mainGlobals) (hg : s.heap.Ns mainGlobals mg) (hcode : env.code = .ref c) (C : PySem.W.CodeHd s.heap c P)
    (hP : s.heap.get? P = some { cls := .none, data := .fields ps }) (ht : TriplesOk ps.toList) (hnf : codeAmong pos ps.toList = none) (hgP : mainGlobals ≠ P) (hb : s.heap.BuiltinsAt mg P)
    (h : ∀ c' ctv h' tk, Heap.ExtBut P s.heap h' → s.heap.objs.size ≤ c' → c' < h'.objs.size → h'.CodeRec (.ref c') qual →
      h'.get? P = some { cls := .none, data := .fields (ps ++ #[rawInt pos.line, rawInt pos.col, .ref c']) } →
      Q (.ref h'.objs.size) { s with heap := h'.push (LF.obj ⟨params, body, scope, qual, clos, dV, c'⟩ ((mg "__name__").getD .none) ctv), toks := tk }) :
    wpAny M A (makeTail "<lambda>" qual params (.expr body) scope env dV .none none pos fl) Q E s := by
  obtain ⟨bm, ob, e1, e2, _, e3, e4, e5, e6, e7⟩ := hb
  unfold makeTail
  rw [hcl, hge]
  refine wpAny_bind (wpAny_pure ?_)
  by_cases hz : clos.isEmpty = true
  · rw [if_pos hz]
    refine wpAny_bind (wpAny_pure (wpAny_bind (wpAny_functionCodeX hcode (C.code hP ht) (C.tab hP) hnf fun c' h' tk x1 x2 x3 _ x4 x5 _ => ?_)))
    have g1 := hg.extBut x1 hgP
    refine wpAny_bind (wpAny_builtinsFor g1 e1 e2 (x1 _ _ e3 e4) e5 e6 e7 (wpAny_bind (wpAny_nsGet g1 ?_)))
    exact wpAny_bind (wpAny_pure (wpAny_newObj_type (h c' .none h' tk x1 x2 x3 x4 x5.2) (by size_fits)))
  · rw [if_neg hz]
    refine wpAny_bind (wpAny_newTextTuple ?_)
    have kp : ∀ (oT : Obj) b o, s.heap.get? b = some o → (s.heap.push oT).get? b = some o := fun oT b o e => Heap.get?_push_of_some _ e
    refine wpAny_bind (wpAny_functionCodeX hcode ((C.keeps (kp _)).code (kp _ _ _ hP) ht) ((C.keeps (kp _)).tab (kp _ _ _ hP)) hnf fun c' h' tk x1 x2 x3 _ x4 x5 _ => ?_)
    have g1 := (hg.push _).extBut x1 hgP
    have x1' : Heap.ExtBut P s.heap h' := fun b o n e => x1 b o n (kp _ b o e)
    have x2' : s.heap.objs.size ≤ c' := Nat.le_trans (by rw [Heap.size_push]; omega) x2
    refine wpAny_bind (wpAny_builtinsFor g1 e1 e2 (x1' _ _ e3 e4) e5 e6 e7 (wpAny_bind (wpAny_nsGet g1 ?_)))
    exact wpAny_bind (wpAny_pure (wpAny_newObj_type (h c' _ h' tk x1' x2' x3 x4 x5.2) (by size_fits)))
/-- .. the code object found -/
theorem tail_hit {c' : Addr} (hcl : closureFor scope env = pure clos) (hge : env.globals = mainGlobals) (hg : s.heap.Ns mainGlobals mg) (hcode : env.code = .ref c) (C : PySem.W.CodeHd s.heap c P)
    (hP : s.heap.get? P = some { cls := .none, data := .fields ps }) (ht : TriplesOk ps.toList) (hf : codeAmong pos ps.toList = some (.ref c')) (hb : s.heap.BuiltinsAt mg P)
    (h : ∀ (ctv : Value) (h' : Heap) (tk : Tok), (∀ b o, s.heap.get? b = some o → h'.get? b = some o) → s.heap.objs.size ≤ h'.objs.size →
      Q (.ref h'.objs.size) { s with heap := h'.push (LF.obj ⟨params, body, scope, qual, clos, dV, c'⟩ ((mg "__name__").getD .none) ctv), toks := tk }) :
    wpAny M A (makeTail "<lambda>" qual params (.expr body) scope env dV .none none pos fl) Q E s := by
  obtain ⟨bm, ob, e1, e2, _, e3, e4, e5, e6, e7⟩ := hb
  unfold makeTail
  rw [hcl, hge]
  refine wpAny_bind (wpAny_pure ?_)
  by_cases hz : clos.isEmpty = true
  · rw [if_pos hz]
    refine wpAny_bind (wpAny_pure (wpAny_bind (wpAny_functionCode_hit hcode (C.code hP ht) hf ?_)))
    refine wpAny_bind (wpAny_builtinsFor hg e1 e2 e4 e5 e6 e7 (wpAny_bind (wpAny_nsGet hg ?_)))
    exact wpAny_bind (wpAny_pure (wpAny_newObj_type (h .none s.heap s.toks (fun _ _ e => e) (Nat.le_refl _)) (by size_fits)))
  · rw [if_neg hz]
    refine wpAny_bind (wpAny_newTextTuple ?_)
    have kp : ∀ (oT : Obj) b o, s.heap.get? b = some o → (s.heap.push oT).get? b = some o := fun oT b o e => Heap.get?_push_of_some _ e
    refine wpAny_bind (wpAny_functionCode_hit hcode ((C.keeps (kp _)).code (kp _ _ _ hP) ht) hf ?_)
    refine wpAny_bind (wpAny_builtinsFor (hg.push _) e1 e2 (kp _ _ _ e4) e5 e6 e7 (wpAny_bind (wpAny_nsGet (hg.push _) ?_)))
    have sz : ∀ oT : Obj, s.heap.objs.size ≤ (s.heap.push oT).objs.size := fun oT => by rw [Heap.size_push]; omega
    exact wpAny_bind (wpAny_pure (wpAny_newObj_type (h _ _ s.toks (kp _) (sz _)) (by size_fits)))
end

section
variable {X : Cx} {pins : List (Addr × Obj)} {σ : L2.St} {H : Hp} {s : Shared}
/-- a function object just made is known from now on -/
theorem inv_lam {L : LF} {t' : Nat} {pm ctv : Value} (I : Inv X pins σ H s) :
    Inv X pins σ (upd H s.heap.objs.size (LamO s.heap.objs.size L)) { s with heap := s.heap.push (L.obj pm ctv), toks := t' } := by
  refine I.laid (a := s.heap.objs.size) (fun b u e => Heap.get?_push_of_some _ e) (Nat.le_refl _) ?_
  have e : (s.heap.push (L.obj pm ctv)).get? s.heap.objs.size = some (L.obj pm ctv) := Heap.get?_push_size _ rfl
  exact ⟨⟨_, _, pm, ctv, e⟩, ⟨_, e⟩, fun h1 h2 ⟨a1, a2, a3, a4, z⟩ st => ⟨a1, a2, a3, a4, st _ z⟩⟩
/-- what is asked of the makers' tables -/
structure LamT (X : Cx) (T : List (Addr × Str)) (c P : Addr) : Prop where
  tb : TabB X.base X.mg c P
  code : X.env.code = .ref c
  mem : (P, X.env.qual ++ "<lambda>") ∈ T
  uni : ∀ p ∈ T, p.1 = P → p.2 = X.env.qual ++ "<lambda>"
theorem lam_tail {T : List (Addr × Str)} {c P : Addr} {params : Arguments} {body : Expr} {scope : Scope} {pos : Pos} {fl : Nat} {dV : Value} {E : Value → Shared → Prop} {Q : Value → Shared → Prop} (I : Inv X pins σ H s) (LT : LamT X T c P)
    (hT : Tabs T H) (hfree : ∀ y ∈ scope.names, y.2 = .free → ∃ c, X.env.cells.lookup y.1 = some c)
    (h : ∀ (f c' : Addr) (H1 : Hp) (s' : Shared), Inv X pins σ H1 s' → ExtN H H1 → (∀ b, H1 b = none → H b = none) → Tabs T H1 → H f = none →
      H1 f = some (LamO f ⟨params, body, scope, X.env.qual ++ "<lambda>", cloFrom X.env.cells scope.names [], dV, c'⟩) → H1 c' = some (CodeO c' (X.env.qual ++ "<lambda>")) → Q (.ref f) s') :
    wpAny (model X.prog X.w) X.A (makeTail "<lambda>" (X.env.qual ++ "<lambda>") params (.expr body) scope X.env dV .none none pos fl) Q E s := by
  obtain ⟨ps, hP, ht, ha⟩ := hT _ LT.mem
  have bP : s.heap.BuiltinsAt X.mg P := LT.tb.bm.keeps I.bk
  have gP : s.heap.get? P = some { cls := .none, data := .fields ps } := I.hok P _ hP
  cases hc : codeAmong pos ps.toList with
  | none =>
    refine tail_new (mg := X.mg) (c := c) (P := P) (ps := ps) (closure_ok hfree) I.ok.glob (I.mod.glob.keeps I.bk) LT.code (LT.tb.code.keeps I.bk) gP ht hc LT.tb.gP bP fun c' ctv h' tk x1 x2 x3 x4 x5 => ?_
    obtain ⟨c2, oc, vs, t, e2, hoc, hd, hv⟩ := x4
    cases e2
    have nC : H c' = none := I.hok.fresh x2
    have I1 := inv_table (t' := tk) (more := #[rawInt pos.line, rawInt pos.col, .ref c']) (h' := h') I hP (fun b o hb e => x1 b o hb e) x5 x2 ⟨oc, vs, t, hoc, hd, hv⟩
    generalize hG : upd (upd H P (.tbl (ps ++ #[rawInt pos.line, rawInt pos.col, .ref c']))) c' (CodeO c' (X.env.qual ++ "<lambda>")) = G at I1
    have atC : G c' = some (CodeO c' (X.env.qual ++ "<lambda>")) := by rw [← hG]; exact upd_same
    have hE : ExtN H G := fun b o e n => by
      rw [← hG, upd_ne (ne_of_none e nC), upd_ne (fun z => n ps (Option.some.inj (e.symm.trans (by rw [z]; exact hP))))]
      exact e
    have eL : (ps ++ #[rawInt pos.line, rawInt pos.col, .ref c']).toList = ps.toList ++ [rawInt pos.line, rawInt pos.col, .ref c'] := by simp
    have T1 : Tabs T G := fun p hp => by
      by_cases hb : p.1 = P
      · rw [LT.uni p hp hb, hb]
        refine ⟨_, by rw [← hG, upd_ne (ne_of_none hP nC), upd_same], by rw [eL]; exact PySem.TriplesOk_snoc _ _ _ _ ht, fun p' cv hcv => ?_⟩
        rw [eL] at hcv
        rcases among_app _ ht hcv with z | z
        · obtain ⟨c0, q1, q2⟩ := ha p' cv z
          exact ⟨c0, q1, hE _ _ q2 codeO_ne⟩
        · exact ⟨c', z, atC⟩
      · obtain ⟨ps', a1, a2, a3⟩ := hT p hp
        refine ⟨ps', by rw [← hG, upd_ne (ne_of_none a1 nC), upd_ne hb]; exact a1, a2, fun p' cv hcv => ?_⟩
        obtain ⟨c0, q1, q2⟩ := a3 p' cv hcv
        exact ⟨c0, q1, hE _ _ q2 codeO_ne⟩
    have nF := I1.hok.fresh (Nat.le_refl _)
    have I2 := inv_lam (L := ⟨params, body, scope, X.env.qual ++ "<lambda>", cloFrom X.env.cells scope.names [], dV, c'⟩) (t' := tk) (pm := (X.mg "__name__").getD .none) (ctv := ctv) I1
    refine h h'.objs.size c' _ _ I2 (fun b o e n => ?_) (fun b e => ?_) (T1.ext fun b o e => ?_) (I.hok.fresh (Nat.le_trans x2 (Nat.le_of_lt x3))) upd_same ?_
    · exact (upd_ne (ne_of_none (hE b o e n) nF)).trans (hE b o e n)
    · have e1 := upd_none e
      rw [← hG] at e1
      exact upd_none (upd_none e1)
    · exact (upd_ne (ne_of_none e nF)).trans e
    · exact (upd_ne (Nat.ne_of_lt x3)).trans atC
  | some cv =>
    obtain ⟨c', e, hco⟩ := ha pos cv hc
    subst e
    refine tail_hit (mg := X.mg) (c := c) (P := P) (ps := ps) (closure_ok hfree) I.ok.glob (I.mod.glob.keeps I.bk) LT.code (LT.tb.code.keeps I.bk) gP ht hc bP fun ctv h' tk x1 x2 => ?_
    have I1 : Inv X pins σ H { s with heap := h', toks := tk } := I.kept x1
    have nF : H h'.objs.size = none := I1.hok.fresh (Nat.le_refl _)
    have I2 := inv_lam (L := ⟨params, body, scope, X.env.qual ++ "<lambda>", cloFrom X.env.cells scope.names [], dV, c'⟩) (t' := tk) (pm := (X.mg "__name__").getD .none) (ctv := ctv) I1
    refine h h'.objs.size c' _ _ I2 (fun b o e n => ?_) (fun b e => upd_none e) (hT.ext fun b o e => ?_) nF upd_same ?_
    · exact (upd_ne (ne_of_none e nF)).trans e
    · exact (upd_ne (ne_of_none e nF)).trans e
    · exact (upd_ne (ne_of_none hco nF)).trans hco
end
/-- what the defaults' place holds -/
def DflAt (H : Hp) (dV : Value) (dvs : List V) : Prop := (dvs = [] ∧ dV = .none) ∨ (dvs ≠ [] ∧ ∃ T, dV = .ref T ∧ H T = some (.tup dvs))
/-- the reading of a lambda: a new function, mk its datum -/
def tLamV (T : List (Addr × Str)) (dvs : List V) (mk : Value → Addr → LF) : TE := fun _ H Q => Tabs T H ∧ ∀ (f c' : Addr) (dV : Value) (H1 : Hp), ExtN H H1 → (∀ b, H1 b = none → H b = none) → Tabs T H1 → H f = none →
  H1 f = some (LamO f (mk dV c')) → H1 c' = some (CodeO c' (mk dV c').qual) → DflAt H1 dV dvs → Q (.ref f) H1
section
variable {X : Cx}
theorem pe_lam0 {T : List (Addr × Str)} {c P : Addr} {params : Arguments} {body : Expr} {scope : Scope} {pos : Pos} (LT : LamT X T c P) (hd : defaultsOf params X.env = ([], []))
    (hfree : ∀ y ∈ scope.names, y.2 = .free → X.env.scope.names.lookup y.1 = some .cell ∨ X.env.scope.names.lookup y.1 = some .free) :
    PE X (.Lambda params body scope pos) (tLamV T [] fun dV c' => ⟨params, body, scope, X.env.qual ++ "<lambda>", cloFrom X.env.cells scope.names [], dV, c'⟩) := by
  refine ⟨fun pins s σ H Q I ⟨hT, h⟩ => PySem.W.kla_eval hd ?_⟩
  rw [makeFunction_eq]
  simp only [List.zip_nil_right, List.filterMap_nil, List.isEmpty_nil, if_true, pure_bind]
  have hf : ∀ y ∈ scope.names, y.2 = .free → ∃ c, X.env.cells.lookup y.1 = some c := fun y hy e => (hfree y hy e).elim (fun z => I.ok.has _ (.inl z)) fun z => I.ok.has _ (.inr z)
  exact lam_tail I LT hT hf fun f c' H1 s' I1 a1 a2 a3 a4 a5 a6 => ⟨.ref f, H1, I1, rfl, h f c' .none H1 a1 a2 a3 a4 a5 a6 (.inl ⟨rfl, rfl⟩)⟩
theorem pe_lam1 {T : List (Addr × Str)} {c P : Addr} {params : Arguments} {body : Expr} {scope : Scope} {pos : Pos} {i j : Int} {jn : Nat} {p2 : Pos} (LT : LamT X T c P)
    (hd : defaultsOf params X.env = ([eval (.Constant (.int i) jn p2) X.env], []))
    (hfree : ∀ y ∈ scope.names, y.2 = .free → X.env.scope.names.lookup y.1 = some .cell ∨ X.env.scope.names.lookup y.1 = some .free) :
    PE X (.Lambda params body scope pos) (tLamV T [.int i] fun dV c' => ⟨params, body, scope, X.env.qual ++ "<lambda>", cloFrom X.env.cells scope.names [], dV, c'⟩) := by
  refine ⟨fun pins s σ H Q I ⟨hT, h⟩ => ?_⟩
  rw [arm_eval_Lambda, hd]
  have hf : ∀ y ∈ scope.names, y.2 = .free → ∃ c, X.env.cells.lookup y.1 = some c := fun y hy e => (hfree y hy e).elim (fun z => I.ok.has _ (.inl z)) fun z => I.ok.has _ (.inr z)
  refine wpAny_bind (wpAny_evalAll_cons (thn ((pe_int (X := X) (i := i) (j := jn) (pos := p2)).run pins s σ H (fun v H1 => v = .int i ∧ H1 = H) I ⟨rfl, rfl⟩) fun u s1 ⟨v, H1, I1, r1, q1⟩ => ?_))
  obtain ⟨ev, eH⟩ := q1
  subst ev
  subst eH
  refine wpAny_evalAll_nil (wpAny_bind (wpAny_holding (wpAny_pure ?_)))
  rw [makeFunction_eq]
  simp only [List.zip_nil_right, List.filterMap_nil, List.isEmpty_nil, if_true, pure_bind, List.isEmpty_cons, Bool.false_eq_true, if_false]
  refine wpAny_bind (wpAny_newTextTuple ?_)
  have nT := I1.hok.fresh (Nat.le_refl s1.heap.objs.size)
  have I2 : Inv X pins σ (upd H1 s1.heap.objs.size (.tup [.int i])) { s1 with heap := s1.heap.push { cls := .type "tuple", data := .seq [u].toArray } } := by
    refine I1.laid (t' := s1.toks) (fun b o e => Heap.get?_push_of_some _ e) (Nat.le_refl _) ⟨(by decide : (1 : Nat) ≤ sizeLine), [u], .cons r1 .nil, ?_⟩
    exact ⟨_, Heap.get?_push_size _ rfl, rfl, ⟨_, rfl⟩⟩
  have hT2 : Tabs T (upd H1 s1.heap.objs.size (.tup [.int i])) := hT.ext fun b o e => by
    rw [upd_ne (ne_of_none e nT)]
    exact e
  refine lam_tail I2 LT hT2 hf fun f c' H2 s' I3 a1 a2 a3 a4 a5 a6 => ⟨.ref f, H2, I3, rfl, h f c' _ H2 (fun b o e n => ?_) (fun b e => upd_none (a2 b e)) a3 (upd_none a4) a5 a6 (.inr ⟨List.cons_ne_nil _ _, _, rfl, ?_⟩)⟩
  · exact a1 b o (by rw [upd_ne (ne_of_none e nT)]; exact e) n
  · exact a1 _ _ upd_same (fun ps z => nomatch z)
end
end Sv


set_option maxHeartbeats 4000000
/-! what a lambda promises; its call where only the state at the entry knows its cells -/
namespace Sv
open PySem PySem.Spec PyProof.Rows L2 LamX NdefX

def LF.nf (L : LF) : NF := ⟨"<lambda>", L.qual, L.params, [], L.scope, L.cl, L.c⟩
/-- how the defaults bind -/
def LBinds (L : LF) (ps : List Str) (dvs : List V) : Prop := ∀ (H : Hp) (P : Program) (w : World) (s : Shared), HOk P w H s.heap → DflAt H L.dV dvs →
  ∃ us, Vals dvs us ∧ ∀ pm ctv, BindsTo s (L.fd pm ctv) ⟨[], []⟩ (ps.zip us)
theorem lbinds0 {L : LF} (h : ∀ q cl pm cv ctv, bindArgs (PySem.W.kla_fn "<lambda>" q L.params L.body L.scope cl pm cv ctv) ⟨[], []⟩ = pure []) : LBinds L [] [] := fun H P w s hok d => by
  rcases d with ⟨_, e⟩ | ⟨e, _⟩
  · refine ⟨[], .nil, fun pm ctv => .of_eq ?_⟩
    have z := h L.qual L.cl pm (.ref L.c) ctv
    unfold LF.fd
    rw [e]
    exact z
  · exact absurd rfl e
theorem lbinds1 {L : LF} {a : Str} {v : V} (h : ∀ q cl pm cv ctv (T : Addr) (u : Value), ∃ k, bindArgs { PySem.W.kla_fn "<lambda>" q L.params L.body L.scope cl pm cv ctv with defaults := .ref T } ⟨[], []⟩ = seqItems? (.ref T) >>= k ∧
    k (some [u].toArray) = pure [(a, u)]) : LBinds L [a] [v] := fun H P w s hok d => by
  rcases d with ⟨e, _⟩ | ⟨_, T, e, hT⟩
  · cases e
  · obtain ⟨_, its, r, o, ho, _, n, hd⟩ := hok T _ hT
    obtain ⟨u, rfl, ru⟩ := Vals.one r
    refine ⟨[u], .cons ru .nil, fun pm ctv M A Q E q => ?_⟩
    obtain ⟨k, e1, e2⟩ := h L.qual L.cl pm (.ref L.c) ctv T u
    unfold LF.fd
    rw [e]
    rw [e1]
    refine wpAny_bind (wpAny_seqItems ho hd ?_)
    rw [e2]
    exact wpAny_pure q

/-- the promise of the lambda L at f, its cells holding ws -/
structure LOk (P : Program) (w : World) (K : PySem.W.Frag) (mg : Str → Option Value) (base : Heap) (k : Nat) (f : Addr) (L : LF) (fr : List Str) (dvs : List V) (tl : List (Option V) → XK → Hp → VK → Prop) : Prop where
  run : ∀ (A : Around) (outer : List Env) (s : Shared) (H : Hp) (ws : List (Option V)) (Q : VK) (E : XK), Room k A → Env0 P w K mg base A outer s H → H f = some (LamO f L) → H L.c = some (CodeO L.c L.qual) → DflAt H L.dV dvs →
    CellsAt L.cl fr ws s.heap H → tl ws E H Q → codeAny (model P w) A (.call (.ref f) ⟨[], []⟩) (CR (L2.CX P w) outer P w H s Q E) s
section
variable {P : Program} {w : World} {K : PySem.W.Frag} {mg : Str → Option Value} {base : Heap} {N ps fr : List Str} {L : LF} {f : Addr} {k : Nat} {dvs : List V} {tl : List (Option V) → XK → Hp → VK → Prop}
theorem lok_of (S : NScope N ps fr L.scope) (hb : LBinds L ps dvs) (hl : dvs.length = ps.length)
    (hbody : ∀ (A : Around) (outer : List Env) (s : Shared) (H : Hp) (ws : List (Option V)) (Q : VK) (E : XK), Room k (A.deeper (envF L.nf f s.heap.objs.size)) → ws.length = fr.length → tl ws E H Q →
      ∃ t, PE (ncx (L2.CX P w) P w K mg base N L.nf f A outer s H E) L.body t ∧ t (startF N dvs ws) H Q) : LOk P w K mg base (k + 1) f L fr dvs tl := by
  refine ⟨fun A outer s H ws Q E hr e0 hf hc hd C ht => ?_⟩
  have lim : s.heap.NoLimit := e0.mod.nolimit.keeps fun b o e => (e0.bs b o e).1
  obtain ⟨od, sl, pm, ctv, ho⟩ := lamO_at e0.hok hf
  obtain ⟨us, r, hbi⟩ := hb H P w s e0.hok hd
  obtain ⟨⟨oc, vs, t, hoc, hdc, hvc⟩, _, _⟩ := e0.hok L.c _ hc
  have hus : us.length = ps.length := by rw [← r.length]; exact hl
  refine PySem.W.kla_callFunE hr.depth ho rfl S.co S.gen rfl ⟨L.c, oc, vs, t, rfl, hoc, hdc, hvc⟩ (hbi pm ctv _ _ _ _ ?_)
  refine wpAny_newFunctionEnv S.nocell (fun ⟨n, _⟩ hy => S.par n (List.of_mem_zip hy).1) (fun h₁ hns hsb => ⟨lim.fresh _ hsb, ?_⟩) S.kind
  show codeAny _ _ (.expr L.body (envF L.nf f s.heap.objs.size)) _ _
  have kp : ∀ b o, s.heap.get? b = some o → h₁.get? b = some o := fun b o e => hsb.extBut b o (Nat.ne_of_lt (Heap.lt_size e)) (Heap.get?_push_of_some _ e)
  obtain ⟨t, hp, hq⟩ := hbody A outer s H ws Q E (hr.deeper _) C.len ht
  have I : Inv (ncx (L2.CX P w) P w K mg base N L.nf f A outer s H E) [] (startF N dvs ws) H { s with heap := h₁, toks := s.toks + (ps.zip us).length } := inv_startN (F := L.nf) S hr.hd e0 hl r C hns kp
  refine PySem.W.kla_codeExpr (wpAny_mono (hp.run [] _ _ H Q I hq) (fun u s' hs => ?_) fun e s' hs => hs)
  obtain ⟨v', H', J, rv, q⟩ := hs
  exact ⟨v', H', J.os, J.bare, J.base, J.hok, rv, q⟩
theorem LOk.mono {j : Nat} (o : LOk P w K mg base j f L fr dvs tl) (h : j ≤ k) : LOk P w K mg base k f L fr dvs tl := ⟨fun A outer s H ws Q E hr => o.run A outer s H ws Q E (hr.mono h)⟩
end
/-- what the cells held they hold behind anything that keeps the untracked -/
theorem cells_later {fs ex : List Addr} {cl : List (Str × Addr)} {fr : List Str} {ws : List (Option V)} {h h1 : Heap} {H H1 : Hp} (C : CellsAt cl fr ws h H) (nf : ∀ y c, cl.lookup y = some c → c ∉ fs) (nx : ∀ y c, cl.lookup y = some c → c ∉ ex) (u : Un fs ex H H1 h h1) :
    CellsAt cl fr ws h1 H1 := by
  have kp : ∀ y c, cl.lookup y = some c → ∀ v, h.IsCell c v → h1.IsCell c v := fun y c e v ⟨o, ho, hd⟩ => ⟨o, u.keep c o ho (C.all y c e).1 (nf y c e) (nx y c e), hd⟩
  refine ⟨C.len, fun y c e => ?_, C.inj, fun i y e => ?_⟩
  · obtain ⟨n, v, z⟩ := C.all y c e
    refine ⟨?_, v, kp y c e v z⟩
    obtain ⟨o, ho, _⟩ := z
    exact u.free c o ho n (nx y c e)
  · obtain ⟨c, hc, hv⟩ := C.has i y e
    refine ⟨c, hc, fun v ev => ?_⟩
    obtain ⟨uu, r, z⟩ := hv v ev
    exact ⟨uu, r, kp y c hc _ z⟩
/-- no cell of the running frame is one of the frames that run -/
def Far (X : Cx) : Prop := ∀ y c, X.env.cells.lookup y = some c → c ∉ frs X.stack
theorem far_def {X : Cx} {pins : List (Addr × Obj)} {σ : L2.St} {H : Hp} {s : Shared} (I : Inv X pins σ H s) (hf : ∀ y, X.fn y = true) : Far X := fun y c e hm => by
  rcases List.mem_cons.mp (I.stkSub c hm) with z | z
  · exact I.cne y c e z
  · obtain ⟨_, o, ho, _⟩ := I.ok.funs.mem z
    exact Nat.lt_irrefl _ (Nat.lt_of_lt_of_le (Heap.lt_size ho) (I.ok.cab y c (hf y) e))
/-- what is known where a comprehension's block begins -/
structure Blk0 (X : Cx) (σ : L2.St) (s : Shared) (H : Hp) (cl : List (Str × Addr)) (fp : List Addr) : Prop where
  inv : ∃ pins, Inv X pins σ H s ∧ ∀ b ∈ fp, FpOk X pins H b
  far : Far X → ∀ y c, cl.lookup y = some c → c ∉ frs X.stack
theorem blk_far {X : Cx} {pins : List (Addr × Obj)} {σ : L2.St} {H : Hp} {s : Shared} {scope : Scope} (I : Inv X pins σ H s) (hfree : ∀ y ∈ scope.names, y.2 = .free → ∃ c, X.env.cells.lookup y.1 = some c) (F : Far X) :
    ∀ y c, (cellsFrom (s.heap.objs.size + 1) scope.names (cloFrom X.env.cells scope.names [])).lookup y = some c → c ∉ frs X.stack := fun y c e hm => by
  rw [← Heap.size_push s.heap { cls := .type "dict", data := .dict #[] }] at e
  rcases cells_mem (PySem.mem_of_lookup e) with z | ⟨_, z, _⟩
  · rcases cloFrom_mem z with z | ⟨h1, h2⟩
    · cases z
    · obtain ⟨c1, hc⟩ := hfree _ h1 rfl
      have e2 : c = c1 := by
        rw [h2, hc]
        rfl
      exact F y c (by rw [e2]; exact hc) hm
  · rw [Heap.size_push] at z
    obtain ⟨_, o, ho, _⟩ := I.stack.mem hm
    exact Nat.lt_irrefl _ (Nat.lt_of_lt_of_le (Heap.lt_size ho) (Nat.le_of_succ_le z))
section
variable {X : Cx}
/-- a comprehension whose element may know the state where the block begins -/
theorem pe_lcI {elt tg iter : Expr} {ifs : List Expr} {scope : Scope} {own : List (Str × Nat)} {pos : Pos} {wi : TI} {g : TG} {tt : L2.St → TT} {te : L2.St → TE} (hc : X.calm = true) (hN : X.N.Nodup) (hi : PI X tg iter wi) (ok : BlkOk X.N X.env.scope scope own)
    (hg : ∀ (s : Shared) (H : Hp) (C : Addr) (cl : List (Str × Addr)) (fp : List Addr), PG (X.blk s H scope (compEnvC scope cl C X.env) fp) tg g)
    (ht : ∀ (σ : L2.St) (s : Shared) (H : Hp) (C : Addr) (cl : List (Str × Addr)) (fp : List Addr), Blk0 X σ s H cl fp → PTs (X.blk s H scope (compEnvC scope cl C X.env) fp) ifs (tt σ))
    (he : ∀ (σ : L2.St) (s : Shared) (H : Hp) (C : Addr) (cl : List (Str × Addr)) (fp : List Addr), Blk0 X σ s H cl fp → PE (X.blk s H scope (compEnvC scope cl C X.env) fp) elt (te σ))
    (hs : ∀ x, foldedSetIterable iter X.env x = pure x := by intro _; rfl) :
    PE X (.ListComp elt [⟨tg, iter, ifs, 0⟩] scope pos) (fun σ H Q => tLc wi g (tt σ) (te σ) (own.map (·.2)) σ H Q) := by
  refine ⟨fun pins s σ H Q I h => ?_⟩
  have hfree : ∀ y ∈ scope.names, y.2 = .free → ∃ c, X.env.cells.lookup y.1 = some c := fun y hy e => (ok.free y hy e).elim (fun k => I.ok.has _ (.inl k)) fun k => I.ok.has _ (.inr k)
  rw [eval_ListComp]
  refine wpAny_comprehension_free (use := none) rfl hs (closure_ok hfree) ok.kind (fun y hy e => by rw [ok.uniq y hy, e]) (thn (hi.run pins s σ H _ I h) fun xv s1 hx => thn hx fun itv s2 h2 => ?_)
  obtain ⟨it, fp, tn, J, H2, rfl, I2, T, st2, f2, q⟩ := h2
  refine wpAny_newObj_type (newEnv_comp ?_) (by show 0 ≤ sizeLine; decide)
  have nD : H2 s2.heap.objs.size = none := I2.hok.fresh (Nat.le_refl _)
  obtain ⟨W, ⟨m0, w0⟩, turn⟩ := q _ nD
  generalize hD : s2.heap.objs.size = D at nD w0 turn ⊢
  generalize hs3 : ({ s2 with heap := s2.heap.push { cls := .type "list", data := .seq ([] : List Value).toArray } } : Shared) = s3
  have h3 : s3.heap = s2.heap.push { cls := .type "list", data := .seq ([] : List Value).toArray } := by rw [← hs3]
  have I3 : Inv X pins σ (upd H2 D (.lst [])) s3 := by
    rw [← hs3]
    refine I2.laid (t' := s2.toks) (fun b o e => Heap.get?_push_of_some _ e) (Nat.le_of_eq hD) ⟨Nat.zero_le _, [], 0, .nil, ?_⟩
    rw [← hD]
    exact Heap.get?_push_size _ rfl
  have f3 : ∀ b ∈ fp, FpOk X pins (upd H2 D (.lst [])) b ∧ b < s3.heap.objs.size := fun b hb => by
    obtain ⟨o, e, _⟩ := T.obj _ _ st2 b hb
    have hlt := Heap.lt_size e
    refine ⟨⟨?_, (f2 b hb).2⟩, by rw [h3, Heap.size_push]; exact Nat.lt_succ_of_lt hlt⟩
    rw [upd_ne (by rw [← hD]; exact Nat.ne_of_lt hlt)]
    exact (f2 b hb).1
  have st3 : tn 0 s3.heap := T.keep _ _ _ st2 fun b _ o e => by rw [h3]; exact Heap.get?_push_of_some _ e
  have I4 := block_start I3 ok hN f3
  have K0 : Blk0 X σ s3 (upd H2 D (.lst [])) (cellsFrom (s3.heap.objs.size + 1) scope.names (cloFrom X.env.cells scope.names [])) fp := ⟨⟨pins, I3, fun b hb => (f3 b hb).1⟩, blk_far I3 hfree⟩
  have pg := hg s3 (upd H2 D (.lst [])) s3.heap.objs.size (cellsFrom (s3.heap.objs.size + 1) scope.names (cloFrom X.env.cells scope.names [])) fp
  have pt := ht σ s3 (upd H2 D (.lst [])) s3.heap.objs.size _ fp K0
  have pe := he σ s3 (upd H2 D (.lst [])) s3.heap.objs.size _ fp K0
  have nfp : ∀ b ∈ fp, (upd H2 D (.lst [])) b = none := fun b hb => (f3 b hb).1.1
  have fin0 : ∀ (C : Addr) (s' : Shared) (m : Str → Option Value) (H' : Hp), Inv X pins σ H' s' → Q (.ref D) H' → s'.heap.Ns C m → FpOk X pins H' C →
      compPost (model X.prog X.w) X.A X.xe none (fun u s' => EP X pins σ Q u s') (.ref D) C (.ok .next) s' := fun C s' m H' I' qq hn f =>
    ⟨m, hn, fun h'' sb => ⟨.ref D, H', I'.turned (t' := s'.toks) (fun b o hb e => (sb.2 b hb).trans e) f.1 f.2.1 f.2.2.2.1 f.2.2.2.2.1 f.2.2.2.2.2, rfl, qq⟩⟩
  generalize hce : compEnvC scope (cellsFrom (s3.heap.objs.size + 1) scope.names (cloFrom X.env.cells scope.names [])) s3.heap.objs.size X.env = ce at I4 pg pt pe
  have cL : ce.locals = s3.heap.objs.size := by subst hce; rfl
  generalize hH3 : upd H2 D (.lst []) = H3 at I3 I4 pg pt pe w0 nfp f3
  show codeAny _ _ (.compStart (.ListComp elt [⟨tg, iter, ifs, 0⟩] scope pos) 0 (.ref it) (.ref D) (compEnvC scope (cellsFrom (s3.heap.objs.size + 1) scope.names (cloFrom X.env.cells scope.names [])) s3.heap.objs.size X.env)) (compPost (model X.prog X.w) X.A X.xe none _ (.ref D) s3.heap.objs.size) { s3 with heap := pushCells (s3.heap.push { cls := .type "dict", data := .dict #[] }) scope.names }
  rw [hce]
  generalize hs4 : ({ s3 with heap := pushCells (s3.heap.push { cls := .type "dict", data := .dict #[] }) scope.names } : Shared) = s4 at I4 ⊢
  have st4 : tn 0 s4.heap := T.keep _ _ _ st3 fun b _ o e => by rw [← hs4]; exact pushCells_keeps _ _ _ _ (Heap.get?_push_of_some _ e)
  let Y : Cx := X.blk s3 H3 scope ce fp
  have stat : ∀ {σ' : L2.St} {H' : Hp} {s' : Shared}, Inv Y [] σ' H' s' → (∀ b ∈ fp, H' b = none) → ∀ b ∈ fp, FpOk Y [] H' b := fun {σ' H' s'} I' hn b hb =>
    ⟨hn b hb, (I'.ok.exf b hb).1, I'.ok.exfs b hb, .inl hb, fun x c e => (I'.ok.exf b hb).2 x c e, fun p hp => absurd (show p ∈ ([] : List (Addr × Obj)) ++ [] from hp) (by simp)⟩
  refine codeAny_compStart_list ?loop (T.self X.A 0 _ _ _ st4 ?loop)
  refine compLoop_any (fun n s' => ∃ i H', Inv Y [] (wipe σ (own.map (·.2))) H' s' ∧ tn i s'.heap ∧ (∀ b ∈ fp, H' b = none) ∧ W i n H') ?_ m0 ⟨0, H3, I4, st4, nfp, w0⟩
  rintro n s5 ⟨i, H5, I5, st5, n5, w5⟩
  rcases turn i n H5 w5 with ⟨stop, qq⟩ | ⟨go, Nx, hNx, step⟩
  · refine thnF (T.done Y rfl rfl rfl hc i [] s5 _ H5 (fun _ _ => False) I5 (stat I5 n5) st5 stop) fun r s6 ⟨hr, I6⟩ => ?_
    subst hr
    have I7 : Inv X pins σ H5 s6 := I3.call' (ch := fp) I6.os I6.base I6.hok I6.bare fun b hb => ⟨(f3 b hb).1.2.2.2.1, (f3 b hb).1.2.1, (f3 b hb).1.2.2.2.2.1, (f3 b hb).1.2.2.2.2.2⟩
    have nC : H5 s3.heap.objs.size = none := by
      have z : H5 ce.locals = none := I6.free
      rw [cL] at z
      exact z
    obtain ⟨m, hn, _⟩ := I6.loc
    have hn : s6.heap.Ns ce.locals m := hn
    rw [cL] at hn
    exact fin0 s3.heap.objs.size s6 m H5 I7 qq hn (I3.fpOk (Nat.le_refl _) nC)
  · refine thnF (T.item Y rfl rfl rfl hc i [] s5 _ H5 (fun _ _ => False) I5 (stat I5 n5) st5 go) fun r s6 ⟨u, hr, h6⟩ => ?_
    subst hr
    refine thnF h6 fun _ s7 ⟨x, H7, I7, r7, y7, st7, n7⟩ => ?_
    have I7' := I7.pinned (stat I7 n7) (T.obj _ _ st7)
    refine thnF (pg.run _ s7 _ H7 x u _ I7' r7 (step x H7 y7)) fun _ s8 ⟨σ8, H8, I8, hw8, q8⟩ => ?_
    refine thnF (pt.run _ s8 σ8 H8 _ I8 q8) fun b s9 ⟨H9, I9, q9⟩ => ?_
    have fin : ∀ {s' : Shared} {H' : Hp}, Inv Y ([] ++ pinsAt fp s7.heap) σ8 H' s' → Nx H' → ∃ m, m < n ∧ ∃ i H', Inv Y [] (wipe σ (own.map (·.2))) H' s' ∧ tn i s'.heap ∧ (∀ b ∈ fp, H' b = none) ∧ W i m H' := fun {s' H'} I' nx => by
      obtain ⟨m', hm, w'⟩ := hNx H' nx
      have pin' : ∀ b ∈ fp, ∀ o, s7.heap.get? b = some o → s'.heap.get? b = some o ∧ H' b = none := fun b hb o e =>
        let z := I'.pin (b, o) (List.mem_append_right _ (List.mem_append_right _ (mem_pinsAt hb e)))
        ⟨z.1, z.2.1⟩
      refine ⟨m', hm, i + 1, H', (I'.unpinned (pins := [])).weak (by rw [← hw8, wipe_length]) (fun j v e => ?_), T.keep _ _ _ st7 fun b hb o e => (pin' b hb o e).1, fun b hb => ?_, w'⟩
      · rw [← hw8] at e
        exact (wipe_some e).1
      · obtain ⟨o, e, _⟩ := T.obj _ _ st7 b hb
        exact (pin' b hb o e).2
    cases b with
    | false =>
      simp only [Bool.false_eq_true, if_false] at q9 ⊢
      exact fin I9 q9
    | true =>
      simp only [if_true] at q9 ⊢
      refine thnF (pe.run _ s9 σ8 H9 _ I9 q9) fun z s10 ⟨yv, H10, I10, r10, acc, hD10, hz10, nx⟩ => ?_
      exact app_ok (X := Y) I10 hD10 hz10 r10 fun s11 I11 => fin I11 nx
end
end Sv


set_option maxHeartbeats 4000000
/-! a def that is handed a lambda and calls it -/
namespace Sv
open PySem PySem.Spec PyProof.Rows L2 LamX NdefX

/-- at this state the lambda stands at f, its cells hold ws -/
structure LamAt (P : Program) (w : World) (K : PySem.W.Frag) (mg : Str → Option Value) (base : Heap) (k : Nat) (fs : List Addr) (s : Shared) (H : Hp) (f : Addr) (L : LF) (fr : List Str) (dvs : List V) (ws : List (Option V)) (tl : List (Option V) → XK → Hp → VK → Prop) : Prop where
  fn : H f = some (LamO f L)
  code : H L.c = some (CodeO L.c L.qual)
  dfl : DflAt H L.dV dvs
  ok : LOk P w K mg base k f L fr dvs tl
  cells : CellsAt L.cl fr ws s.heap H
  far : ∀ y c, L.cl.lookup y = some c → c ∉ fs
section
variable {CXg : CXT} {P : Program} {w : World} {K : PySem.W.Frag} {mg : Str → Option Value} {base : Heap} {Ng : List Str} {qg : Str} {sg : Scope} {g : Addr} {cdg : Value} {A : Around} {outer : List Env} {s : Shared} {H : Hp} {Eg : XK}
  {k i : Nat} {a : Str} {pn : List (Addr × Obj)} {xe : Value → Shared → Prop} {W : WX} {E : XK} {f : Addr} {L : LF} {fr : List Str} {dvs : List V} {ws : List (Option V)} {tl : List (Option V) → XK → Hp → VK → Prop} {p1 p2 : Pos}
/-- x() in the def that was handed the lambda -/
theorem pe_actL (LA : LamAt P w K mg base k (frs outer) s H f L fr dvs ws tl) (tk : Takes ((cxOf CXg P w K mg base Ng qg sg g cdg A outer s H Eg).tr pn xe) W)
    (hr : Room k (A.deeper (envOfC qg sg s.heap.objs.size g cdg))) (hN : Ng[i]? = some a) (hv : Vis sg a) (hd : (a == ("__debug__" : Str)) = false := by decide) (hcd : (a == ("__classdict__" : Str)) = false := by decide) :
    PE ((cxOf CXg P w K mg base Ng qg sg g cdg A outer s H Eg).tr pn xe) (.Call (.Name a p1) [] [] p2)
      (fun σZ HZ Q => σZ[i]? = some (some (.ref f)) ∧ HZ f = some (LamO f L) ∧ HZ L.c = some (CodeO L.c L.qual) ∧ DflAt HZ L.dV dvs ∧ ∃ (E' : XK) (Q' : VK), (∀ cls d H', E' cls d H' → W cls d σZ H') ∧ (∀ v H', Q' v H' → Q v H') ∧ tl ws E' HZ Q') := by
  refine ⟨fun pinsZ sZ σZ HZ Q IZ ⟨hs, h1, h2, h3, E', Q', hE, hQ, h4⟩ => ?_⟩
  refine wpAny_Call_Name_kw (thn ((pe_var (pos := p1) hN hv hd hcd).run pinsZ sZ σZ HZ (fun v H1 => v = .ref f ∧ H1 = HZ) IZ ⟨.ref f, hs, rfl, rfl⟩) fun u s1 ⟨v, H1, I1, r1, e1, e2⟩ => ?_)
  subst e1
  subst e2
  obtain rfl : u = Value.ref f := r1
  obtain ⟨od, sl, pm, ctv, ho⟩ := lamO_at I1.hok h1
  refine PySem.W.callWith_F0 ⟨_, _, _, _, ho⟩ ?_
  have C1 : CellsAt L.cl fr ws s1.heap H1 := cells_later (fs := frs outer) (ex := []) LA.cells LA.far (fun y c e z => nomatch z) I1.base
  refine wpAny_call (codeAny_mono (LA.ok.run _ _ s1 H1 ws Q' E' hr I1.env0 h1 h2 h3 C1 h4) fun r s' hq => ?_)
  cases r with
  | error e => exact tk e s' (XE.of_call I1 hE hq)
  | ok fl =>
    cases fl with
    | ret u =>
      obtain ⟨v', H', J, rv, q⟩ := I1.after hq
      exact ⟨v', H', J, rv, hQ _ _ q⟩
    | next => exact False.elim hq
    | brk => exact False.elim hq
    | cont => exact False.elim hq
end
/-- a def of one parameter, its promise told of the very state -/
structure FnSt (P : Program) (w : World) (K : PySem.W.Frag) (mg : Str → Option Value) (base : Heap) (k : Nat) (g : Addr) (Kn : List Addr → Shared → Hp → V → VK → Prop) : Prop where
  run : ∀ (A : Around) (outer : List Env) (s : Shared) (H : Hp) (u : Value) (v : V) (Q : VK), Room k A → Env0 P w K mg base A outer s H → RelV v u → Kn (frs outer) s H v Q → codeAny (model P w) A (.call (.ref g) ⟨[u], []⟩) (CR CX0 outer P w H s Q E0) s
theorem fnst_of {P : Program} {w : World} {K : PySem.W.Frag} {mg : Str → Option Value} {base : Heap} {x : Str} {st : Stmt} {g : Addr} {fd : FuncData} {N : List Str} {a : Str} {k : Nat} {Kn : List Addr → Shared → Hp → V → VK → Prop}
    (F : Fun K x x st g fd) (S : FnScope N [a] (defScope st)) (hb : Binds K fd [a] [])
    (hbody : ∀ (cdv : Value) (A : Around) (outer : List Env) (s : Shared) (H : Hp) (v : V) (Q : VK), Room k (A.deeper (envOfC x (defScope st) s.heap.objs.size g cdv)) → Env0 P w K mg base A outer s H → Kn (frs outer) s H v Q →
      ∃ t, PSs (cxOf CX0 P w K mg base N x (defScope st) g cdv A outer s H E0).nox (defBody st) t ∧ t { nx := fun _ H' => Q .non H', rt := Q } (L2.start N [v]) H) : FnSt P w K mg base (k + 1) g Kn := by
  obtain ⟨oc, od, kV, doc, pm, an, cdv, ct, osl, rfl, lk, hcd⟩ := F.ex
  refine ⟨fun A outer s H u v Q hr e0 r hk => ?_⟩
  refine run_ofS (N := N) (ps := [a]) (us := [u]) (vs := [v]) lk hcd S hr e0 (hb s [u] (e0.mod.kin.keeps fun b o e => (e0.bs b o e).1) rfl) (.cons r .nil) rfl fun hr' => ?_
  obtain ⟨t, ht, hq⟩ := hbody cdv A outer s H v Q hr' e0 hk
  exact ⟨t, ht.nox, hq⟩
section
variable {Y : Cx} {x : Str} {g : Addr} {e : Expr} {te : TE} {k : Nat} {p pos : Pos} {Kn : List Addr → Shared → Hp → V → VK → Prop}
/-- its call -/
theorem pe_callSt (G : FnSt Y.prog Y.w Y.K Y.mg Y.base k g Kn) (hr : Room k Y.A) (hg : Gl Y x) (hm : Y.mg x = some (.ref g)) (hk : PySem.W.keepIn Y.K (.ref g) = true) (he : PE Y e te) (hdb : (x == ("__debug__" : Str)) = false := by decide)
    (hst : starEach [e] Y.env = (false, eval e Y.env) :: starEach [] Y.env := by rfl) : PE Y (.Call (.Name x p) [e] [] pos) (fun σ H Q => te σ H fun v H1 => ∀ pins s, Inv Y pins σ H1 s → Kn (frs Y.stack) s H1 v Q) := by
  refine ⟨fun pins s σ H Q I h => ?_⟩
  refine wpAny_Call_Name_kw (ld_glob I hg hm ?_ hdb)
  refine PySem.W.callWith_K (h₀ := Y.base) I.ok.mod.kin hk (thn ((pa_cons he pa_nil hst).run pos pins s σ H (fun vs H1 => match vs with | [v] => ∀ pins s, Inv Y pins σ H1 s → Kn (frs Y.stack) s H1 v Q | _ => False) I h) fun us s1 ⟨vs, H1, I1, r, q⟩ => ⟨I1.kIn, ?_⟩) hst (by rfl)
  match vs, r, q with
  | [v], r, q =>
    obtain ⟨u, rfl, ru⟩ := Vals.one r
    refine wpAny_call (codeAny_mono (G.run Y.A Y.stack s1 H1 u v Q hr I1.env0 ru (q pins s1 I1)) fun r s' hq => ?_)
    cases r with
    | error e => exact (show False from hq).elim
    | ok fl =>
      cases fl with
      | ret u => exact I1.after hq
      | next => exact False.elim hq
      | brk => exact False.elim hq
      | cont => exact False.elim hq
  | [], _, q => exact q.elim
  | _ :: _ :: _, _, q => exact q.elim
end
end Sv


set_option maxHeartbeats 4000000
/-! a few more rules: enumerate of a tuple, lcm, len(set(tuple)), a count of truth values -/
namespace Sv
open PySem PySem.Spec PyProof.Rows L2
section
open AutoSeq1 (wpAny_loadPart')
theorem enum_newT (l : Addr) (items : Array Value) (n : Nat) (dct : Option Addr) (sl : Array (Option Value)) :
    Meets (Builtin.«enumerate.__new__» ⟨[.type "enumerate", .ref l], []⟩) (fun _ R s => s.heap.get? l = some { cls := .type "tuple", dict := dct, data := .seq items n, slots := sl } ∧
      R (.ok (.ret (.ref (s.heap.push { cls := .type "tuple_iterator", data := .fields #[.ref l, .int 0 0] }).objs.size)))
        { s with heap := (s.heap.push { cls := .type "tuple_iterator", data := .fields #[.ref l, .int 0 0] }).push { cls := .type "enumerate", data := .fields #[.none, .bool false, .ref s.heap.objs.size, rawInt 0, .none, .none] } }) :=
  .of_wp fun prog w A R s h => by
    obtain ⟨hp, g, d, tk, os⟩ := s
    obtain ⟨hl, h⟩ := h
    have hsub := sub_enumerate
    have hL : Heap.IsTuple (Shared.heap ⟨hp, g, d, tk, os⟩) l items := ⟨_, hl, rfl, n, rfl⟩
    wp_walk using wpAny_loadPart' hl
    refine wpAny_stack_any fun st => wpAny_pure ?_
    split
    · rename_i c _ _ _ _ _
      cases (c == Value.type "enumerate")
      · wp_walk using wpAny_loadPart' hl, wpAny_pyIter_tuple hL
        exact ⟨_, rfl, h⟩
      · wp_walk using wpAny_loadPart' hl, wpAny_pyIter_tuple hL
        exact ⟨_, rfl, h⟩
    · wp_walk using wpAny_loadPart' hl, wpAny_pyIter_tuple hL
      exact ⟨_, rfl, h⟩
end
section
variable {prog : Program} {w : World} {A : Around} {E : Value → Shared → Prop} {s : Shared}
theorem call_enumT {l : Addr} {items : Array Value} {Q : Value → Shared → Prop} (hL : s.heap.IsTuple l items)
    (h : ∀ h', IsEnum h' (s.heap.objs.size + 1) s.heap.objs.size 0 .none → h'.IsTupleIter s.heap.objs.size l 0 → h'.objs.size = s.heap.objs.size + 2 → (∀ b o, s.heap.get? b = some o → h'.get? b = some o) → Q (.ref (s.heap.objs.size + 1)) { s with heap := h' }) :
    wpAny (model prog w) A (call (.type "enumerate") [.ref l]) Q E s := by
  obtain ⟨⟨c, dct, dt, sl⟩, hl, hc, n, hd⟩ := hL
  obtain rfl : c = .type "tuple" := hc
  obtain rfl : dt = .seq items n := hd
  refine callType_new F.called_enumerate (by decide) (F.typeCall_enumerate_1 _) (F.newCall_enumerate_1 _) (fun obj => F.args_object_init_2 obj _) F.entry_enumerate_new (enum_newT l items n dct sl) ⟨hl, ?_⟩
  have hz : ∀ o : Obj, (s.heap.push o).objs.size = s.heap.objs.size + 1 := fun o => Heap.size_push ..
  have g2 : ∀ (o1 o2 : Obj), o2.isFreed = false → ((s.heap.push o1).push o2).get? (s.heap.objs.size + 1) = some o2 := fun o1 o2 e => by
    have q := Heap.get?_push_size (s.heap.push o1) (o := o2) e
    rw [hz] at q
    exact q
  show _ ∧ _
  rw [hz]
  refine ⟨⟨_, g2 _ _ rfl, rfl⟩, h _ (g2 _ _ rfl) ⟨_, Heap.get?_push_of_some _ (Heap.get?_push_size _ rfl), rfl, rfl⟩ (by rw [Heap.size_push, hz]) fun b o y => Heap.get?_push_of_some _ (Heap.get?_push_of_some _ y)⟩
end
/-- a tuple's items with their numbers, each in a new pair -/
def IteT (K : PySem.W.Frag) (a : Addr) : It :=
  ⟨fun i H => ∃ (xs : List V) (x : V), SqT K H a xs ∧ xs[i]? = some x, fun i H v H' => ∃ T x, v = .ref T ∧ H T = none ∧ H' = upd H T (.tup [.int (i : Nat), x]) ∧ ∀ xs, SqT K H a xs → xs[i]? = some x,
    fun i H => ∃ xs : List V, SqT K H a xs ∧ i = xs.length⟩
theorem turn_enumT {P : Program} {w : World} {K : PySem.W.Frag} {elts : List Expr} {kk : Nat} {tpos : Pos} (a e it : Addr) (hai : a ≠ it) (hea : e ≠ a) :
    Turn P w K (.Tuple elts kk tpos) (IteT K a) [e, it] e (fun i h => (∃ old, IsEnum h e it ((i : Nat) : Int) old) ∧ h.IsTupleIter it a i ∧ e ≠ it) where
  mem := by simp
  obj := fun i h st b hb => by
    obtain ⟨⟨old, he⟩, ⟨o, ho, hc, hd⟩, _⟩ := st
    rcases (by simpa using hb : b = e ∨ b = it) with z | z
    · subst z
      exact ⟨_, he, fun v q => nomatch q⟩
    · subst z
      exact ⟨o, ho, fun v q => by rw [hd] at q; cases q⟩
  keep := fun i h h' st k => ⟨st.1.elim fun old he => ⟨old, k e (by simp) _ he⟩, st.2.1.at fun o q => k it (by simp) o q, st.2.2⟩
  item := by
    intro X hP hw hK hc i pins s σ H E I hf st hg
    subst hP hw hK
    obtain ⟨⟨old, he⟩, hit, hne⟩ := st
    obtain ⟨xs, x, hq, hx⟩ := hg
    obtain ⟨its, rv, p, hz⟩ := I.tuple hq
    obtain ⟨u, hu, ru⟩ := rv.get hx
    have hi : i < its.toArray.size := by
      obtain ⟨hlt, _⟩ := List.getElem?_eq_some_iff.mp hu
      simpa using hlt
    have hel : e < s.heap.objs.size := Heap.lt_size he
    have hil : it < s.heap.objs.size := by obtain ⟨_, q, _⟩ := hit; exact Heap.lt_size q
    have hh : X.A.in1.handled = none := by
      have := I.ok.hd hc
      simpa using this
    refine wpAny_pyNext_enum_itemD (Draws.tuple hh it a hai its.toArray) he ⟨hit, p⟩ hi hne (by simp; exact ⟨hne, hea⟩) fun y h' tk hy ho hst' hT hsz hk => ?_
    obtain rfl : y = u := by
      have q : its.toArray[i]? = some y := hy
      rw [show its.toArray[i]? = some u by simpa using hu] at q
      exact (Option.some.inj q).symm
    refine ⟨_, rfl, wpAny_letOwnedTupleGo_enum (s := { s with heap := h', toks := tk + 1 }) ho fun h'' he' sb => ?_⟩
    have hT2 : h''.get? s.heap.objs.size = some { cls := .type "tuple", data := .seq #[.int i tk, y] } := (sb.2 _ (Nat.ne_of_gt hel)).trans hT
    have new : ObjOk X.prog X.w (upd H s.heap.objs.size (.tup [.int (i : Nat), x])) h'' s.heap.objs.size (.tup [.int (i : Nat), x]) :=
      ⟨by show 2 ≤ sizeLine; decide, [.int i tk, y], .cons ⟨_, rfl⟩ (.cons ru .nil), ⟨_, hT2, rfl, _, rfl⟩⟩
    have I1 : Inv X pins σ (upd H s.heap.objs.size (.tup [.int (i : Nat), x])) { s with heap := h'', toks := tk + 1 } :=
      I.turnedNew (ch := [e, it]) (fun b ob hb q => (sb.2 b (fun z => hb (by simp [z]))).trans (hk b ob (fun z => hb (by simp [z])) (fun z => hb (by simp [z])) q)) hf (Nat.le_refl _) new
    refine ⟨.ref s.heap.objs.size, _, I1, rfl, ⟨_, x, rfl, I.hok.fresh (Nat.le_refl _), rfl, fun ys hy => by rw [I.tuple_inj hy hq]; exact hx⟩, ⟨⟨y, ?_⟩, hst'.1.at fun o q => (sb.2 it (Ne.symm hne)).trans q, hne⟩, fun b hb => ?_⟩
    · rw [show ((i + 1 : Nat) : Int) = (i : Int) + 1 by omega]
      exact he'
    · have hb' : b < s.heap.objs.size := by
        rcases (by simpa using hb : b = e ∨ b = it) with z | z
        · rw [z]; exact hel
        · rw [z]; exact hil
      rw [upd_ne (Nat.ne_of_lt hb')]
      exact (hf b hb).1
  done := by
    intro X hP hw hK hc i pins s σ H E I hf st hg
    subst hP hw hK
    obtain ⟨⟨old, he⟩, hit, hne⟩ := st
    obtain ⟨xs, hq, hx⟩ := hg
    obtain ⟨its, rv, p, hz⟩ := I.tuple hq
    obtain ⟨f0, f1, f2, f3, f4, f5⟩ := hf it (by simp)
    have hl := rv.length
    have hh : X.A.in1.handled = none := by
      have := I.ok.hd hc
      simpa using this
    refine wpAny_pyNext_enum_endD (Draws.tuple hh it a hai its.toArray) he ⟨?_, p⟩ fun h' eb => ⟨rfl, I.turned (t' := s.toks) (fun b o hb q => eb b o hb q) f0 f1 f3 f4 f5⟩
    rw [List.size_toArray, ← hl, ← hx]
    exact hit
  self := fun A i s Q E st h => let ⟨⟨_, he⟩, _⟩ := st; wpAny_pyIter_enum he h
def iEnumT (K : PySem.W.Frag) (ta : TA) : TI := fun σ H R => ta σ H fun vs H1 => ∃ a xs, vs = [.ref a] ∧ SqT K H1 a xs ∧ R (IteT K a) H1
theorem pi_enumT {X : Cx} {e : Expr} {ta : TA} {p pos tpos : Pos} {elts : List Expr} {kk : Nat} (hg : Gl X "enumerate") (hm : X.mg "enumerate" = none) (ha : PA X [e] ta) (hs : starEach [e] X.env = [(false, eval e X.env)] := by rfl) :
    PI X (.Tuple elts kk tpos) (.Call (.Name "enumerate" p) [e] [] pos) (iEnumT X.K ta) := by
  refine ⟨fun pins s σ H R I h => ?_⟩
  refine Call_ (ld_blt I hg hm boot_enumerate (PyProof.Rows.callWith_type1 (thn (ha.run pos pins s σ H _ I h) fun us s1 ⟨vs, H1, I1, r1, a, xs, ex, hq, q⟩ => ?_) hs rfl))
  subst ex
  obtain rfl := r1.ref1
  obtain ⟨its, rv, p', hz⟩ := I1.tuple hq
  have hal : a < s1.heap.objs.size := (let ⟨_, q, _⟩ := p'; Heap.lt_size q)
  refine call_enumT p' fun h' he hit hsz hk => wpAny_pyIter_enum he ?_
  have I2 : Inv X pins σ H1 { s1 with heap := h' } := I1.kept (t' := s1.toks) hk
  refine ⟨s1.heap.objs.size + 1, [s1.heap.objs.size + 1, s1.heap.objs.size], _, _, H1, rfl, I2, turn_enumT a (s1.heap.objs.size + 1) s1.heap.objs.size (Nat.ne_of_lt hal) (Nat.ne_of_gt (Nat.lt_succ_of_lt hal)), ⟨⟨.none, he⟩, hit, Nat.succ_ne_self _⟩, fun b hb => ?_, q⟩
  have hle : s1.heap.objs.size ≤ b := by
    rcases (by simpa using hb : b = s1.heap.objs.size + 1 ∨ b = s1.heap.objs.size) with z | z
    · rw [z]; exact Nat.le_add_right _ _
    · rw [z]; exact Nat.le_refl _
  exact I1.fpOk hle (I1.hok.fresh hle)
theorem for_enumT {K : PySem.W.Frag} {a : Addr} {xs : List V} {g : TG} {tb : TS} {D : Ends} {σ : L2.St} {H : Hp} (Pv : Nat → L2.St → Hp → Prop) (h0 : Pv 0 σ H) (hl : ∀ i σ H, i ≤ xs.length → Pv i σ H → SqT K H a xs)
    (turn : ∀ i x σ H T, xs[i]? = some x → Pv i σ H → H T = none → g (.ref T) σ (upd H T (.tup [.int (i : Nat), x])) fun σ' H' => tb { nx := fun σ2 H2 => Pv (i + 1) σ2 H2, rt := D.rt, bk := D.nx, ct := fun σ2 H2 => Pv (i + 1) σ2 H2 } σ' H')
    (after : ∀ σ H, Pv xs.length σ H → D.nx σ H) : ∃ W : Nat → Nat → L2.St → Hp → Prop, (∃ m, W 0 m σ H) ∧ ∀ i m σ H, W i m σ H →
      ((IteT K a).stop i H ∧ D.nx σ H) ∨ ((IteT K a).go i H ∧ ∃ Nx : L2.St → Hp → Prop, (∀ σ' H', Nx σ' H' → ∃ m', m' < m ∧ W (i + 1) m' σ' H') ∧ ∀ x H', (IteT K a).yld i H x H' → g x σ H' fun σ2 H2 => tb { nx := Nx, rt := D.rt, bk := D.nx, ct := Nx } σ2 H2) := by
  refine ⟨fun i m σ H => i + m = xs.length ∧ Pv i σ H, ⟨xs.length, Nat.zero_add _, h0⟩, fun i m σ H ⟨em, hP⟩ => ?_⟩
  have hS := hl i σ H (by omega) hP
  by_cases hi : i < xs.length
  · have gx : xs[i]? = some xs[i] := List.getElem?_eq_getElem hi
    refine .inr ⟨⟨xs, _, hS, gx⟩, fun σ' H' => Pv (i + 1) σ' H', fun σ' H' h => ⟨m - 1, by omega, by omega, h⟩, fun x H' hy => ?_⟩
    obtain ⟨T, y, rfl, nT, rfl, hy⟩ := hy
    have ey : y = xs[i] := Option.some.inj ((hy xs hS).symm.trans gx)
    rw [ey]
    exact turn i _ σ H T gx hP nT
  · have e : i = xs.length := by omega
    refine .inl ⟨⟨xs, hS, e⟩, after σ H ?_⟩
    rw [← e]
    exact hP

/-! ### lcm -/
def rLcm : List V → Hp → VK → Prop := fun vs H Q => ∃ a b : Nat, vs = [.int a, .int b] ∧ a < 2 ^ 64 ∧ b < 2 ^ 64 ∧ Q (.int ((Nat.lcm a b : Nat) : Int)) H
theorem cr_lcm {X : Cx} : CallR X (.builtin "math.lcm") rLcm := by
  intro pins s σ H vs us Q I r h
  obtain ⟨a, b, rfl, ha, hb, q⟩ := h
  obtain ⟨t, u, rfl⟩ := Vals.int2 r
  exact PySem.W.mc_lcm (by simpa using ha) (by simpa using hb) fun _ => ⟨.int _, H, I.tok _, ⟨_, rfl⟩, by simpa using q⟩
/-! ### len(set(t)), t a tuple of ints -/
theorem nodup_sub_len : ∀ {l m : List Int}, l.Nodup → (∀ x ∈ l, x ∈ m) → l.length ≤ m.length
  | [], _, _, _ => Nat.zero_le _
  | x :: r, m, nd, h => by
    have hx : x ∈ m := h x (List.mem_cons_self ..)
    have nr := (List.nodup_cons.mp nd)
    have ih := nodup_sub_len (l := r) (m := m.erase x) nr.2 fun y hy => (List.mem_erase_of_ne (fun e => nr.1 (by rw [← e]; exact hy))).mpr (h y (List.mem_cons_of_mem _ hy))
    rw [List.length_erase_of_mem hx] at ih
    have : 0 < m.length := List.length_pos_of_mem hx
    show r.length + 1 ≤ m.length
    omega
theorem nodup_of_len : ∀ {l m : List Int}, m.Nodup → (∀ x ∈ m, x ∈ l) → l.length ≤ m.length → l.Nodup
  | [], _, _, _, _ => List.nodup_nil
  | x :: r, m, nd, h, hl => by
    have hx : x ∉ r := fun hm => by
      have q := nodup_sub_len (l := m) (m := r) nd fun y hy => (List.mem_cons.mp (h y hy)).elim (fun e => by rw [e]; exact hm) id
      simp at hl
      omega
    refine List.nodup_cons.mpr ⟨hx, nodup_of_len (m := m.erase x) (nd.erase x) (fun y hy => ?_) ?_⟩
    · have hm := List.mem_of_mem_erase hy
      rcases List.mem_cons.mp (h y hm) with e | e
      · rw [e] at hy
        exact absurd hy (nd.not_mem_erase)
      · exact e
    · by_cases hm : x ∈ m
      · rw [List.length_erase_of_mem hm]
        simp at hl
        omega
      · rw [List.erase_of_not_mem hm]
        simp at hl
        omega
/-- how many: all of them, just where none stands twice -/
def tLenSetT (K : PySem.W.Frag) (ta : TE) : TE := fun σ H Q => ta σ H fun x H1 => ∃ (l : Addr) (ns : List Int), x = .ref l ∧ SqT K H1 l (ns.map V.int) ∧ ns.length ≤ 4000 ∧ ∀ c : Nat, c ≤ ns.length → (c = ns.length ↔ ns.Nodup) → Q (.int c) H1
theorem pe_lenSetT {X : Cx} {a : Expr} {ta : TE} {p p2 q pos : Pos} (hg : Gl X "len") (hm : X.mg "len" = none) (hg2 : Gl X "set") (hm2 : X.mg "set" = none) (ha : PE X a ta) (hc : X.calm = true := by rfl)
    (na : starEach [a] X.env = (false, eval a X.env) :: starEach [] X.env := by rfl) : PE X (.Call (.Name "len" p) [.Call (.Name "set" p2) [a] [] q] [] pos) (tLenSetT X.K ta) := by
  refine ⟨fun pins s σ H Q I h => Call_ (ld_blt I hg hm boot_len ?_)⟩
  refine PyProof.Rows.callWith_builtin1 (PyProof.Rows.args_cons (Call_ (ld_blt I hg2 hm2 boot_set ?_)) rfl) rfl rfl
  refine PyProof.Rows.callWith_type1 (PyProof.Rows.args_cons (thn (ha.run pins s σ H _ I h) fun v s1 ⟨x, H1, I1, r1, q1⟩ => PyProof.Rows.args_nil ?_) na) na rfl
  obtain ⟨l, ns, rfl, hq, hl, q1⟩ := q1
  cases r1
  obtain ⟨its, r, pl, hz⟩ := I1.tuple hq
  refine call_set_tupI ns (I1.ok.hd hc) pl (by simpa using RZ.intsAre_vals r) (by unfold scanBound; omega) fun h' tk c hS hcl hk => PyProof.Rows.args_nil ?_
  obtain ⟨o, es, ep, t, ho, hex, hd, _, nd, hmem, _, hf, hn, _⟩ := hS
  have I2 : Inv X pins σ H1 { s1 with heap := h', toks := tk } := I1.kept hk
  have hmm : ∀ k, k ∈ es.toList.map keyOf ↔ k ∈ ns := fun k => by rw [← hmem k]; exact decide_eq_true_iff
  have hlen : (es.toList.map keyOf).length = c := by rw [List.length_map, Array.length_toList]; exact hn
  refine call_len_set ho hex hd hf (by rw [hn] <;> omega) ⟨.int c, H1, I2.tok _, ⟨_, by rw [hn]⟩, q1 c hcl ⟨fun e => ?_, fun e => ?_⟩⟩
  · exact nodup_of_len nd (fun x hx => (hmm x).mp hx) (by rw [hlen, e]; exact Nat.le_refl _)
  · have q := nodup_sub_len e fun x hx => (hmm x).mpr hx
    rw [hlen] at q
    omega
/-! ### xs.count(y), y and the items plain -/
theorem count_eqU {x : V} : ∀ {xs : List V} {us : List Value}, Vals xs us → xs.all flatV = true → us.countP (eqU x) = xs.countP fun y => eqV y x
  | _, _, .nil, _ => rfl
  | y :: xs, u :: us, .cons r t, f => by
    rw [List.all_cons, Bool.and_eq_true] at f
    rw [List.countP_cons, List.countP_cons, count_eqU t f.2, eqU_of r f.1]
def rCntV (K : PySem.W.Frag) : V → List V → Hp → VK → Prop := fun x xs H Q => ∃ (p : Addr) (ys : List V) (y : V), x = .ref p ∧ xs = [y] ∧ SqL K H p ys ∧ flatV y = true ∧ ys.all flatV = true ∧ Q (.int (ys.countP fun z => eqV z y : Nat)) H
theorem mt_countV {X : Cx} : MtR X "list.count" (rCntV X.K) := by
  intro pins s σ H x xs v us Q I rx rxs h
  obtain ⟨p, ys, y, rfl, rfl, hs, fy, fys, q⟩ := h
  cases rx
  obtain ⟨u, rfl, ru⟩ := rxs.one
  obtain ⟨its, rv, ⟨⟨cls, dd, data, sl⟩, n, ho, hc, hdn, hd⟩, hlen⟩ := I.list hs
  simp only at hc hd
  subst hc hd
  refine call_meets PySem.F.slot_list_count ⟨_, ho, rfl⟩ PySem.F.entry_list_count (PySem.F.args_list_count_2 _ _)
    (SeqAt.list_countAt p its.toArray n dd sl u (eqU y)) ⟨ho, fun u' hu' => mem_eqAt ru fy rv fys u' (by simpa using hu'), ?_⟩
  refine ⟨.int (ys.countP fun z => eqV z y : Nat), H, I.tok _, ⟨s.toks, ?_⟩, q⟩
  rw [← count_eqU rv fys]
end Sv


set_option maxHeartbeats 4000000
namespace Sv
open PySem PySem.Spec PyProof.Rows L2
def topS (i : Nat) : Stmt := PySem.Challenge.pw_swapshelves_k01_plans_validated.main.body.getD i (.Pass ⟨0, 0, 0, 0⟩)
abbrev sInvalidPlan : Stmt := topS 3
abbrev sWithin : Stmt := topS 19
abbrev sPattern : Stmt := topS 25
abbrev sVisits : Stmt := topS 26
abbrev sPlaces : Stmt := topS 27
abbrev sCheckPlan : Stmt := topS 28
abbrev sCheckSizes : Stmt := topS 29
abbrev sCheckRoutes : Stmt := topS 30
abbrev sIsRoute : Stmt := topS 31
abbrev sPlacesOf : Stmt := topS 32
abbrev sNumPlaces : Stmt := topS 33
abbrev sVisitsIn : Stmt := topS 34
abbrev sCommon : Stmt := topS 35
abbrev sRoutePat : Stmt := topS 36
abbrev sSplit : Stmt := topS 38
abbrev sInitial : Stmt := topS 40
abbrev sStateOf : Stmt := topS 41
abbrev sMix : Stmt := topS 43
abbrev sNext : Stmt := topS 44
abbrev sAlike : Stmt := topS 45
abbrev sError : Stmt := topS 46
abbrev sPlan : Stmt := topS 47
abbrev sFirstBad : Stmt := topS 49
abbrev sSpoilt : Stmt := topS 50
abbrev sMeetings : Stmt := topS 51
abbrev sLaw : Stmt := topS 52
end Sv



set_option maxHeartbeats 4000000
/-! an exception class of the program whose __init__ begins with super().__init__(..) -/
namespace Sv
open PySem PySem.Spec PyProof.Rows L2 NdefX
section
open PySem.W PySem.Calls
variable {prog : Program} {w : World} {A : Around} {E : Value → Shared → Prop} {h : Heap} {g : Array GenState} {d : Drawn} {t : Nat} {os : OsState}
variable {nm q : Str} {C N : Addr} {bs bm : List Value} {hdct : Bool} {sn : List Str} {sub : List Value} {ab : Bool} {col : Option Bool} {dd : Option Addr} {k0 k1 k2 k3 k5 : Option Value}
/-- the bound ValueError.__init__, called -/
theorem call_mw {u e t0 : Addr} {rest : List Value} {Q : Value → Shared → Prop}
    (hC : h.get? C = some (excClassObj nm q C N bs bm hdct sn sub ab col dd k0 k1 k2 k3 k5 "ValueError.__new__")) (he : h.get? e = some (HandSPX.excO C t0)) (hu : h.get? u = some (kxs_mw "ValueError.__init__" e)) (hrest : rest.length ≤ sizeLine)
    (hq : ∀ h' t1, (∀ b o, b ≠ e → h.get? b = some o → h'.get? b = some o) → h'.get? e = some (HandSPX.excO C t1) → Q .none ⟨h', g, d, t, os⟩) :
    wpAny (model prog w) A (call (.ref u) rest) Q E ⟨h, g, d, t, os⟩ := by
  refine wpAny_call (codeAny_of_tree ?_)
  show wpAny _ A.in1 (callAny (.ref u) ⟨rest, []⟩) _ _ _
  simp only [callAny]
  refine wpAny_bind (wpAny_load hu ?_)
  simp only [kxs_mw, show (Value.type "method-wrapper" == Value.type "method" || Value.type "method-wrapper" == Value.type "builtin_function_or_method" || Value.type "method-wrapper" == Value.type "method-wrapper") = true by decide, if_true]
  refine W.KFB.if_so (by decide) ?_
  refine wpAny_bind (ESX.check_bound F.excBase_ValueError hC he rfl ?_)
  refine wpAny_bind (wpAny_pure (wpAny_pure ?_))
  refine ⟨Code.quiet_builtin _ (by decide +kernel), codeAny_builtin F.excBase_ValueError.initEntry ?_⟩
  rw [Around.under_plainId F.excBase_ValueError.init.plain _]
  wp_walk
  refine hq _ h.objs.size (fun b o hb ho => ?_) ?_
  · rw [Heap.get?_update_other _ _ (Ne.symm hb)]
    exact Heap.get?_push_of_some _ ho
  · rw [Heap.get?_update_self _ (Heap.get?_push_of_some _ he) rfl]
    rfl
end
/-- what is asked of such a class and of its __init__ -/
structure SupF (P : Program) (K : PySem.W.Frag) (mg : Str → Option Value) (C fI cc : Addr) (F : NF) (ar : Arg) : Prop where
  T : OexC K C
  cl : F.cl = [(("__class__" : Str), cc)]
  cell : ∃ cl cld csl, K.lookup cc = some ⟨cl, cld, .cell (some (.ref C)), csl⟩
  code : PySem.W.codeIn K (.ref F.c) F.qual = true
  file : ∃ (ccl : Value) (cdd : Option Addr) (vs : Array Value) (ccs : Array (Option Value)) (fl : Str) (tf : Tok), K.lookup F.c = some ⟨ccl, cdd, .fields vs, ccs⟩ ∧ vs[2]? = some (.str fl tf) ∧ ((P.main.file : Str) == fl) = true
  top : (P.main.scope.names.lookup ("super" : Str)).isSome = false
  sup : mg "super" = none
  ks : F.scope.names.lookup ("super" : Str) = some .globalImplicit
  kc : F.scope.names.lookup ("__class__" : Str) = some .free
  hp : (F.params.posonlyargs ++ F.params.args).head? = some ar
  hs : PySem.W.ks_superIn K C C "__init__" = some (some (.builtin "ValueError.__init__"))
  ho : PySem.W.nsIn K PySem.cStatics "thirdparty.any" = some none
  hB : PySem.W.subIn K (.ref C) (.type "ValueError") = some true
  hm : PySem.W.mroIn K C (.ref C) = some true
section
variable {P : Program} {w : World} {K : PySem.W.Frag} {mg : Str → Option Value} {base : Heap} {C fI cc : Addr} {F : NF} {ar : Arg}
theorem boot_super : bootBuiltins "super" = some (.type "super") := by decide +kernel
/-- super().__init__(e) as a statement -/
theorem sup_stmt {X : Cx} {pins : List (Addr × Obj)} {σ : L2.St} {H : Hp} {s : Shared} {a : Addr} {e : Expr} {te : TE} {p0 p1 p2 p3 p4 : Pos} {body : List Stmt} {Q : Flow → Shared → Prop} (S : SupF X.prog X.K X.mg C fI cc F ar) (I : Inv X pins σ H s)
    (henv : X.env = envF F fI X.env.locals) (hf : ∃ oc od osl doc pm ctv, X.K.lookup fI = some ⟨oc, od, .func (F.fd doc pm ctv), osl⟩) (hi : X.N[0]? = some ar.arg) (hσ : σ[0]? = some (some (.ref a))) (hv : X.env.scope.names.lookup ar.arg = some .local) (ha : H a = some (exo a C none)) (he : PE X e te)
    (hst : starEach [e] X.env = (false, eval e X.env) :: starEach [] X.env)
    (hev : ∃ pl, eval (.Call (.Attribute (.Call (.Name "super" p0) [] [] p1) "__init__" p2) [e] [] p3) X.env = (do
      let ov ← attributeBase (.Call (.Name "super" p0) [] [] p1) "__init__" X.env (eval (.Call (.Name "super" p0) [] [] p1) X.env)
      standAt p2.atName
      let (f, first) ← holding [ov] (getMethod ov "__init__" pl)
      callWith p3 f first (backTo p3 (starEach [e] X.env)) []))
    (hin : interactive X.env = false) (hsw : swapsWith (.Call (.Attribute (.Call (.Name "super" p0) [] [] p1) "__init__" p2) [e] [] p3) none p4.line X.env = pure false)
    {W : VK} (h : te σ H W) (hW : ∀ v H1, W v H1 → H1 a = some (exo a C none) ∧ ∀ s', Inv X pins σ H1 s' → Q .next s') :
    _root_.PySem.wpAt (model X.prog X.w) X.A (.func body X.env) (exec (.Expr (.Call (.Attribute (.Call (.Name "super" p0) [] [] p1) "__init__" p2) [e] [] p3) p4) X.env) Q X.xe s := by
  obtain ⟨pl, hev⟩ := hev
  refine PySem.ks_wpAt_Expr_any ?_ hin hsw
  refine PySem.ks_wpAt_MethodCall (pl := pl) ?_ hev
  have KX : X.K.In s.heap := I.kIn
  obtain ⟨cl, cld, csl, hcell⟩ := S.cell
  obtain ⟨ccl, cdd, vs, ccs, fl, tf, hcode, hvs, hfile⟩ := S.file
  obtain ⟨oc, od, osl, doc, pm, ctv, hfo⟩ := hf
  obtain ⟨nm, q, N, bs, bm, sn, sub, ab, col, dd, k0, k1, k2, k3, k5, hC, hbm⟩ := S.T.cls
  have hcl : PySem.W.clsIn X.K C = some { name := nm, bases := bs, mro := .ref C :: bm, ns := N, qualname := q, hasDict := true, slotNames := sn, subclasses := sub, abstract := ab, collection := col, hasDel := false } := by unfold PySem.W.clsIn; rw [hC] <;> rfl
  have ek : ∀ y, X.env.kindOf y = F.scope.names.lookup y := fun y => by rw [henv]; rfl
  have efn : X.env.func = some fI := by rw [henv]
  have eco : X.env.code = .ref F.c := by rw [henv]
  have ecl : X.env.cells = F.cl := by rw [henv]
  refine PySem.ks_wpAt_super_base (ar := ar) (by rw [ek]; exact S.ks) (by rw [ek]; exact S.kc) (by decide) efn (KX _ _ hfo) rfl S.hp eco (KX _ _ hcode) rfl hvs hfile S.top ?_
  obtain ⟨mb, hb1, hb2⟩ := I.mod.blt
  refine PySem.W.ks_loadName_global I.ok.kind (by rw [ek]; exact S.ks) (Calls.loadGlobal_builtin (by rw [I.ok.glob]; exact I.mod.glob.keeps I.bk) S.sup (by rw [I.ok.blt]; exact hb1.keeps I.bk) ((hb2 _ (by decide +kernel)).trans boot_super) ⟨rfl, ?_⟩)
  refine wpAny_loadName_free I.ok.kind (by rw [ek]; exact S.kc) (c := cc) (by rw [ecl, S.cl]; rfl) ⟨_, KX _ _ hcell, rfl⟩ ?_
  obtain ⟨m, hn, hl⟩ := I.loc
  obtain ⟨ua, rua, la⟩ := hl 0 ar.arg (.ref a) hi hσ (.inl hv)
  obtain rfl : ua = Value.ref a := rua
  have hma : m ar.arg = some (.ref a) := by
    rcases la with ⟨_, z⟩ | ⟨z, _⟩
    · exact z
    · have hv' : X.env.kindOf ar.arg = some .local := hv
      rcases z with z | z <;> rw [hv'] at z <;> cases z
  refine wpAny_loadName_local I.ok.kind hv hn hma ?_
  refine PySem.ks_wpAny_isType_cls (KX _ _ hC) rfl ⟨rfl, ?_⟩
  obtain ⟨t1, hoa⟩ := exo_at I.hok ha
  obtain ⟨hp, g, d, tk, os⟩ := s
  refine PySem.ks_wpAny_call_super (C := C) (KX _ _ hC) rfl hoa rfl (fun c z => nomatch z) (PySem.W.looks_mroIn KX S.hm) (fun h' hso kp => ?_)
  have I1 : Inv X pins σ H ⟨h', g, d, tk, os⟩ := I.kept (t' := tk) kp
  have KX1 := I1.kIn
  have IA : PySem.W.InstAt h' a { cls := .ref C, dict := none, data := .fields #[.ref t1, .none, .none, .none, .bool false, .none] } C none := ⟨kp _ _ hoa, rfl, rfl, trivial⟩
  have hm := S.hs
  unfold PySem.W.ks_superIn at hm
  rw [hcl] at hm
  refine PySem.W.kxs_getMethod PySem.W.kxs_ValueError hso (PySem.W.looks_opaque KX1 S.ho) (l₀ := .ref C :: bm) (fun A Q E s k q => wpAny_bind ((PySem.W.looks_clsIn KX1 hcl) A _ E s k (wpAny_pure q))) rfl KX1 hm (IA.type.andThen (PySem.W.looks_subIn KX1 S.hB)) (PySem.W.ks_ne KX1 IA hcl) (by decide) ?_
  have hmw : (h'.push (PySem.W.kxs_mw "ValueError.__init__" a)).get? h'.objs.size = some (PySem.W.kxs_mw "ValueError.__init__" a) := Heap.get?_push_size _ rfl
  have I2 : Inv X pins σ H ⟨h'.push (PySem.W.kxs_mw "ValueError.__init__" a), g, d, tk + 1, os⟩ := I1.kept (t' := tk + 1) fun b o e => Heap.get?_push_of_some _ e
  generalize hG : h'.push (PySem.W.kxs_mw "ValueError.__init__" a) = G at hmw I2
  have fpo : FpOk X pins H h'.objs.size := I1.fpOk (Nat.le_refl _) (I1.hok.fresh (Nat.le_refl _))
  have I3 := I2.pinned (fp := [h'.objs.size]) (fun b hb => by rw [List.mem_singleton.mp hb]; exact fpo) (fun b hb => by rw [List.mem_singleton.mp hb]; exact ⟨_, hmw, fun v z => nomatch z⟩)
  have hpl : (backTo p3 (starEach [e] X.env)).any (·.1) = false := by rw [hst]; rfl
  refine PySem.W.kxs_callWith (i := "ValueError.__init__") (x := a) hpl ?_
  rw [hst]
  refine PySem.Calls.evalArgs_plain ?_
  show wpAny _ _ (spliced (backTo p3 ((false, eval e X.env) :: starEach [] X.env))) _ _ _
  rw [← hst]
  refine wpAny_mono ((pa_cons he pa_nil hst).run p3 _ _ σ H (fun vs H1 => match vs with | [v] => W v H1 | _ => False) I3 h) (fun us s1 hs => ?_) fun _ _ x => x
  · obtain ⟨vs1, H1, J, rv, hw⟩ := hs
    obtain ⟨v, rfl, ea, hq⟩ : ∃ v, vs1 = [v] ∧ H1 a = some (exo a C none) ∧ ∀ s', Inv X pins σ H1 s' → Q .next s' := by
      match vs1, hw with
      | [v], hw => exact ⟨v, rfl, hW v H1 hw⟩
      | [], hw => exact hw.elim
      | _ :: _ :: _, hw => exact hw.elim
    obtain ⟨u, rfl, ru⟩ := Vals.one rv
    have hpin := (J.pin (h'.objs.size, _) (List.mem_append_right _ (List.mem_append_right _ (mem_pinsAt (List.mem_singleton.mpr rfl) hmw)))).1
    refine ⟨hpin, ?_⟩
    obtain ⟨t2, hoa2⟩ := exo_at J.hok ea
    obtain ⟨hp1, g1, d1, tk1, os1⟩ := s1
    refine call_mw (J.kIn _ _ hC) hoa2 hpin (by show 1 ≤ sizeLine; decide) fun h3 t3 k3 hx => ?_
    have J2 := J.write (t' := tk1) (x := a) (e := a) (o := exo a C none) (by rw [ea]; exact True.intro) (.inl rfl) k3 ⟨_, hx⟩ (exo_ok hx)
    have eu : upd H1 a (exo a C none) = H1 := by
      funext b
      by_cases hb : b = a
      · rw [hb, upd_same, ea]
      · rw [upd_ne hb]
    rw [eu] at J2
    exact hq _ J2.unpinned
/-- THE RULE for such an __init__ -/
theorem fnOk_sup {N ps : List Str} {e : Expr} {rest : List Stmt} {p0 p1 p2 p3 p4 : Pos} {sp : Sp} {k : Nat} {oc : Value} {od : Option Addr} {osl : Array (Option Value)} {doc pm ctv : Value} (S : SupF P K mg C fI cc F ar) (lk : K.lookup fI = some ⟨oc, od, .func (F.fd doc pm ctv), osl⟩)
    (NS : NScope N ps ["__class__"] F.scope) (hN : N[0]? = some ar.arg) (hv : F.scope.names.lookup ar.arg = some .local) (hbd : F.body = .Expr (.Call (.Attribute (.Call (.Name "super" p0) [] [] p1) "__init__" p2) [e] [] p3) p4 :: rest)
    (len : ∀ vs H Q E, sp vs H Q E → vs.length = ps.length)
    (hst : ∀ env, starEach [e] env = (false, eval e env) :: starEach [] env)
    (hev : ∀ L, ∃ pl, eval (.Call (.Attribute (.Call (.Name "super" p0) [] [] p1) "__init__" p2) [e] [] p3) (envF F fI L) = (do
      let ov ← attributeBase (.Call (.Name "super" p0) [] [] p1) "__init__" (envF F fI L) (eval (.Call (.Name "super" p0) [] [] p1) (envF F fI L))
      standAt p2.atName
      let (f, first) ← holding [ov] (getMethod ov "__init__" pl)
      callWith p3 f first (backTo p3 (starEach [e] (envF F fI L))) []))
    (hin : ∀ L, interactive (envF F fI L) = false) (hsw : ∀ L, swapsWith (.Call (.Attribute (.Call (.Name "super" p0) [] [] p1) "__init__" p2) [e] [] p3) none p4.line (envF F fI L) = pure false)
    (hbody : ∀ (A : Around) (outer : List Env) (s : Shared) (H : Hp) (vs : List V) (Q : VK) (E : XK), Room k (A.deeper (envF F fI s.heap.objs.size)) → sp vs H Q E →
      ∃ (a : Addr) (te : TE) (tr : TS), (startF N vs [some (.ref C)])[0]? = some (some (.ref a)) ∧ H a = some (exo a C none) ∧ PE (ncx CX0 P w K mg base N F fI A outer s H E) e te ∧ PSs (ncx CX0 P w K mg base N F fI A outer s H E) rest tr ∧
        te (startF N vs [some (.ref C)]) H fun _ H1 => H1 a = some (exo a C none) ∧ tr { nx := fun _ H' => Q .non H', rt := Q } (startF N vs [some (.ref C)]) H1) :
    FnOk P w K mg base CX0 (k + 1) fI (F.fd doc pm ctv) ps sp := by
  refine ⟨len, fun A outer s H args us vs Q E hr e0 hbi r hsp => ?_⟩
  have KX : K.In s.heap := e0.mod.kin.keeps fun b o e => (e0.bs b o e).1
  have nT : ∀ b o, K.lookup b = some o → H b = none := fun b o e => (e0.bs b o (e0.mod.kin b o e)).2
  have lim : s.heap.NoLimit := e0.mod.nolimit.keeps fun b o e => (e0.bs b o e).1
  obtain ⟨cl, cld, csl, hcell⟩ := S.cell
  have hl := len _ _ _ _ hsp
  have ecl : ∀ y c, F.cl.lookup y = some c → y = "__class__" ∧ c = cc := fun y c e => by
    rw [S.cl] at e
    by_cases h : y = "__class__"
    · subst h
      exact ⟨rfl, (Option.some.inj e).symm⟩
    · have h2 : (y == ("__class__" : Str)) = false := by simpa using h
      simp [List.lookup, h2] at e
  have CA : CellsAt F.cl ["__class__"] [some (.ref C)] s.heap H := by
    refine ⟨rfl, fun y c e => ?_, fun x y c e1 e2 => (ecl x c e1).1.trans (ecl y c e2).1.symm, fun i y e => ?_⟩
    · obtain ⟨rfl, rfl⟩ := ecl y c e
      exact ⟨nT _ _ hcell, _, _, KX _ _ hcell, rfl⟩
    · have hi : i = 0 ∧ y = "__class__" := by
        cases i with
        | zero => exact ⟨rfl, (Option.some.inj e).symm⟩
        | succ n => simp at e
      obtain ⟨rfl, rfl⟩ := hi
      refine ⟨cc, by rw [S.cl]; rfl, fun v ev => ?_⟩
      obtain rfl : V.ref C = v := Option.some.inj (Option.some.inj ev)
      exact ⟨.ref C, rfl, _, KX _ _ hcell, rfl⟩
  refine PySem.ks_codeAny_call_defAt (body := F.body) hr.depth (KX _ _ lk) rfl lim (PySem.W.codeRec_of KX S.code) rfl hbi NS.nocell (fun ⟨n, _⟩ hy => NS.par n (List.of_mem_zip hy).1) (fun h₁ hns kp => ?_) NS.co NS.gen NS.kind
  have I : Inv (ncx CX0 P w K mg base N F fI A outer s H E) [] (startF N vs [some (.ref C)]) H { s with heap := h₁, toks := s.toks + (ps.zip us).length } := inv_startN NS hr.hd e0 (by rw [hl]) r CA hns kp
  obtain ⟨a, te, tr, h0, ha, he, hp, hq⟩ := hbody A outer s H vs Q E (hr.deeper _) hsp
  show _root_.PySem.wpAt _ (A.deeper (envF F fI s.heap.objs.size)) (.func F.body (envF F fI s.heap.objs.size)) (execs F.body (envF F fI s.heap.objs.size)) _ _ _
  rw [hbd]
  refine PySem.ks_wpAt_execs_cons ?_
  refine sup_stmt (X := ncx CX0 P w K mg base N F fI A outer s H E) (te := te) S I rfl ⟨oc, od, osl, doc, pm, ctv, lk⟩ hN h0 hv ha he (hst _) (hev _) (hin _) (hsw _) hq fun v H1 hw => ⟨hw.1, fun s' J => ?_⟩
  refine _root_.PySem.wpAt_of_wpAny (wpAny_mono (hp.run [] s' (startF N vs [some (.ref C)]) H1 _ J hw.2) (fun fl s2 hs => ?_) fun e s2 hs => hs)
  have fin : ∀ {σ' : L2.St} {H' : Hp} {v : V} {u : Value}, Inv (ncx CX0 P w K mg base N F fI A outer s H E) [] σ' H' s2 → L2.RelV v u → Q v H' → CE outer P w H s Q u s2 :=
    fun {σ' H' v u} J rv q => ⟨v, H', J.os, J.bare, J.base, J.hok, rv, q⟩
  cases fl with
  | ret u =>
    obtain ⟨v, σ', H', J, rv, q⟩ := hs
    exact fin J rv q
  | next =>
    obtain ⟨σ', H', J, q⟩ := hs
    exact fin (v := V.non) (u := Value.none) J rfl q
  | brk =>
    obtain ⟨_, _, _, q⟩ := hs
    exact False.elim q
  | cont =>
    obtain ⟨_, _, _, q⟩ := hs
    exact False.elim q
end
end Sv


set_option maxHeartbeats 1000000
/-! effects as lists of numbers: iterates, periods, cycles, repetitions -/
namespace Sv
/-- a list of each number below its length once -/
def Eff (e : List Nat) : Prop := (∀ x ∈ e, x < e.length) ∧ e.Nodup
def ap (e : List Nat) (x : Nat) : Nat := e.getD x 0
def it (e : List Nat) : Nat → Nat → Nat
  | 0, x => x
  | k + 1, x => ap e (it e k x)
theorem ap_at {e : List Nat} {x : Nat} (h : x < e.length) : e[x]? = some (ap e x) := by
  unfold ap
  rw [List.getD_eq_getElem?_getD, List.getElem?_eq_getElem h]
  rfl
theorem ap_lt {e : List Nat} (E : Eff e) {x : Nat} (h : x < e.length) : ap e x < e.length := E.1 _ (List.mem_of_getElem? (ap_at h))
theorem ap_inj {e : List Nat} (E : Eff e) {x y : Nat} (hx : x < e.length) (hy : y < e.length) (q : ap e x = ap e y) : x = y := by
  have h1 := ap_at hx
  have h2 := ap_at hy
  rw [q, ← h2] at h1
  rw [List.getElem?_eq_getElem hx, List.getElem?_eq_getElem hy] at h1
  exact (List.getElem_inj E.2).mp (Option.some.inj h1)
theorem it_lt {e : List Nat} (E : Eff e) : ∀ {k x : Nat}, x < e.length → it e k x < e.length
  | 0, _, h => h
  | k + 1, _, h => ap_lt E (it_lt E h)
theorem it_add (e : List Nat) (a b x : Nat) : it e (a + b) x = it e a (it e b x) := by
  induction a with
  | zero =>
    rw [Nat.zero_add]
    rfl
  | succ a ih =>
    rw [Nat.succ_add]
    show ap e (it e (a + b) x) = ap e (it e a (it e b x))
    rw [ih]
theorem it_inj {e : List Nat} (E : Eff e) : ∀ {k x y : Nat}, x < e.length → y < e.length → it e k x = it e k y → x = y
  | 0, _, _, _, _, q => q
  | k + 1, _, _, hx, hy, q => it_inj (k := k) E hx hy (ap_inj E (it_lt E hx) (it_lt E hy) q)
theorem nat_sub_len : ∀ {l m : List Nat}, l.Nodup → (∀ x ∈ l, x ∈ m) → l.length ≤ m.length
  | [], _, _, _ => Nat.zero_le _
  | x :: r, m, nd, h => by
    have hx : x ∈ m := h x (List.mem_cons_self ..)
    have nr := (List.nodup_cons.mp nd)
    have ih := nat_sub_len (l := r) (m := m.erase x) nr.2 fun y hy => (List.mem_erase_of_ne (fun e => nr.1 (by rw [← e]; exact hy))).mpr (h y (List.mem_cons_of_mem _ hy))
    rw [List.length_erase_of_mem hx] at ih
    have := List.length_pos_of_mem hx
    show r.length + 1 ≤ m.length
    omega
theorem below_len {l : List Nat} {n : Nat} (nd : l.Nodup) (h : ∀ x ∈ l, x < n) : l.length ≤ n := by
  have q := nat_sub_len (m := List.range n) nd fun x hx => List.mem_range.mpr (h x hx)
  rwa [List.length_range] at q
theorem least {P : Nat → Prop} : (∃ k, P k) → ∃ k, P k ∧ ∀ j, j < k → ¬ P j := by
  intro ⟨k, hk⟩
  induction k using Nat.strongRecOn with
  | _ k ih =>
    by_cases h : ∃ j, j < k ∧ P j
    · obtain ⟨j, hj, pj⟩ := h
      exact ih j hj pj
    · exact ⟨k, hk, fun j hj pj => h ⟨j, hj, pj⟩⟩
theorem map_nodup {f : Nat → Nat} {n : Nat} (h : ∀ i j, i < j → j < n → f i ≠ f j) : ((List.range n).map f).Nodup := by
  refine List.pairwise_iff_getElem.mpr fun i j hi hj hij => ?_
  have hi' : i < n := by simpa using hi
  have hj' : j < n := by simpa using hj
  simp only [List.getElem_map, List.getElem_range]
  exact h i j hij hj'
theorem returns {e : List Nat} (E : Eff e) {s : Nat} (hs : s < e.length) : ∃ k, 1 ≤ k ∧ k ≤ e.length ∧ it e k s = s := by
  by_cases h : ∃ i j, i < j ∧ j < e.length + 1 ∧ it e i s = it e j s
  · obtain ⟨i, j, hij, hj, q⟩ := h
    refine ⟨j - i, by omega, by omega, ?_⟩
    have e1 : it e j s = it e i (it e (j - i) s) := by
      rw [← it_add]
      congr 1
      omega
    rw [e1] at q
    exact (it_inj (k := i) E hs (it_lt E hs) q).symm
  · have nd := map_nodup (f := fun k => it e k s) (n := e.length + 1) fun i j hij hj q => h ⟨i, j, hij, hj, q⟩
    have hl := below_len nd (n := e.length) fun x hx => by
      obtain ⟨k, _, rfl⟩ := List.mem_map.mp hx
      exact it_lt E hs
    simp at hl
    omega
/-- the period of a place -/
noncomputable def per (e : List Nat) (s : Nat) : Nat := open Classical in if h : ∃ k, (1 ≤ k ∧ it e k s = s) then Classical.choose (least h) else 1
theorem per_spec {e : List Nat} (E : Eff e) {s : Nat} (hs : s < e.length) : 1 ≤ per e s ∧ it e (per e s) s = s ∧ (∀ j, 1 ≤ j → j < per e s → it e j s ≠ s) ∧ per e s ≤ e.length := by
  obtain ⟨k, h1, h2, h3⟩ := returns E hs
  have h : ∃ k, (1 ≤ k ∧ it e k s = s) := ⟨k, h1, h3⟩
  have q := Classical.choose_spec (least h)
  have ep : per e s = Classical.choose (least h) := by
    unfold per
    rw [dif_pos h]
  rw [ep]
  refine ⟨q.1.1, q.1.2, fun j a b c => q.2 j b ⟨a, c⟩, ?_⟩
  refine Nat.le_trans ?_ h2
  by_cases hk : Classical.choose (least h) ≤ k
  · exact hk
  · exact absurd ⟨h1, h3⟩ (q.2 k (by omega))
theorem per_pos {e : List Nat} (E : Eff e) {s : Nat} (hs : s < e.length) : 0 < per e s := (per_spec E hs).1
theorem it_mul {e : List Nat} {s p : Nat} (h : it e p s = s) : ∀ m : Nat, it e (m * p) s = s
  | 0 => by rw [Nat.zero_mul]; rfl
  | m + 1 => by
    rw [Nat.succ_mul, it_add, h]
    exact it_mul h m
theorem it_mod {e : List Nat} (E : Eff e) {s : Nat} (hs : s < e.length) (k : Nat) : it e k s = it e (k % per e s) s := by
  have h := Nat.div_add_mod k (per e s)
  have e1 : it e k s = it e (k % per e s + (k / per e s) * per e s) s := by
    congr 1
    rw [Nat.mul_comm (k / per e s)]
    omega
  rw [e1, it_add, it_mul (per_spec E hs).2.1]
theorem it_eq_iff {e : List Nat} (E : Eff e) {s : Nat} (hs : s < e.length) (k : Nat) : it e k s = s ↔ per e s ∣ k := by
  constructor
  · intro h
    rw [it_mod E hs] at h
    have hlt := Nat.mod_lt k (per_pos E hs)
    by_cases h0 : k % per e s = 0
    · exact Nat.dvd_of_mod_eq_zero h0
    · exact absurd h ((per_spec E hs).2.2.1 _ (by omega) hlt)
  · intro ⟨m, hm⟩
    rw [hm, Nat.mul_comm]
    exact it_mul (per_spec E hs).2.1 m
theorem per_it {e : List Nat} (E : Eff e) {s : Nat} (hs : s < e.length) (j : Nat) : per e (it e j s) = per e s := by
  have key : ∀ k, it e k (it e j s) = it e j s ↔ it e k s = s := fun k => by
    constructor
    · intro h
      rw [← it_add, Nat.add_comm, it_add] at h
      exact it_inj (k := j) E (it_lt E hs) hs h
    · intro h
      rw [← it_add, Nat.add_comm, it_add, h]
  have h1 := per_spec E hs
  have h2 := per_spec E (it_lt E hs : it e j s < e.length)
  refine Nat.le_antisymm ?_ ?_
  · by_cases h : per e (it e j s) ≤ per e s
    · exact h
    · exact absurd ((key _).mpr h1.2.1) (h2.2.2.1 _ h1.1 (by omega))
  · by_cases h : per e s ≤ per e (it e j s)
    · exact h
    · exact absurd ((key _).mp h2.2.1) (h1.2.2.1 _ h2.1 (by omega))
/-- a place, so many times on (or back) -/
noncomputable def rp (e : List Nat) (c : Int) (p : Nat) : Nat := it e (c % (per e p : Int)).toNat p
theorem rp_lt {e : List Nat} (E : Eff e) {c : Int} {p : Nat} (hp : p < e.length) : rp e c p < e.length := it_lt E hp
theorem per_rp {e : List Nat} (E : Eff e) {c : Int} {p : Nat} (hp : p < e.length) : per e (rp e c p) = per e p := per_it E hp _
theorem rp_nat {e : List Nat} (E : Eff e) (k : Nat) {p : Nat} (hp : p < e.length) : rp e (k : Int) p = it e k p := by
  unfold rp
  rw [it_mod E hp k]
  congr 1
theorem rp_add {e : List Nat} (E : Eff e) (a b : Int) {p : Nat} (hp : p < e.length) : rp e b (rp e a p) = rp e (a + b) p := by
  have hpos : (0 : Int) < (per e p : Int) := by
    have := per_pos E hp
    omega
  unfold rp
  rw [per_it E hp, ← it_add, it_mod E hp]
  congr 1
  have h1 := Int.emod_nonneg a (Int.ne_of_gt hpos)
  have h2 := Int.emod_nonneg b (Int.ne_of_gt hpos)
  have h3 := Int.emod_nonneg (a + b) (Int.ne_of_gt hpos)
  have e1 : (((b % (per e p : Int)).toNat + (a % (per e p : Int)).toNat : Nat) : Int) % (per e p : Int) = (a + b) % (per e p : Int) := by
    rw [Int.natCast_add, Int.toNat_of_nonneg h1, Int.toNat_of_nonneg h2, ← Int.add_emod, Int.add_comm]
  rw [← Int.natCast_emod] at e1
  omega
theorem rp_zero {e : List Nat} (p : Nat) : rp e 0 p = p := by
  unfold rp
  rw [Int.zero_emod]
  rfl
theorem rp_inj {e : List Nat} (E : Eff e) {c : Int} {p q : Nat} (hp : p < e.length) (hq : q < e.length) (h : rp e c p = rp e c q) : p = q := by
  have h1 := congrArg (rp e (-c)) h
  rw [rp_add E _ _ hp, rp_add E _ _ hq] at h1
  have e0 : c + -c = 0 := by omega
  rwa [e0, rp_zero, rp_zero] at h1
/-- the effect, so many times -/
noncomputable def rep (e : List Nat) (c : Int) : List Nat := (List.range e.length).map (rp e c)
theorem rep_len (e : List Nat) (c : Int) : (rep e c).length = e.length := by unfold rep; simp
theorem rep_ap {e : List Nat} {c : Int} {p : Nat} (hp : p < e.length) : ap (rep e c) p = rp e c p := by
  unfold rep ap
  rw [List.getD_eq_getElem?_getD, List.getElem?_map, List.getElem?_range hp]
  rfl
theorem map_eff {n : Nat} {f : Nat → Nat} (h1 : ∀ p, p < n → f p < n) (h2 : ∀ p q, p < n → q < n → f p = f q → p = q) : Eff ((List.range n).map f) := by
  refine ⟨fun x hx => ?_, map_nodup fun i j hij hj q => ?_⟩
  · obtain ⟨p, hp, rfl⟩ := List.mem_map.mp hx
    rw [List.length_map, List.length_range]
    exact h1 p (List.mem_range.mp hp)
  · have := h2 i j (by omega) hj q
    omega
theorem rep_eff {e : List Nat} (E : Eff e) (c : Int) : Eff (rep e c) := map_eff (fun p hp => rp_lt E hp) fun p q hp hq h => rp_inj E hp hq h
/-- two lists of one length are one if they are so at each place -/
theorem ext_ap {a b : List Nat} (hl : a.length = b.length) (h : ∀ p, p < a.length → ap a p = ap b p) : a = b := by
  refine List.ext_getElem? fun i => ?_
  by_cases hi : i < a.length
  · rw [ap_at hi, ap_at (by omega), h i hi]
  · rw [List.getElem?_eq_none (by omega), List.getElem?_eq_none (by omega)]
def comp (a b : List Nat) : List Nat := a.map (ap b)
theorem comp_len (a b : List Nat) : (comp a b).length = a.length := by unfold comp; simp
theorem comp_ap {a b : List Nat} {p : Nat} (hp : p < a.length) : ap (comp a b) p = ap b (ap a p) := by
  unfold comp
  have h : (a.map (ap b))[p]? = some (ap b (ap a p)) := by rw [List.getElem?_map, ap_at hp]; rfl
  rw [ap_at (by simpa using hp)] at h
  exact Option.some.inj h
theorem comp_eff {a b : List Nat} (A : Eff a) (B : Eff b) (hl : a.length = b.length) : Eff (comp a b) := by
  refine ⟨fun x hx => ?_, ?_⟩
  · obtain ⟨y, hy, rfl⟩ := List.mem_map.mp hx
    rw [comp_len, hl]
    exact ap_lt B (by rw [← hl]; exact A.1 y hy)
  · unfold comp
    refine List.pairwise_iff_getElem.mpr fun i j hi hj hij q => ?_
    simp only [List.getElem_map] at q
    simp at hi hj
    have q2 := ap_inj B (by rw [← hl]; exact A.1 _ (List.getElem_mem hi)) (by rw [← hl]; exact A.1 _ (List.getElem_mem hj)) q
    exact absurd ((List.getElem_inj A.2).mp q2) (by omega)
theorem comp_assoc {a b c : List Nat} (A : Eff a) (hl : a.length = b.length) : comp (comp a b) c = comp a (comp b c) := by
  refine ext_ap (by simp [comp_len]) fun p hp => ?_
  rw [comp_len, comp_len] at hp
  rw [comp_ap (by rw [comp_len]; exact hp), comp_ap hp, comp_ap hp, comp_ap (by rw [← hl]; exact ap_lt A hp)]
theorem rep_comp {e : List Nat} (E : Eff e) (a b : Int) : comp (rep e a) (rep e b) = rep e (a + b) := by
  refine ext_ap (by simp [comp_len, rep_len]) fun p hp => ?_
  rw [comp_len, rep_len] at hp
  rw [comp_ap (by rw [rep_len]; exact hp), rep_ap hp, rep_ap (rp_lt E hp), rep_ap hp, rp_add E _ _ hp]
theorem rep_one {e : List Nat} (E : Eff e) : rep e 1 = e := by
  refine ext_ap (rep_len e 1) fun p hp => ?_
  rw [rep_len] at hp
  rw [rep_ap hp]
  exact rp_nat E 1 hp
theorem rep_zero (e : List Nat) : rep e 0 = List.range e.length := by
  unfold rep
  rw [show (List.range e.length).map (rp e 0) = (List.range e.length).map id from List.map_congr_left fun p _ => rp_zero p]
  exact List.map_id _
/-- the inverse, as the program makes it: step by step -/
def invF (e : List Nat) : Nat → List Nat
  | 0 => List.replicate e.length 0
  | k + 1 => (invF e k).set (ap e k) k
theorem invF_len (e : List Nat) : ∀ k, (invF e k).length = e.length
  | 0 => List.length_replicate
  | k + 1 => by
    show ((invF e k).set _ _).length = _
    rw [List.length_set, invF_len e k]
theorem invF_at {e : List Nat} (E : Eff e) : ∀ (k : Nat), k ≤ e.length → ∀ i, i < k → ap (invF e k) (ap e i) = i
  | 0, _, i, hi => by omega
  | k + 1, hk, i, hi => by
    have hlen := invF_len e k
    show ap ((invF e k).set (ap e k) k) (ap e i) = i
    have hik : ap e i < (invF e k).length := by
      rw [hlen]
      exact ap_lt E (by omega)
    by_cases h : i = k
    · subst h
      unfold ap at *
      rw [List.getD_eq_getElem?_getD, List.getElem?_set_self hik]
      rfl
    · have ne : ap e k ≠ ap e i := fun q => h (ap_inj E (by omega) (by omega) q).symm
      have ih := invF_at E k (by omega) i (by omega)
      unfold ap at *
      rw [List.getD_eq_getElem?_getD, List.getElem?_set_ne ne, ← List.getD_eq_getElem?_getD]
      exact ih
def inv (e : List Nat) : List Nat := invF e e.length
theorem inv_len (e : List Nat) : (inv e).length = e.length := invF_len e _
theorem inv_ap {e : List Nat} (E : Eff e) {i : Nat} (hi : i < e.length) : ap (inv e) (ap e i) = i := invF_at E _ (Nat.le_refl _) i hi
/-- the inverse of a repetition -/
theorem inv_rep {e : List Nat} (E : Eff e) (c : Int) : inv (rep e c) = rep e (-c) := by
  refine ext_ap (by rw [inv_len, rep_len, rep_len]) fun q hq => ?_
  rw [inv_len, rep_len] at hq
  have h1 : rp e c (rp e (-c) q) = q := by
    rw [rp_add E _ _ hq, show -c + c = 0 by omega, rp_zero]
  have h2 := inv_ap (rep_eff E c) (i := rp e (-c) q) (by rw [rep_len]; exact rp_lt E hq)
  rw [rep_ap (rp_lt E hq), h1] at h2
  rw [h2, rep_ap hq]
theorem inv_eq {e : List Nat} (E : Eff e) : inv e = rep e (-1) := by
  have h := inv_rep E 1
  rwa [rep_one E] at h
theorem inv_eff {e : List Nat} (E : Eff e) : Eff (inv e) := by
  rw [inv_eq E]
  exact rep_eff E _
theorem inv_inv {e : List Nat} (E : Eff e) : inv (inv e) = e := by
  rw [inv_eq E, inv_rep E, show (- -1 : Int) = 1 by decide, rep_one E]
theorem comp_inv {e : List Nat} (E : Eff e) : comp e (inv e) = List.range e.length := by
  have h := rep_comp E 1 (-1)
  rw [rep_one E, ← inv_eq E, show (1 + -1 : Int) = 0 by decide, rep_zero] at h
  exact h
theorem rep_succ {e : List Nat} (E : Eff e) (k : Nat) : comp (rep e (k : Int)) e = rep e ((k + 1 : Nat) : Int) := by
  have h := rep_comp E (k : Int) 1
  rw [rep_one E] at h
  rw [h]
  rfl
end Sv


set_option maxHeartbeats 1000000
/-! routes and plans, the mathematics alone -/
namespace Sv
open PySem
abbrev Ro := List (Option Int)
/-- the first that p does not hold of -/
def fst {α : Type} (p : α → Bool) : List α → Nat → Option Nat
  | [], _ => none
  | x :: r, i => if p x = true then fst p r (i + 1) else some i
theorem fst_some {α : Type} {p : α → Bool} : ∀ {l : List α} {i k : Nat} {x : α}, (∀ (j : Nat) (y : α), j < i → l[j]? = some y → p y = true) → l[i]? = some x → p x = false → fst p l k = some (i + k)
  | [], i, k, x, _, h, _ => by simp at h
  | y :: l, 0, k, x, _, h, hp => by
    obtain rfl := Option.some.inj h
    unfold fst
    rw [hp]
    simp
  | y :: l, i + 1, k, x, hb, h, hp => by
    unfold fst
    rw [hb 0 y (by omega) rfl, if_pos rfl, fst_some (l := l) (i := i) (k := k + 1) (fun j z hj hz => hb (j + 1) z (by omega) (by simpa using hz)) (by simpa using h) hp]
    congr 1
    omega
theorem fst_none {α : Type} {p : α → Bool} : ∀ {l : List α} {k : Nat}, (∀ (j : Nat) (y : α), l[j]? = some y → p y = true) → fst p l k = none
  | [], _, _ => rfl
  | y :: l, k, h => by
    unfold fst
    rw [h 0 y rfl, if_pos rfl]
    exact fst_none fun j z hz => h (j + 1) z (by simpa using hz)
theorem fst_lt {α : Type} {p : α → Bool} : ∀ {l : List α} {k i : Nat}, fst p l k = some i → i < l.length + k
  | [], _, _, h => by cases h
  | y :: l, k, i, h => by
    unfold fst at h
    split at h
    · have := fst_lt h
      rw [List.length_cons]
      omega
    · cases h
      rw [List.length_cons]
      omega
theorem fst_all {α : Type} {p : α → Bool} : ∀ {l : List α} {k : Nat}, fst p l k = none → ∀ y ∈ l, p y = true
  | [], _, _, y, hy => by simp at hy
  | x :: l, k, h, y, hy => by
    unfold fst at h
    split at h
    · rename_i hx
      rcases List.mem_cons.mp hy with rfl | hy
      · exact hx
      · exact fst_all h y hy
    · cases h
def okZ (z : Int) : Bool := decide (0 ≤ z ∧ z ≤ 9)
def okE (n : Int) : Option Int → Bool
  | none => true
  | some i => decide (0 ≤ i ∧ i ≤ n - 1)
def okR (n : Int) (r : Ro) : Bool := decide (1 ≤ r.length ∧ r.length ≤ 6) && r.all (okE n)
def badS (zs : List Int) : Option Int := if 1 ≤ zs.length ∧ zs.length ≤ 12 then (fst okZ zs 0).map fun (k : Nat) => (k : Int) else some (-1)
def badR (n : Int) (rs : List Ro) : Option Int := if 1 ≤ rs.length ∧ rs.length ≤ 6 then (fst (okR n) rs 0).map fun (k : Nat) => (k : Int) else some (-1)
/-- what is wrong with a plan -/
def bad (zs : List Int) (rs : List Ro) : Option (Str × Int) := match badS zs with
  | some i => some ("sizes", i)
  | none => (badR zs.length rs).map fun i => ("routes", i)
def Small (zs : List Int) (rs : List Ro) : Prop := zs.length ≤ 1000 ∧ rs.length ≤ 1000 ∧ ∀ r ∈ rs, r.length ≤ 1000
/-- the entry of a route at a time -/
def ent (r : Ro) (m : Int) : Option Int := r.getD (m % (r.length : Int)).toNat none
theorem ent_get {r : Ro} (h : r ≠ []) (m : Int) : r[(m % (r.length : Int)).toNat]? = some (ent r m) ∧ m % (r.length : Int) = ((m % (r.length : Int)).toNat : Int) := by
  have hl : 0 < r.length := List.length_pos_iff.mpr h
  have h0 := Int.emod_nonneg m (by omega : (r.length : Int) ≠ 0)
  have h1 := Int.emod_lt_of_pos m (by omega : (0 : Int) < (r.length : Int))
  have e := Int.toNat_of_nonneg h0
  refine ⟨?_, e.symm⟩
  have hlt : (m % (r.length : Int)).toNat < r.length := by omega
  unfold ent
  rw [List.getD_eq_getElem?_getD, List.getElem?_eq_getElem hlt]
  rfl
def rot {α : Type} (r : List α) (s : Nat) : List α := r.drop s ++ r.take s
theorem rot_full {α : Type} (r : List α) : rot r r.length = r := by
  unfold rot
  rw [List.drop_of_length_le (Nat.le_refl _), List.take_of_length_le (Nat.le_refl _), List.nil_append]
theorem leastN {P : Nat → Prop} : (∃ k, P k) → ∃ k, P k ∧ ∀ j, j < k → ¬ P j := by
  rintro ⟨k, hk⟩
  induction k using Nat.strongRecOn with
  | _ k ih =>
    by_cases h : ∃ j, j < k ∧ P j
    · obtain ⟨j, hj, hp⟩ := h
      exact ih j hj hp
    · exact ⟨k, hk, fun j hj hp => h ⟨j, hj, hp⟩⟩
open Classical in
/-- the least number of steps that leaves a list as it is -/
noncomputable def rtp {α : Type} (r : List α) : Nat := if h : ∃ k, 1 ≤ k ∧ rot r k = r then Classical.choose (leastN h) else 0
theorem rtp_spec {α : Type} {r : List α} (h : r ≠ []) : 1 ≤ rtp r ∧ rot r (rtp r) = r ∧ (∀ j, 1 ≤ j → j < rtp r → rot r j ≠ r) ∧ rtp r ≤ r.length := by
  have hl : 1 ≤ r.length := List.length_pos_iff.mpr h
  have ex : ∃ k, 1 ≤ k ∧ rot r k = r := ⟨r.length, hl, rot_full r⟩
  have e : rtp r = Classical.choose (leastN ex) := by
    unfold rtp
    rw [dif_pos ex]
  have sp := Classical.choose_spec (leastN ex)
  rw [← e] at sp
  refine ⟨sp.1.1, sp.1.2, fun j h1 h2 z => sp.2 j h2 ⟨h1, z⟩, ?_⟩
  by_cases hh : rtp r ≤ r.length
  · exact hh
  · exact absurd ⟨hl, rot_full r⟩ (sp.2 r.length (by omega))
structure Good (zs : List Int) (rs : List Ro) : Prop where
  z1 : 1 ≤ zs.length ∧ zs.length ≤ 12
  z2 : ∀ z ∈ zs, 0 ≤ z ∧ z ≤ 9
  r1 : 1 ≤ rs.length ∧ rs.length ≤ 6
  r2 : ∀ r ∈ rs, 1 ≤ r.length ∧ r.length ≤ 6
theorem good_of {zs : List Int} {rs : List Ro} (h : bad zs rs = none) : Good zs rs := by
  unfold bad at h
  cases hb : badS zs with
  | some i => rw [hb] at h; cases h
  | none =>
    rw [hb] at h
    simp only [Option.map_eq_none_iff] at h
    unfold badS at hb
    unfold badR at h
    split at hb
    · split at h
      · rename_i c1 c2
        rw [Option.map_eq_none_iff] at hb h
        refine ⟨c1, fun z hz => of_decide_eq_true (fst_all hb z hz), c2, fun r hr => ?_⟩
        have := fst_all h r hr
        unfold okR at this
        rw [Bool.and_eq_true] at this
        exact of_decide_eq_true this.1
      · cases h
    · cases hb
theorem Good.ne {zs : List Int} {rs : List Ro} (g : Good zs rs) : ∀ r ∈ rs, r ≠ [] ∧ r.length ≤ 1000 := fun r hr => by
  have := g.r2 r hr
  exact ⟨fun z => by rw [z] at this; simp at this, by omega⟩
/-! ### the pattern of all routes -/
noncomputable def lc (rs : List Ro) : Nat := rs.foldl (fun m r => Nat.lcm m (rtp r)) 1
theorem lc_snoc (rs : List Ro) (r : Ro) : lc (rs ++ [r]) = Nat.lcm (lc rs) (rtp r) := by
  unfold lc
  rw [List.foldl_append]
  rfl
theorem dvd60 {k : Nat} (h1 : 1 ≤ k) (h2 : k ≤ 6) : k ∣ 60 := by
  have : k = 1 ∨ k = 2 ∨ k = 3 ∨ k = 4 ∨ k = 5 ∨ k = 6 := by omega
  rcases this with rfl | rfl | rfl | rfl | rfl | rfl <;> decide
theorem rtp_dvd60 {r : Ro} (h : 1 ≤ r.length ∧ r.length ≤ 6) : rtp r ∣ 60 := by
  obtain ⟨a, _, _, d⟩ := rtp_spec (r := r) (fun z => by rw [z] at h; simp at h)
  exact dvd60 a (by omega)
theorem fold_dvd60 : ∀ {rs : List Ro} {m : Nat}, m ∣ 60 → (∀ r ∈ rs, 1 ≤ r.length ∧ r.length ≤ 6) → rs.foldl (fun m r => Nat.lcm m (rtp r)) m ∣ 60
  | [], m, hm, _ => hm
  | r :: rs, m, hm, h => fold_dvd60 (rs := rs) (m := Nat.lcm m (rtp r)) (Nat.lcm_dvd hm (rtp_dvd60 (h r (List.mem_cons_self ..)))) fun x hx => h x (List.mem_cons_of_mem _ hx)
theorem lc_dvd60 {rs : List Ro} (h : ∀ r ∈ rs, 1 ≤ r.length ∧ r.length ≤ 6) : lc rs ∣ 60 := fold_dvd60 (by decide) h
theorem lc_le {rs : List Ro} (h : ∀ r ∈ rs, 1 ≤ r.length ∧ r.length ≤ 6) : 1 ≤ lc rs ∧ lc rs ≤ 60 := by
  have d := lc_dvd60 h
  refine ⟨Nat.pos_of_ne_zero fun z => ?_, Nat.le_of_dvd (by decide) d⟩
  rw [z] at d
  have := Nat.eq_zero_of_zero_dvd d
  omega
theorem fold_ge : ∀ {rs : List Ro} {m d : Nat}, (m ∣ d ∧ ∀ r ∈ rs, rtp r ∣ d) ↔ rs.foldl (fun m r => Nat.lcm m (rtp r)) m ∣ d
  | [], m, d => by simp
  | r :: rs, m, d => by
    rw [List.foldl_cons, ← fold_ge (rs := rs), List.forall_mem_cons]
    constructor
    · rintro ⟨h1, h2, h3⟩
      exact ⟨Nat.lcm_dvd h1 h2, h3⟩
    · rintro ⟨h1, h3⟩
      exact ⟨Nat.dvd_trans (Nat.dvd_lcm_left _ _) h1, Nat.dvd_trans (Nat.dvd_lcm_right _ _) h1, h3⟩
theorem lc_dvd {rs : List Ro} {d : Nat} : lc rs ∣ d ↔ ∀ r ∈ rs, rtp r ∣ d := by
  unfold lc
  rw [← fold_ge]
  exact ⟨fun h => h.2, fun h => ⟨Nat.one_dvd _, h⟩⟩
theorem rotr_at {α : Type} {r : List α} {k j : Nat} (hk : k ≤ r.length) (hj : j < r.length) : (rot r k)[j]? = r[(j + k) % r.length]? := by
  unfold rot
  by_cases h : j < r.length - k
  · rw [List.getElem?_append_left (by rw [List.length_drop]; exact h), List.getElem?_drop, Nat.mod_eq_of_lt (by omega), Nat.add_comm]
  · rw [List.getElem?_append_right (by rw [List.length_drop]; omega), List.length_drop, List.getElem?_take_of_lt (by omega)]
    congr 1
    rw [show j + k = (j - (r.length - k)) + r.length by omega, Nat.add_mod_right, Nat.mod_eq_of_lt (by omega)]
theorem rot_iff {α : Type} {r : List α} {k : Nat} (hk : k ≤ r.length) : rot r k = r ↔ ∀ j, j < r.length → r[(j + k) % r.length]? = r[j]? := by
  refine ⟨fun h j hj => ?_, fun h => List.ext_getElem? fun j => ?_⟩
  · rw [← rotr_at hk hj, h]
  · by_cases hj : j < r.length
    · rw [rotr_at hk hj, h j hj]
    · have : (rot r k).length = r.length := by unfold rot; rw [List.length_append, List.length_drop, List.length_take]; omega
      rw [List.getElem?_eq_none (by omega), List.getElem?_eq_none (by omega)]
def entN (r : Ro) (i : Nat) : Option Int := r.getD (i % r.length) none
theorem ent_nat (r : Ro) (i : Nat) : ent r (i : Int) = entN r i := by
  unfold ent entN
  rw [← Int.natCast_emod, Int.toNat_natCast]
theorem entN_at {r : Ro} (h : r ≠ []) (i : Nat) : r[i % r.length]? = some (entN r i) := by
  have hl : 0 < r.length := List.length_pos_iff.mpr h
  unfold entN
  rw [List.getD_eq_getElem?_getD, List.getElem?_eq_getElem (Nat.mod_lt _ hl)]
  rfl
theorem entN_mod (r : Ro) (i : Nat) : entN r (i % r.length) = entN r i := by
  unfold entN
  rw [Nat.mod_mod]
theorem rotN {r : Ro} {k : Nat} (h : r ≠ []) (hk : k ≤ r.length) : rot r k = r ↔ ∀ i, entN r (i + k) = entN r i := by
  have hl : 0 < r.length := List.length_pos_iff.mpr h
  rw [rot_iff hk]
  refine ⟨fun q i => ?_, fun q j hj => ?_⟩
  · have := q (i % r.length) (Nat.mod_lt _ hl)
    rw [entN_at h] at this
    have e2 : r[i % r.length]? = some (entN r i) := entN_at h i
    rw [e2] at this
    have e3 := Option.some.inj this
    rw [← e3]
    unfold entN
    rw [Nat.mod_add_mod]
  · have := q j
    rw [entN_at h, this]
    have e2 := entN_at h j
    rw [Nat.mod_eq_of_lt hj] at e2
    exact e2.symm
theorem per_dvd {r : Ro} (h : r ≠ []) (L : Nat) : (∀ i, entN r (i + L) = entN r i) ↔ rtp r ∣ L := by
  obtain ⟨p1, p2, p3, p4⟩ := rtp_spec h
  have hp := (rotN h p4).mp p2
  have mul : ∀ q i, entN r (i + rtp r * q) = entN r i := by
    intro q
    induction q with
    | zero => intro i; rw [Nat.mul_zero, Nat.add_zero]
    | succ q ih => intro i; rw [Nat.mul_succ, ← Nat.add_assoc, hp, ih]
  refine ⟨fun q => ?_, fun ⟨c, hc⟩ i => by rw [hc, mul]⟩
  by_cases hs : L % rtp r = 0
  · exact Nat.dvd_of_mod_eq_zero hs
  · exfalso
    have hlt : L % rtp r < rtp r := Nat.mod_lt _ (by omega)
    refine p3 (L % rtp r) (by omega) hlt ((rotN h (by omega)).mpr fun i => ?_)
    have e : i + L = (i + L % rtp r) + rtp r * (L / rtp r) := by
      have := Nat.mod_add_div L (rtp r)
      omega
    rw [← q i, e, mul]
/-- the pairs of a tick -/
def prs (rs : List Ro) (m : Int) : Nat → List (Nat × Int)
  | 0 => []
  | k + 1 => prs rs m k ++ (match rs[k]? with | some r => (match ent r m with | some z => [(k, z)] | none => []) | none => [])
theorem prs_lt (rs : List Ro) (m : Int) : ∀ k, ∀ p ∈ prs rs m k, p.1 < k
  | 0, p, h => by cases h
  | k + 1, p, h => by
    unfold prs at h
    rcases List.mem_append.mp h with h | h
    · have := prs_lt rs m k p h
      omega
    · cases hk : rs[k]? with
      | none => rw [hk] at h; cases h
      | some r =>
        rw [hk] at h
        simp only at h
        cases he : ent r m with
        | none => rw [he] at h; cases h
        | some z =>
          rw [he] at h
          rw [List.mem_singleton.mp h]
          exact Nat.lt_succ_self k
theorem look_none {l : List (Nat × Int)} {k : Nat} (h : ∀ p ∈ l, p.1 < k) : l.lookup k = none := by
  induction l with
  | nil => rfl
  | cons p l ih =>
    have h1 := h p (List.mem_cons_self ..)
    obtain ⟨a, b⟩ := p
    rw [List.lookup_cons, ih fun q hq => h q (List.mem_cons_of_mem _ hq)]
    have : (k == a) = false := by simp only [beq_eq_false_iff_ne]; simp at h1; omega
    rw [this]
theorem prs_look (rs : List Ro) (m : Int) : ∀ K k r, k < K → rs[k]? = some r → (prs rs m K).lookup k = ent r m
  | K + 1, k, r, hk, hr => by
    unfold prs
    rw [List.lookup_append]
    by_cases e : k = K
    · subst e
      rw [look_none (prs_lt rs m k), hr]
      simp only [Option.none_or]
      cases ent r m with
      | none => rfl
      | some z => simp [List.lookup]
    · rw [prs_look rs m K k r (by omega) hr]
      have e2 : (match rs[K]? with | some r => (match ent r m with | some z => [(K, z)] | none => []) | none => [] : List (Nat × Int)).lookup k = none := by
        have hb : (k == K) = false := by simpa using e
        cases rs[K]? with
        | none => rfl
        | some r2 =>
          simp only
          cases ent r2 m with
          | none => rfl
          | some z => simp [List.lookup, hb]
      rw [e2, Option.or_none]
theorem prs_eq {rs : List Ro} {m m' : Int} : ∀ K, (∀ k r, k < K → rs[k]? = some r → ent r m = ent r m') → prs rs m K = prs rs m' K
  | 0, _ => rfl
  | K + 1, h => by
    unfold prs
    rw [prs_eq K fun k r hk hr => h k r (by omega) hr]
    cases hr : rs[K]? with
    | none => rfl
    | some r => simp only [h K r (by omega) hr]
theorem prs_iff {rs : List Ro} {m m' : Int} : prs rs m rs.length = prs rs m' rs.length ↔ ∀ r ∈ rs, ent r m = ent r m' := by
  refine ⟨fun h r hr => ?_, fun h => prs_eq _ fun k r _ hr => h r (List.mem_of_getElem? hr)⟩
  obtain ⟨k, hk, e⟩ := List.getElem_of_mem hr
  have e2 : rs[k]? = some r := by rw [List.getElem?_eq_getElem hk, e]
  rw [← prs_look rs m rs.length k r hk e2, ← prs_look rs m' rs.length k r hk e2, h]
end Sv


set_option maxHeartbeats 1000000
/-! layouts and ticks, the mathematics alone -/
namespace Sv
def sumN (zs : List Int) : Nat := (zs.map Int.toNat).sum
theorem sum_int {zs : List Int} (h : ∀ z ∈ zs, 0 ≤ z) : zs.sum = (sumN zs : Nat) := by
  unfold sumN
  induction zs with
  | nil => rfl
  | cons z zs ih =>
    have h1 := h z (List.mem_cons_self ..)
    have h2 := ih fun x hx => h x (List.mem_cons_of_mem _ hx)
    simp only [List.sum_cons, List.map_cons]
    rw [h2]
    omega
def segs {α : Type} (cs : List α) : Nat → List Int → List (List α)
  | _, [] => []
  | st, z :: zs => (cs.drop st).take z.toNat :: segs cs (st + z.toNat) zs
theorem segs_len {α : Type} (cs : List α) : ∀ (st : Nat) (zs : List Int), (segs cs st zs).length = zs.length
  | _, [] => rfl
  | st, z :: zs => congrArg Nat.succ (segs_len cs _ zs)
theorem segs_flat {α : Type} (cs : List α) : ∀ (st : Nat) (zs : List Int), (segs cs st zs).flatten = (cs.drop st).take (sumN zs)
  | st, [] => by
    show [] = (cs.drop st).take 0
    rw [List.take_zero]
  | st, z :: zs => by
    show (cs.drop st).take z.toNat ++ (segs cs (st + z.toNat) zs).flatten = (cs.drop st).take (sumN (z :: zs))
    rw [segs_flat cs _ zs]
    have e : sumN (z :: zs) = z.toNat + sumN zs := by unfold sumN; rw [List.map_cons, List.sum_cons]
    rw [e, List.take_add, List.drop_drop]
theorem segs_snoc {α : Type} (cs : List α) : ∀ (st : Nat) (zs : List Int) (z : Int), segs cs st (zs ++ [z]) = segs cs st zs ++ [(cs.drop (st + sumN zs)).take z.toNat]
  | st, [], z => by
    show [(cs.drop st).take z.toNat] = _
    rfl
  | st, y :: zs, z => by
    show (cs.drop st).take y.toNat :: segs cs (st + y.toNat) (zs ++ [z]) = _
    rw [segs_snoc cs _ zs z]
    have e : sumN (y :: zs) = y.toNat + sumN zs := by unfold sumN; rw [List.map_cons, List.sum_cons]
    rw [e, ← Nat.add_assoc]
    rfl
theorem sumN_snoc (zs : List Int) (z : Int) : sumN (zs ++ [z]) = sumN zs + z.toNat := by unfold sumN; simp
theorem segs_lens {α : Type} (cs : List α) : ∀ (st : Nat) (zs : List Int), st + sumN zs ≤ cs.length → (segs cs st zs).map List.length = zs.map Int.toNat
  | _, [], _ => rfl
  | st, z :: zs, h => by
    have e : sumN (z :: zs) = z.toNat + sumN zs := by unfold sumN; rw [List.map_cons, List.sum_cons]
    rw [e] at h
    show ((cs.drop st).take z.toNat).length :: (segs cs (st + z.toNat) zs).map List.length = _
    rw [segs_lens cs _ zs (by omega), List.length_take, List.length_drop, List.map_cons]
    congr 1
    omega
/-! ### layouts -/
abbrev Lay (α : Type) := List α × List (List α)
def join {α : Type} (L : Lay α) : List α := L.1 ++ L.2.flatten
def mapL {α β : Type} (f : α → β) (L : Lay α) : Lay β := (L.1.map f, L.2.map (List.map f))
theorem join_map {α β : Type} (f : α → β) (L : Lay α) : join (mapL f L) = (join L).map f := by
  unfold join mapL
  rw [List.map_append, List.map_flatten]
/-- a carrier at a shelf -/
def step1 {α : Type} (L : Lay α) (p : Nat × Nat) : Lay α := match L.1[p.1]?, L.2[p.2]? with
  | some x, some row => (L.1.set p.1 (row.headD x), L.2.set p.2 (row ++ [x]).tail)
  | _, _ => L
def steps {α : Type} (ps : List (Nat × Nat)) (L : Lay α) : Lay α := ps.foldl step1 L
theorem steps_snoc {α : Type} (ps : List (Nat × Nat)) (p : Nat × Nat) (L : Lay α) : steps (ps ++ [p]) L = step1 (steps ps L) p := by
  unfold steps
  rw [List.foldl_append]
  rfl
theorem step1_map {α β : Type} (f : α → β) (L : Lay α) (p : Nat × Nat) : step1 (mapL f L) p = mapL f (step1 L p) := by
  unfold step1 mapL
  simp only [List.getElem?_map]
  cases L.1[p.1]? with
  | none => rfl
  | some x =>
    cases L.2[p.2]? with
    | none => rfl
    | some row =>
      simp only [Option.map_some, List.map_set]
      refine Prod.ext ?_ ?_
      · simp only
        congr 1
        cases row <;> rfl
      · simp only
        congr 1
        rw [List.map_tail, List.map_append]
        rfl
theorem steps_map {α β : Type} (f : α → β) : ∀ (ps : List (Nat × Nat)) (L : Lay α), steps ps (mapL f L) = mapL f (steps ps L)
  | [], _ => rfl
  | p :: ps, L => by
    show steps ps (step1 (mapL f L) p) = mapL f (steps ps (step1 L p))
    rw [step1_map, steps_map f ps]
/-- so many carriers, so much on the shelves -/
def Fits {α : Type} (n : Nat) (zs : List Int) (L : Lay α) : Prop := L.1.length = n ∧ L.2.map List.length = zs.map Int.toNat
theorem step1_fits {α : Type} {n : Nat} {zs : List Int} {L : Lay α} (h : Fits n zs L) (p : Nat × Nat) : Fits n zs (step1 L p) := by
  unfold step1
  cases h1 : L.1[p.1]? with
  | none => exact h
  | some x =>
    cases h2 : L.2[p.2]? with
    | none => exact h
    | some row =>
      refine ⟨by simp only [List.length_set]; exact h.1, ?_⟩
      simp only
      rw [List.map_set, ← h.2]
      have e : ((row ++ [x]).tail).length = row.length := by simp
      rw [e]
      refine List.ext_getElem? fun i => ?_
      by_cases hi : p.2 = i
      · subst hi
        obtain ⟨hlt, hv⟩ := List.getElem?_eq_some_iff.mp h2
        rw [List.getElem?_set_self (by simpa using hlt), List.getElem?_map, h2]
        rfl
      · rw [List.getElem?_set_ne hi]
theorem steps_fits {α : Type} {n : Nat} {zs : List Int} : ∀ (ps : List (Nat × Nat)) {L : Lay α}, Fits n zs L → Fits n zs (steps ps L)
  | [], _, h => h
  | p :: ps, _, h => steps_fits ps (step1_fits h p)
theorem count_set {l : List Nat} {i x y : Nat} (h : l[i]? = some x) (a : Nat) : (l.set i y).count a + (if x = a then 1 else 0) = l.count a + (if y = a then 1 else 0) := by
  induction l generalizing i with
  | nil => cases h
  | cons z l ih =>
    cases i with
    | zero =>
      cases h
      simp only [List.set_cons_zero, List.count_cons, beq_iff_eq]
      omega
    | succ i =>
      have := ih (i := i) (by simpa using h)
      simp only [List.set_cons_succ, List.count_cons]
      omega
theorem count_flat_set {l : List (List Nat)} {i : Nat} {x y : List Nat} (h : l[i]? = some x) (a : Nat) : (l.set i y).flatten.count a + x.count a = l.flatten.count a + y.count a := by
  induction l generalizing i with
  | nil => cases h
  | cons z l ih =>
    cases i with
    | zero =>
      cases h
      simp only [List.set_cons_zero, List.flatten_cons, List.count_append]
      omega
    | succ i =>
      have := ih (i := i) (by simpa using h)
      simp only [List.set_cons_succ, List.flatten_cons, List.count_append]
      omega
theorem step1_perm (L : Lay Nat) (p : Nat × Nat) : (join (step1 L p)).Perm (join L) := by
  unfold step1
  cases h1 : L.1[p.1]? with
  | none => exact .refl _
  | some x =>
    cases h2 : L.2[p.2]? with
    | none => exact .refl _
    | some row =>
      refine List.perm_iff_count.mpr fun a => ?_
      unfold join
      simp only [List.count_append]
      have e1 := count_set (y := row.headD x) h1 a
      have e2 := count_flat_set (y := (row ++ [x]).tail) h2 a
      have e3 : (if row.headD x = a then 1 else 0) + ((row ++ [x]).tail).count a = row.count a + (if x = a then 1 else 0) := by
        cases row with
        | nil => simp
        | cons y row =>
          simp only [List.headD_cons, List.cons_append, List.tail_cons, List.count_append, List.count_cons, List.count_nil]
          by_cases q1 : y = a <;> by_cases q2 : x = a <;> simp [q1, q2] <;> omega
      omega
theorem steps_perm : ∀ (ps : List (Nat × Nat)) (L : Lay Nat), (join (steps ps L)).Perm (join L)
  | [], _ => .refl _
  | p :: ps, L => (steps_perm ps (step1 L p)).trans (step1_perm L p)
/-! ### of a list, and back -/
def spl {α : Type} (n : Nat) (zs : List Int) (cs : List α) : Lay α := (cs.take n, segs cs n zs)
theorem segs_map {α β : Type} (f : α → β) (cs : List α) : ∀ (st : Nat) (zs : List Int), segs (cs.map f) st zs = (segs cs st zs).map (List.map f)
  | _, [] => rfl
  | st, z :: zs => by
    show ((cs.map f).drop st).take z.toNat :: segs (cs.map f) (st + z.toNat) zs = ((cs.drop st).take z.toNat).map f :: (segs cs (st + z.toNat) zs).map (List.map f)
    rw [segs_map f cs, List.map_take, List.map_drop]
theorem spl_map {α β : Type} (f : α → β) (n : Nat) (zs : List Int) (cs : List α) : spl n zs (cs.map f) = mapL f (spl n zs cs) := by
  unfold spl mapL
  rw [segs_map, List.map_take]
theorem join_spl {α : Type} {n : Nat} {zs : List Int} {cs : List α} (h : cs.length = n + sumN zs) : join (spl n zs cs) = cs := by
  unfold join spl
  simp only
  rw [segs_flat, List.take_of_length_le (l := cs.drop n) (by rw [List.length_drop]; omega), List.take_append_drop]
theorem spl_fits {α : Type} {n : Nat} {zs : List Int} {cs : List α} (h : cs.length = n + sumN zs) : Fits n zs (spl n zs cs) := by
  refine ⟨?_, segs_lens cs n zs (by omega)⟩
  show (cs.take n).length = n
  rw [List.length_take]
  omega
theorem flat_len2 {α : Type} : ∀ {ss : List (List α)} {zs : List Int}, ss.map List.length = zs.map Int.toNat → ss.flatten.length = sumN zs
  | [], [], _ => rfl
  | [], _ :: _, h => by cases h
  | _ :: _, [], h => by cases h
  | s :: ss, z :: zs, h => by
    rw [List.map_cons, List.map_cons] at h
    injection h with h1 h2
    rw [List.flatten_cons, List.length_append, flat_len2 h2]
    unfold sumN
    rw [List.map_cons, List.sum_cons]
    omega
theorem join_len {α : Type} {n : Nat} {zs : List Int} {L : Lay α} (h : Fits n zs L) : (join L).length = n + sumN zs := by
  unfold join
  rw [List.length_append, h.1, flat_len2 h.2]
theorem segs_of {α : Type} : ∀ {ss : List (List α)} {zs : List Int} (pre : List α), ss.map List.length = zs.map Int.toNat → segs (pre ++ ss.flatten) pre.length zs = ss
  | [], [], _, _ => rfl
  | [], _ :: _, _, h => by cases h
  | _ :: _, [], _, h => by cases h
  | s :: ss, z :: zs, pre, h => by
    rw [List.map_cons, List.map_cons] at h
    injection h with h1 h2
    show ((pre ++ (s ++ ss.flatten)).drop pre.length).take z.toNat :: segs (pre ++ (s ++ ss.flatten)) (pre.length + z.toNat) zs = s :: ss
    rw [List.drop_left, ← h1, List.take_left]
    have e := segs_of (pre ++ s) h2
    rw [List.length_append, List.append_assoc] at e
    rw [e]
theorem spl_join {α : Type} {n : Nat} {zs : List Int} {L : Lay α} (h : Fits n zs L) : spl n zs (join L) = L := by
  unfold spl join
  obtain ⟨a, b⟩ := L
  obtain ⟨h1, h2⟩ := h
  simp only at h1 h2 ⊢
  rw [← h1, List.take_left, segs_of a h2]
/-- the numbers of the places -/
def idx (n : Nat) (zs : List Int) : Lay Nat := spl n zs (List.range (n + sumN zs))
theorem idx_fits (n : Nat) (zs : List Int) : Fits n zs (idx n zs) := spl_fits (by rw [List.length_range])
theorem join_idx (n : Nat) (zs : List Int) : join (idx n zs) = List.range (n + sumN zs) := join_spl (by rw [List.length_range])
theorem map_getD {α : Type} (d : α) (cs : List α) : (List.range cs.length).map (fun i => cs.getD i d) = cs := by
  refine List.ext_getElem? fun i => ?_
  by_cases h : i < cs.length
  · rw [List.getElem?_map, List.getElem?_range h, Option.map_some, List.getD_eq_getElem?_getD, List.getElem?_eq_getElem h]
    rfl
  · rw [List.getElem?_eq_none (by simp; omega), List.getElem?_eq_none (by omega)]
theorem lay_idx {α : Type} (d : α) {n : Nat} {zs : List Int} {L : Lay α} (h : Fits n zs L) : L = mapL (fun i => (join L).getD i d) (idx n zs) := by
  unfold idx
  rw [← spl_map, ← join_len h, map_getD, spl_join h]
/-! ### ticks -/
/-- the visits of the tick behind the time t -/
def vis (rs : List Ro) (t : Int) : List (Nat × Nat) := (prs rs t rs.length).map fun p => (p.1, p.2.toNat)
def tickL {α : Type} (rs : List Ro) (t : Int) (L : Lay α) : Lay α := steps (vis rs t) L
def run {α : Type} (rs : List Ro) (t : Int) : Nat → Lay α → Lay α
  | 0, L => L
  | k + 1, L => tickL rs (t + (k : Nat)) (run rs t k L)
theorem run_add {α : Type} (rs : List Ro) (t : Int) (a : Nat) : ∀ (b : Nat) (L : Lay α), run rs t (a + b) L = run rs (t + (a : Nat)) b (run rs t a L)
  | 0, _ => rfl
  | b + 1, L => by
    show tickL rs (t + ((a + b : Nat) : Int)) (run rs t (a + b) L) = tickL rs (t + (a : Nat) + (b : Nat)) (run rs (t + (a : Nat)) b (run rs t a L))
    rw [run_add rs t a b L]
    congr 1
    omega
theorem run_map {α β : Type} (f : α → β) (rs : List Ro) (t : Int) : ∀ (k : Nat) (L : Lay α), run rs t k (mapL f L) = mapL f (run rs t k L)
  | 0, _ => rfl
  | k + 1, L => by
    show tickL _ _ (run rs t k (mapL f L)) = mapL f (tickL _ _ (run rs t k L))
    rw [run_map f rs t k L]
    exact steps_map f _ _
theorem run_fits {α : Type} {n : Nat} {zs : List Int} (rs : List Ro) (t : Int) : ∀ (k : Nat) {L : Lay α}, Fits n zs L → Fits n zs (run rs t k L)
  | 0, _, h => h
  | k + 1, _, h => steps_fits _ (run_fits rs t k h)
theorem run_perm (rs : List Ro) (t : Int) : ∀ (k : Nat) (L : Lay Nat), (join (run rs t k L)).Perm (join L)
  | 0, _ => .refl _
  | k + 1, L => (steps_perm _ _).trans (run_perm rs t k L)
/-- from which place what is at each place now has come -/
def org (n : Nat) (zs : List Int) (rs : List Ro) (t : Int) (k : Nat) : List Nat := join (run rs t k (idx n zs))
theorem org_len (n : Nat) (zs : List Int) (rs : List Ro) (t : Int) (k : Nat) : (org n zs rs t k).length = n + sumN zs := join_len (run_fits rs t k (idx_fits n zs))
theorem org_eff (n : Nat) (zs : List Int) (rs : List Ro) (t : Int) (k : Nat) : Eff (org n zs rs t k) := by
  have p : (org n zs rs t k).Perm (List.range (n + sumN zs)) := by
    have := run_perm rs t k (idx n zs)
    rwa [join_idx] at this
  refine ⟨fun x hx => ?_, p.nodup_iff.mpr List.nodup_range⟩
  rw [org_len]
  exact List.mem_range.mp (p.mem_iff.mp hx)
theorem run_org {α : Type} (d : α) {n : Nat} {zs : List Int} {L : Lay α} (h : Fits n zs L) (rs : List Ro) (t : Int) (k : Nat) : join (run rs t k L) = (org n zs rs t k).map fun i => (join L).getD i d := by
  have e := lay_idx d h
  unfold org
  rw [← join_map, ← run_map, ← e]
theorem org_add (n : Nat) (zs : List Int) (rs : List Ro) (t : Int) (a b : Nat) : org n zs rs t (a + b) = comp (org n zs rs (t + (a : Nat)) b) (org n zs rs t a) := by
  show join (run rs t (a + b) (idx n zs)) = _
  rw [run_add, run_org 0 (run_fits rs t a (idx_fits n zs))]
  rfl
theorem org_zero (n : Nat) (zs : List Int) (rs : List Ro) (t : Int) : org n zs rs t 0 = List.range (n + sumN zs) := join_idx n zs
end Sv


set_option maxHeartbeats 1000000
/-! effects of any number of ticks, the mathematics alone -/
namespace Sv
/-! ### the pattern -/
theorem ent_mod (r : Ro) (h : r ≠ []) (m : Int) : ent r m = entN r (m % (r.length : Int)).toNat := by
  have hl : 0 < r.length := List.length_pos_iff.mpr h
  have h0 := Int.emod_nonneg m (by omega : (r.length : Int) ≠ 0)
  have h1 := Int.emod_lt_of_pos m (by omega : (0 : Int) < (r.length : Int))
  unfold ent entN
  rw [Nat.mod_eq_of_lt (by omega)]
theorem ent_add {r : Ro} (h : r ≠ []) {L : Nat} (hd : rtp r ∣ L) (m : Int) : ent r (m + (L : Nat)) = ent r m := by
  have hl : 0 < r.length := List.length_pos_iff.mpr h
  have h0 := Int.emod_nonneg m (by omega : (r.length : Int) ≠ 0)
  have e : ent r (m + (L : Nat)) = ent r (((m % (r.length : Int)).toNat + L : Nat) : Int) := by
    unfold ent
    congr 2
    rw [Int.natCast_add, Int.toNat_of_nonneg h0, Int.emod_add_emod]
  rw [e, ent_nat, (per_dvd h L).mpr hd, ent_mod r h m]
theorem prs_add {rs : List Ro} (h : ∀ r ∈ rs, r ≠ []) {L : Nat} (hd : lc rs ∣ L) (m : Int) : prs rs (m + (L : Nat)) rs.length = prs rs m rs.length :=
  prs_iff.mpr fun r hr => ent_add (h r hr) (lc_dvd.mp hd r hr) m
theorem prs_mod {rs : List Ro} (h : ∀ r ∈ rs, r ≠ []) {m m' : Int} (e : (lc rs : Int) ∣ m - m') : prs rs m rs.length = prs rs m' rs.length := by
  have key : ∀ (m : Int) (q : Nat), prs rs (m + ((lc rs * q : Nat) : Int)) rs.length = prs rs m rs.length := fun m q => prs_add h (Nat.dvd_mul_right _ _) m
  obtain ⟨c, hc⟩ := e
  by_cases h0 : 0 ≤ c
  · obtain ⟨q, rfl⟩ := Int.eq_ofNat_of_zero_le h0
    rw [show m = m' + ((lc rs * q : Nat) : Int) by rw [Int.natCast_mul]; omega]
    exact key _ _
  · obtain ⟨q, hq⟩ := Int.eq_ofNat_of_zero_le (show 0 ≤ -c by omega)
    have e2 : m' = m + ((lc rs * q : Nat) : Int) := by
      rw [Int.natCast_mul, ← hq, Int.mul_neg]
      omega
    rw [e2]
    exact (key _ _).symm
theorem vis_mod {rs : List Ro} (h : ∀ r ∈ rs, r ≠ []) {m m' : Int} (e : (lc rs : Int) ∣ m - m') : vis rs m = vis rs m' := by
  unfold vis
  rw [prs_mod h e]
theorem run_mod {α : Type} {rs : List Ro} (h : ∀ r ∈ rs, r ≠ []) {m m' : Int} (e : (lc rs : Int) ∣ m - m') : ∀ (k : Nat) (L : Lay α), run rs m k L = run rs m' k L
  | 0, _ => rfl
  | k + 1, L => by
    show steps (vis rs (m + (k : Nat))) (run rs m k L) = steps (vis rs (m' + (k : Nat))) (run rs m' k L)
    rw [run_mod h e k L, vis_mod h (m := m + (k : Nat)) (m' := m' + (k : Nat)) (by rwa [show m + (k : Nat) - (m' + (k : Nat)) = m - m' by omega])]
theorem org_mod {n : Nat} {zs : List Int} {rs : List Ro} (h : ∀ r ∈ rs, r ≠ []) {m m' : Int} (e : (lc rs : Int) ∣ m - m') (k : Nat) : org n zs rs m k = org n zs rs m' k := by
  unfold org
  rw [run_mod h e]
/-! ### inverses and conjugates -/
theorem ap_inv {e : List Nat} (E : Eff e) {q : Nat} (hq : q < e.length) : ap e (ap (inv e) q) = q := by
  have := inv_ap (inv_eff E) (i := q) (by rw [inv_len]; exact hq)
  rwa [inv_inv E] at this
theorem inv_comp {a b : List Nat} (A : Eff a) (B : Eff b) (hl : a.length = b.length) : inv (comp a b) = comp (inv b) (inv a) := by
  have C := comp_eff A B hl
  refine ext_ap (by rw [inv_len, comp_len, comp_len, inv_len, hl]) fun q hq => ?_
  rw [inv_len, comp_len] at hq
  rw [comp_ap (by rw [inv_len]; omega)]
  have h1 : ap (inv b) q < b.length := by
    have := ap_lt (inv_eff B) (x := q) (by rw [inv_len]; omega)
    rwa [inv_len] at this
  have h2 : ap (inv a) (ap (inv b) q) < a.length := by
    have := ap_lt (inv_eff A) (x := ap (inv b) q) (by rw [inv_len]; omega)
    rwa [inv_len] at this
  have h3 : ap (comp a b) (ap (inv a) (ap (inv b) q)) = q := by
    rw [comp_ap h2, ap_inv A (by omega), ap_inv B (by omega)]
  have h4 := inv_ap C (i := ap (inv a) (ap (inv b) q)) (by rw [comp_len]; exact h2)
  rwa [h3] at h4
theorem comp_one {e : List Nat} : comp e (List.range e.length) = e → True := fun _ => trivial
theorem range_ap {n p : Nat} (h : p < n) : ap (List.range n) p = p := by
  unfold ap
  rw [List.getD_eq_getElem?_getD, List.getElem?_range h]
  rfl
theorem comp_rg {e : List Nat} (E : Eff e) {n : Nat} (hn : e.length = n) : comp e (List.range n) = e := by
  refine ext_ap (comp_len _ _) fun p hp => ?_
  rw [comp_len] at hp
  rw [comp_ap hp, range_ap (by rw [← hn]; exact ap_lt E hp)]
theorem rg_comp {e : List Nat} {n : Nat} (hn : e.length = n) : comp (List.range n) e = e := by
  refine ext_ap (by rw [comp_len, List.length_range, hn]) fun p hp => ?_
  rw [comp_len, List.length_range] at hp
  rw [comp_ap (by rw [List.length_range]; exact hp), range_ap hp]
theorem inv_range (n : Nat) : inv (List.range n) = List.range n := by
  have R : Eff (List.range n) := ⟨fun x hx => by rw [List.length_range]; exact List.mem_range.mp hx, List.nodup_range⟩
  refine ext_ap (inv_len _) fun p hp => ?_
  rw [inv_len, List.length_range] at hp
  have := inv_ap R (i := p) (by rw [List.length_range]; exact hp)
  rw [range_ap hp] at this
  rw [this, range_ap hp]
section
variable {x v w : List Nat}
theorem conj_it (X : Eff x) (V : Eff v) (hv : x.length = v.length) (hw : x.length = w.length) (c : comp x w = comp v x) : ∀ (k : Nat) {p : Nat}, p < x.length → it w k (ap x p) = ap x (it v k p)
  | 0, _, _ => rfl
  | k + 1, p, hp => by
    show ap w (it w k (ap x p)) = ap x (ap v (it v k p))
    rw [conj_it X V hv hw c k hp]
    have hk : it v k p < x.length := by rw [hv]; exact it_lt V (by omega)
    have this : ap (comp x w) (it v k p) = ap (comp v x) (it v k p) := congrArg (fun e => ap e (it v k p)) c
    rwa [comp_ap hk, comp_ap (by omega)] at this
theorem conj_per (X : Eff x) (V : Eff v) (W : Eff w) (hv : x.length = v.length) (hw : x.length = w.length) (c : comp x w = comp v x) {p : Nat} (hp : p < x.length) : per w (ap x p) = per v p := by
  have hx := ap_lt X hp
  refine Nat.dvd_antisymm ?_ ?_
  · refine (it_eq_iff W (by omega) _).mp ?_
    rw [conj_it X V hv hw c _ hp, (it_eq_iff V (by omega) _).mpr (Nat.dvd_refl _)]
  · refine (it_eq_iff V (by omega) _).mp ?_
    have h1 := (it_eq_iff W (s := ap x p) (by omega) _).mpr (Nat.dvd_refl _)
    rw [conj_it X V hv hw c _ hp] at h1
    exact ap_inj X (by rw [hv]; exact it_lt V (by omega)) hp h1
theorem conj_rep (X : Eff x) (V : Eff v) (W : Eff w) (hv : x.length = v.length) (hw : x.length = w.length) (c : comp x w = comp v x) (q : Int) : comp x (rep w q) = comp (rep v q) x := by
  refine ext_ap (by rw [comp_len, comp_len, rep_len, hv]) fun p hp => ?_
  rw [comp_len] at hp
  have hx := ap_lt X hp
  rw [comp_ap hp, rep_ap (by omega), comp_ap (by rw [rep_len]; omega), rep_ap (by omega)]
  unfold rp
  rw [conj_per X V W hv hw c hp, conj_it X V hv hw c _ hp]
end
/-! ### effects of ticks -/
section
variable (n : Nat) (zs : List Int) (rs : List Ro)
/-- so many ticks on -/
def fwd (t : Int) (k : Nat) : List Nat := inv (org n zs rs t k)
theorem fwd_len (t : Int) (k : Nat) : (fwd n zs rs t k).length = n + sumN zs := (inv_len _).trans (org_len ..)
theorem fwd_eff (t : Int) (k : Nat) : Eff (fwd n zs rs t k) := inv_eff (org_eff ..)
theorem fwd_add (t : Int) (a b : Nat) : fwd n zs rs t (a + b) = comp (fwd n zs rs t a) (fwd n zs rs (t + (a : Nat)) b) := by
  unfold fwd
  rw [org_add, inv_comp (org_eff ..) (org_eff ..) (by rw [org_len, org_len])]
theorem fwd_zero (t : Int) : fwd n zs rs t 0 = List.range (n + sumN zs) := by
  unfold fwd
  rw [org_zero, inv_range]
variable {rs}
theorem fwd_mod (h : ∀ r ∈ rs, r ≠ []) {m m' : Int} (e : (lc rs : Int) ∣ m - m') (k : Nat) : fwd n zs rs m k = fwd n zs rs m' k := by
  unfold fwd
  rw [org_mod h e]
variable (rs)
/-- a pattern -/
noncomputable def wh (t : Int) : List Nat := fwd n zs rs t (lc rs)
theorem wh_len (t : Int) : (wh n zs rs t).length = n + sumN zs := fwd_len ..
theorem wh_eff (t : Int) : Eff (wh n zs rs t) := fwd_eff ..
/-- any number of ticks, on or back -/
noncomputable def effT (t c : Int) : List Nat := comp (rep (wh n zs rs t) (c / (lc rs : Int))) (fwd n zs rs t (c % (lc rs : Int)).toNat)
theorem effT_len (t c : Int) : (effT n zs rs t c).length = n + sumN zs := by
  unfold effT
  rw [comp_len, rep_len, wh_len]
theorem effT_eff (t c : Int) : Eff (effT n zs rs t c) := comp_eff (rep_eff (wh_eff ..) _) (fwd_eff ..) (by rw [rep_len, wh_len, fwd_len])
variable {rs}
variable (h : ∀ r ∈ rs, r ≠ []) (hp : 1 ≤ lc rs)
include h
theorem wh_mod {m m' : Int} (e : (lc rs : Int) ∣ m - m') : wh n zs rs m = wh n zs rs m' := fwd_mod n zs h e _
theorem fwd_wh (t : Int) (a : Nat) : comp (fwd n zs rs t a) (wh n zs rs (t + (a : Nat))) = comp (wh n zs rs t) (fwd n zs rs t a) := by
  have e1 := fwd_add n zs rs t a (lc rs)
  have e2 := fwd_add n zs rs t (lc rs) a
  rw [Nat.add_comm, e2, fwd_mod n zs h (m := t + (lc rs : Nat)) (m' := t) ⟨1, by omega⟩] at e1
  exact e1.symm
theorem fwd_rep (t : Int) (a : Nat) (q : Int) : comp (fwd n zs rs t a) (rep (wh n zs rs (t + (a : Nat))) q) = comp (rep (wh n zs rs t) q) (fwd n zs rs t a) :=
  conj_rep (fwd_eff ..) (wh_eff ..) (wh_eff ..) (by rw [fwd_len, wh_len]) (by rw [fwd_len, wh_len]) (fwd_wh n zs h t a) q
theorem fwd_mul (t : Int) : ∀ q : Nat, fwd n zs rs t (q * lc rs) = rep (wh n zs rs t) (q : Nat)
  | 0 => by rw [Nat.zero_mul, fwd_zero, show ((0 : Nat) : Int) = 0 from rfl, rep_zero, wh_len]
  | q + 1 => by
    rw [Nat.succ_mul, fwd_add, fwd_mul t q, ← rep_succ (wh_eff ..)]
    congr 1
    exact fwd_mod n zs h ⟨q, by rw [Int.natCast_mul, Int.mul_comm]; omega⟩ _
include hp
theorem effT_key (t q : Int) (r : Nat) : comp (rep (wh n zs rs t) q) (fwd n zs rs t r) = effT n zs rs t (q * (lc rs : Int) + (r : Nat)) := by
  have hP : (0 : Int) < (lc rs : Int) := by omega
  have e0 := Nat.div_add_mod r (lc rs)
  have e1 : fwd n zs rs t r = comp (rep (wh n zs rs t) ((r / lc rs : Nat) : Int)) (fwd n zs rs t (r % lc rs)) := by
    have := fwd_add n zs rs t (r / lc rs * lc rs) (r % lc rs)
    rw [Nat.mul_comm, e0, Nat.mul_comm, fwd_mul n zs h] at this
    rw [this]
    congr 1
    exact fwd_mod n zs h ⟨((r / lc rs : Nat) : Int), by rw [Int.natCast_mul, Int.mul_comm]; omega⟩ _
  rw [e1, ← comp_assoc (rep_eff (wh_eff ..) _) (by rw [rep_len, rep_len]), rep_comp (wh_eff ..)]
  unfold effT
  have e2 : q * (lc rs : Int) + (r : Nat) = (q + ((r / lc rs : Nat) : Int)) * (lc rs : Int) + ((r % lc rs : Nat) : Int) := by
    have : (r : Int) = (lc rs : Int) * ((r / lc rs : Nat) : Int) + ((r % lc rs : Nat) : Int) := by
      rw [← Int.natCast_mul]
      omega
    rw [this, Int.add_mul, Int.mul_comm (lc rs : Int)]
    omega
  have hlt : ((r % lc rs : Nat) : Int) < (lc rs : Int) := by
    have := Nat.mod_lt r (show 0 < lc rs by omega)
    omega
  have e3 : (q * (lc rs : Int) + (r : Nat)) / (lc rs : Int) = q + ((r / lc rs : Nat) : Int) := by
    rw [e2, Int.add_comm, Int.add_mul_ediv_right _ _ (by omega), Int.ediv_eq_zero_of_lt (by omega) hlt, Int.zero_add]
  have e4 : (q * (lc rs : Int) + (r : Nat)) % (lc rs : Int) = ((r % lc rs : Nat) : Int) := by
    rw [e2, Int.add_comm, Int.add_mul_emod_self_right, Int.emod_eq_of_lt (by omega) hlt]
  rw [e3, e4, Int.toNat_natCast]
theorem effT_nat (t : Int) (k : Nat) : effT n zs rs t (k : Nat) = fwd n zs rs t k := by
  have := effT_key n zs h hp t 0 k
  rw [rep_zero, wh_len, rg_comp (fwd_len ..)] at this
  rw [this]
  congr 1
  omega
theorem effT_zero (t : Int) : effT n zs rs t 0 = List.range (n + sumN zs) := by
  have := effT_nat n zs h hp t 0
  rw [fwd_zero] at this
  exact this
theorem effT_mod {m m' : Int} (e : (lc rs : Int) ∣ m - m') (c : Int) : effT n zs rs m c = effT n zs rs m' c := by
  unfold effT
  rw [wh_mod n zs h e, fwd_mod n zs h e]
theorem effT_add (t a b : Int) : effT n zs rs t (a + b) = comp (effT n zs rs t a) (effT n zs rs (t + a) b) := by
  have hP : (0 : Int) < (lc rs : Int) := by omega
  have hra := Int.emod_nonneg a (Int.ne_of_gt hP)
  have hrb := Int.emod_nonneg b (Int.ne_of_gt hP)
  have ea := Int.mul_ediv_add_emod a (lc rs : Int)
  have eb := Int.mul_ediv_add_emod b (lc rs : Int)
  have e1 : effT n zs rs (t + a) b = effT n zs rs (t + ((a % (lc rs : Int)).toNat : Nat)) b := effT_mod n zs h hp ⟨a / (lc rs : Int), by rw [Int.toNat_of_nonneg hra]; omega⟩ b
  rw [e1]
  have hl : ∀ (s s' : Int) (k : Nat) (q : Int), (rep (wh n zs rs s) q).length = (fwd n zs rs s' k).length := fun s s' k q => by rw [rep_len, wh_len, fwd_len]
  show _ = comp (comp (rep (wh n zs rs t) (a / (lc rs : Int))) (fwd n zs rs t (a % (lc rs : Int)).toNat)) (comp (rep (wh n zs rs (t + ((a % (lc rs : Int)).toNat : Nat))) (b / (lc rs : Int))) (fwd n zs rs (t + ((a % (lc rs : Int)).toNat : Nat)) (b % (lc rs : Int)).toNat))
  rw [comp_assoc (rep_eff (wh_eff ..) _) (hl _ _ _ _), ← comp_assoc (a := fwd n zs rs t (a % (lc rs : Int)).toNat) (fwd_eff ..) (hl _ _ _ _).symm, fwd_rep n zs h,
    comp_assoc (a := rep (wh n zs rs t) (b / (lc rs : Int))) (rep_eff (wh_eff ..) _) (hl _ _ _ _), ← fwd_add, ← comp_assoc (rep_eff (wh_eff ..) _) (by rw [rep_len, rep_len]), rep_comp (wh_eff ..), effT_key n zs h hp]
  congr 1
  rw [Int.natCast_add, Int.toNat_of_nonneg hra, Int.toNat_of_nonneg hrb, Int.add_mul, Int.mul_comm _ (lc rs : Int), Int.mul_comm _ (lc rs : Int)]
  omega
theorem effT_neg (t c : Int) : effT n zs rs (t + c) (-c) = inv (effT n zs rs t c) := by
  have e := effT_add n zs h hp t c (-c)
  rw [show c + -c = 0 by omega, effT_zero n zs h hp] at e
  refine ext_ap (by rw [effT_len, inv_len, effT_len]) fun q hq => ?_
  rw [effT_len] at hq
  have E := effT_eff n zs rs t c
  have hl := effT_len n zs rs t c
  have h1 : ap (inv (effT n zs rs t c)) q < n + sumN zs := by
    have := ap_lt (inv_eff E) (x := q) (by rw [inv_len, hl]; exact hq)
    rwa [inv_len, hl] at this
  have h2 : ap (List.range (n + sumN zs)) (ap (inv (effT n zs rs t c)) q) = ap (comp (effT n zs rs t c) (effT n zs rs (t + c) (-c))) (ap (inv (effT n zs rs t c)) q) := congrArg (fun l => ap l (ap (inv (effT n zs rs t c)) q)) e
  rw [range_ap h1, comp_ap (by rw [hl]; exact h1), ap_inv E (by rw [hl]; exact hq)] at h2
  exact h2.symm
end
end Sv


set_option maxHeartbeats 1000000
/-! the cycles, one after another; the order -/
namespace Sv
noncomputable def cyc (e : List Nat) (s : Nat) : List Nat := (List.range (per e s)).map fun k => it e k s
theorem cyc_len (e : List Nat) (s : Nat) : (cyc e s).length = per e s := by unfold cyc; simp
theorem cyc_at {e : List Nat} {s j : Nat} (h : j < per e s) : (cyc e s)[j]? = some (it e j s) := by
  unfold cyc
  rw [List.getElem?_map, List.getElem?_range h]
  rfl
theorem cyc_mem {e : List Nat} (E : Eff e) {s : Nat} (hs : s < e.length) {p : Nat} : p ∈ cyc e s ↔ ∃ k, p = it e k s := by
  unfold cyc
  rw [List.mem_map]
  constructor
  · rintro ⟨k, _, rfl⟩
    exact ⟨k, rfl⟩
  · rintro ⟨k, rfl⟩
    exact ⟨k % per e s, List.mem_range.mpr (Nat.mod_lt _ (per_pos E hs)), (it_mod E hs k).symm⟩
theorem cyc_nodup {e : List Nat} (E : Eff e) {s : Nat} (hs : s < e.length) : (cyc e s).Nodup := map_nodup fun i j hij hj q => by
  have e1 : it e j s = it e i (it e (j - i) s) := by
    rw [← it_add]
    congr 1
    omega
  rw [e1] at q
  have q2 := (it_inj (k := i) E hs (it_lt E hs) q).symm
  exact (per_spec E hs).2.2.1 (j - i) (by omega) (by omega) q2
open Classical in
noncomputable def whN (e : List Nat) : Nat → List (List Nat)
  | 0 => []
  | k + 1 => if k ∈ (whN e k).flatten then whN e k else whN e k ++ [cyc e k]
noncomputable def wheels (e : List Nat) : List (List Nat) := whN e e.length
structure Wh (e : List Nat) (cs : List (List Nat)) : Prop where
  cy : ∀ c ∈ cs, ∃ s, s < e.length ∧ c = cyc e s
  nd : cs.flatten.Nodup
theorem Wh.lt {e : List Nat} (E : Eff e) {cs : List (List Nat)} (W : Wh e cs) {p : Nat} (h : p ∈ cs.flatten) : p < e.length := by
  obtain ⟨c, hc, hp⟩ := List.mem_flatten.mp h
  obtain ⟨s, hs, rfl⟩ := W.cy c hc
  obtain ⟨k, rfl⟩ := (cyc_mem E hs).mp hp
  exact it_lt E hs
theorem Wh.closed {e : List Nat} (E : Eff e) {cs : List (List Nat)} (W : Wh e cs) {p j : Nat} (hp : p < e.length) (h : it e j p ∈ cs.flatten) : p ∈ cs.flatten := by
  obtain ⟨c, hc, hm⟩ := List.mem_flatten.mp h
  obtain ⟨s, hs, rfl⟩ := W.cy c hc
  obtain ⟨k, hk⟩ := (cyc_mem E hs).mp hm
  refine List.mem_flatten.mpr ⟨_, hc, (cyc_mem E hs).mpr ⟨(per e p - j % per e p) + k, ?_⟩⟩
  have hpos := per_pos E hp
  have hlt := Nat.mod_lt j hpos
  rw [it_add, ← hk, it_mod E hp j, ← it_add]
  rw [show per e p - j % per e p + j % per e p = per e p by omega]
  exact (per_spec E hp).2.1.symm
theorem whN_ok {e : List Nat} (E : Eff e) : ∀ k, k ≤ e.length → Wh e (whN e k) ∧ ∀ p, p < k → p ∈ (whN e k).flatten
  | 0, _ => ⟨⟨fun c h => (by cases h), List.nodup_nil⟩, fun p h => by omega⟩
  | k + 1, hk => by
    obtain ⟨W, hc⟩ := whN_ok E k (by omega)
    unfold whN
    by_cases h : k ∈ (whN e k).flatten
    · rw [if_pos h]
      refine ⟨W, fun p hp => ?_⟩
      by_cases hpk : p = k
      · rw [hpk]; exact h
      · exact hc p (by omega)
    · rw [if_neg h]
      refine ⟨⟨fun c hm => ?_, ?_⟩, fun p hp => ?_⟩
      · rcases List.mem_append.mp hm with hm | hm
        · exact W.cy c hm
        · exact ⟨k, by omega, by simpa using hm⟩
      · rw [List.flatten_append, List.flatten_singleton]
        refine List.nodup_append.mpr ⟨W.nd, cyc_nodup E (by omega), fun a ha b hb q => ?_⟩
        subst q
        obtain ⟨j, hj⟩ := (cyc_mem E (by omega)).mp hb
        rw [hj] at ha
        exact h (W.closed E (by omega) ha)
      · rw [List.flatten_append, List.flatten_singleton]
        by_cases hpk : p = k
        · rw [hpk]
          exact List.mem_append_right _ ((cyc_mem E (by omega)).mpr ⟨0, rfl⟩)
        · exact List.mem_append_left _ (hc p (by omega))
theorem wheels_ok {e : List Nat} (E : Eff e) : Wh e (wheels e) ∧ ∀ p, p < e.length → p ∈ (wheels e).flatten := whN_ok E _ (Nat.le_refl _)
theorem Wh.flat_len {e : List Nat} (E : Eff e) {cs : List (List Nat)} (W : Wh e cs) : cs.flatten.length ≤ e.length := below_len W.nd fun x hx => W.lt E hx
theorem Wh.len {e : List Nat} (E : Eff e) {cs : List (List Nat)} (W : Wh e cs) : cs.length ≤ e.length := by
  have h : ∀ cs : List (List Nat), (∀ c ∈ cs, 1 ≤ c.length) → cs.length ≤ cs.flatten.length := by
    intro cs
    induction cs with
    | nil => intro _; exact Nat.le_refl _
    | cons c r ih =>
      intro h
      have h1 := h c (List.mem_cons_self ..)
      have h2 := ih fun d hd => h d (List.mem_cons_of_mem _ hd)
      rw [List.flatten_cons, List.length_append]
      show r.length + 1 ≤ _
      omega
  refine Nat.le_trans (h cs fun c hc => ?_) (W.flat_len E)
  obtain ⟨s, hs, rfl⟩ := W.cy c hc
  rw [cyc_len]
  exact per_pos E hs
/-! ### the order -/
def lcmL (cs : List (List Nat)) : Nat := cs.foldl (fun m c => Nat.lcm m c.length) 1
theorem lcmL_snoc (cs : List (List Nat)) (c : List Nat) : lcmL (cs ++ [c]) = Nat.lcm (lcmL cs) c.length := by
  unfold lcmL
  rw [List.foldl_append]
  rfl
theorem snoc_ind {α : Type} {P : List α → Prop} (h0 : P []) (h1 : ∀ l a, P l → P (l ++ [a])) (l : List α) : P l := by
  have h : ∀ n (l : List α), l.length = n → P l := by
    intro n
    induction n with
    | zero => intro l hl; rw [List.eq_nil_of_length_eq_zero hl]; exact h0
    | succ n ih =>
      intro l hl
      have hne : l ≠ [] := fun q => by rw [q] at hl; cases hl
      rw [← List.dropLast_concat_getLast hne]
      exact h1 _ _ (ih _ (by rw [List.length_dropLast]; omega))
  exact h _ l rfl
theorem lcmL_dvd (cs : List (List Nat)) : ∀ c ∈ cs, c.length ∣ lcmL cs := by
  refine snoc_ind (P := fun cs => ∀ c ∈ cs, c.length ∣ lcmL cs) (fun c h => by cases h) (fun l a ih c h => ?_) cs
  rw [lcmL_snoc]
  rcases List.mem_append.mp h with h | h
  · exact Nat.dvd_trans (ih c h) (Nat.dvd_lcm_left _ _)
  · have e : c = a := by simpa using h
    rw [e]
    exact Nat.dvd_lcm_right _ _
theorem lcmL_least (cs : List (List Nat)) (m : Nat) : (∀ c ∈ cs, c.length ∣ m) → lcmL cs ∣ m := by
  refine snoc_ind (P := fun cs => (∀ c ∈ cs, c.length ∣ m) → lcmL cs ∣ m) (fun _ => Nat.one_dvd _) (fun l a ih h => ?_) cs
  rw [lcmL_snoc]
  exact Nat.lcm_dvd (ih fun c hc => h c (List.mem_append_left _ hc)) (h a (by simp))
theorem lcmL_bound (cs : List (List Nat)) : lcmL cs ≤ 2 ^ cs.flatten.length := by
  refine snoc_ind (P := fun cs => lcmL cs ≤ 2 ^ cs.flatten.length) (by decide) (fun l a ih => ?_) cs
  rw [lcmL_snoc, List.flatten_append, List.flatten_singleton, List.length_append, Nat.pow_add]
  have h1 : Nat.lcm (lcmL l) a.length ≤ lcmL l * a.length := by
    unfold Nat.lcm
    exact Nat.div_le_self _ _
  refine Nat.le_trans h1 (Nat.mul_le_mul ih (Nat.le_of_lt Nat.lt_two_pow_self))
noncomputable def ord (e : List Nat) : Nat := lcmL (wheels e)
theorem per_dvd_ord {e : List Nat} (E : Eff e) {p : Nat} (hp : p < e.length) : per e p ∣ ord e := by
  obtain ⟨W, h⟩ := wheels_ok E
  obtain ⟨c, hc, hm⟩ := List.mem_flatten.mp (h p hp)
  obtain ⟨s, hs, rfl⟩ := W.cy c hc
  obtain ⟨k, rfl⟩ := (cyc_mem E hs).mp hm
  have q := lcmL_dvd _ _ hc
  rw [cyc_len] at q
  rw [per_it E hs]
  exact q
theorem ord_dvd {e : List Nat} (E : Eff e) {m : Nat} (h : ∀ p, p < e.length → per e p ∣ m) : ord e ∣ m := by
  obtain ⟨W, _⟩ := wheels_ok E
  refine lcmL_least _ _ fun c hc => ?_
  obtain ⟨s, hs, rfl⟩ := W.cy c hc
  rw [cyc_len]
  exact h s hs
theorem lcmL_pos {e : List Nat} (E : Eff e) {cs : List (List Nat)} : Wh e cs → 0 < lcmL cs := by
  intro W
  refine snoc_ind (P := fun cs => (∀ c ∈ cs, 0 < c.length) → 0 < lcmL cs) (fun _ => by decide) (fun l a ih h => ?_) cs fun c hc => ?_
  · rw [lcmL_snoc]
    exact Nat.lcm_pos (ih fun c hc => h c (List.mem_append_left _ hc)) (h a (by simp))
  · obtain ⟨s, hs, rfl⟩ := W.cy c hc
    rw [cyc_len]
    exact per_pos E hs
theorem ord_pos {e : List Nat} (E : Eff e) : 0 < ord e := lcmL_pos E (wheels_ok E).1
theorem rp_dvd {e : List Nat} (E : Eff e) {p : Nat} (hp : p < e.length) {c d : Int} (h : c % (ord e : Int) = d % (ord e : Int)) : rp e c p = rp e d p := by
  obtain ⟨m, hm⟩ := per_dvd_ord E hp
  have h2 : (per e p : Int) ∣ (ord e : Int) := ⟨(m : Int), by rw [hm, Int.natCast_mul]⟩
  unfold rp
  rw [← Int.emod_emod_of_dvd c h2, h, Int.emod_emod_of_dvd d h2]
theorem rep_mod {e : List Nat} (E : Eff e) {c d : Int} (h : c % (ord e : Int) = d % (ord e : Int)) : rep e c = rep e d := List.map_congr_left fun p hp => rp_dvd E (List.mem_range.mp hp) h
theorem rep_ord {e : List Nat} (E : Eff e) : rep e (ord e : Int) = List.range e.length := by
  rw [← rep_zero]
  exact rep_mod E (by rw [Int.emod_self, Int.zero_emod])
theorem rep_id_dvd {e : List Nat} (E : Eff e) {m : Nat} (h : rep e (m : Int) = List.range e.length) : ord e ∣ m := ord_dvd E fun p hp => by
  have q := congrArg (fun l => ap l p) h
  have q : ap (rep e (m : Int)) p = ap (List.range e.length) p := q
  rw [rep_ap hp, rp_nat E m hp] at q
  have e2 : ap (List.range e.length) p = p := by
    unfold ap
    rw [List.getD_eq_getElem?_getD, List.getElem?_range hp]
    rfl
  rw [e2] at q
  exact (it_eq_iff E hp m).mp q
theorem ord_least {e : List Nat} (E : Eff e) {k : Nat} (hk : 2 ≤ k) (hd : (ord e) % k = 0) : rep e ((ord e / k : Nat) : Int) ≠ List.range e.length := fun h => by
  have q := Nat.le_of_dvd (Nat.div_pos (Nat.le_of_dvd (ord_pos E) (Nat.dvd_of_mod_eq_zero hd)) (by omega)) (rep_id_dvd E h)
  have := Nat.div_lt_self (ord_pos E) hk
  omega
end Sv


set_option maxHeartbeats 4000000
namespace Sv
open PySem PySem.Spec PyProof.Rows L2
theorem b_isinstance : bootBuiltins "isinstance" = some (.builtin "isinstance") := by decide +kernel
theorem b_len : bootBuiltins "len" = some (.builtin "len") := by decide +kernel
theorem b_max : bootBuiltins "max" = some (.builtin "max") := by decide +kernel
theorem b_bool : bootBuiltins "bool" = some (.type "bool") := by decide +kernel
theorem b_int : bootBuiltins "int" = some (.type "int") := by decide +kernel
theorem b_str : bootBuiltins "str" = some (.type "str") := by decide +kernel
theorem b_list : bootBuiltins "list" = some (.type "list") := by decide +kernel
theorem b_tuple : bootBuiltins "tuple" = some (.type "tuple") := by decide +kernel
theorem b_dict : bootBuiltins "dict" = some (.type "dict") := by decide +kernel
theorem pe_ty {X : Cx} {x : Str} {T : String} {pos : Pos} (hg : Gl X x) (hm : X.mg x = none) (hv : bootBuiltins x = some (.type T)) (hn : x ≠ "__name__" := by decide) (hd : (x == ("__debug__" : Str)) = false := by decide) : PE X (.Name x pos) (tC (.ty T)) :=
  pe_bltn hg hm hv rfl hn hd
theorem b_sum : bootBuiltins "sum" = some (.builtin "sum") := by decide +kernel
theorem scWithin : FnScope ["number", "low", "high"] ["number", "low", "high"] (defScope sWithin) := ⟨rfl, rfl, rfl, by decide +kernel, rfl, by decide +kernel, by decide +kernel⟩
section
variable {P : Program} {w : World} {K : PySem.W.Frag} {mg : Str → Option Value} {base : Heap}
def spWithin : Sp := fun vs H Q _ => ∃ n lo hi : Int, vs = [.int n, .int lo, .int hi] ∧ Q (.bl (decide (lo ≤ n ∧ n ≤ hi))) H
theorem isi_ty {K : PySem.W.Frag} {H : Hp} {Q : VK} {x : V} {a b : String} {r : Bool} (t : TyX K H x (.type a)) (h : kitB a b = some r) (q : Q (.bl r) H) : rIsi K [x, .ty b] H Q :=
  ⟨x, .ty b, _, _, r, rfl, .ty b, t, kit_ty h, q⟩
theorem ok_within {f : Addr} {fd : FuncData} {k : Nat} (F : Fun K "is_within" "is_within" sWithin f fd) (mi : mg "isinstance" = none) (mb : mg "bool" = none) (mn : mg "int" = none) :
    FnOk P w K mg base CX0 (k + 1) f fd ["number", "low", "high"] spWithin := by
  refine F.ok scWithin (fun vs H Q E h => ?_) (fun cdv A outer s H vs Q E hr h => ?_)
  · obtain ⟨n, lo, hi, rfl, _⟩ := h
    rfl
  · obtain ⟨n, lo, hi, rfl, q⟩ := h
    refine ⟨_, pss_cons (ps_if (pw_or (pt_val (pe_callB call_isi (by rfl) mi b_isinstance (pa_cons (pv 0) (pa_cons (pe_ty (by rfl) mb b_bool) pa_nil))))
        (pw_or1 (pt_not (pt_val (pe_callB call_isi (by rfl) mi b_isinstance (pa_cons (pv 0) (pa_cons (pe_ty (by rfl) mn b_int) pa_nil))))))).pt
      (pss_one (ps_ret pe_bl)) pss_nil)
      (pss_one (ps_ret (pe_chain op_le op_le (pv 1) (pv 0) (pv 2)))), ?_⟩
    refine ⟨.int n, rfl, .int n, .ty "bool", _, _, false, rfl, .ty "bool", .base (.int n), kit_ty (by decide +kernel), false, rfl, iteF ?_⟩
    refine ⟨.int n, rfl, .int n, .ty "int", _, _, true, rfl, .ty "int", .base (.int n), kit_ty (by decide +kernel), true, rfl, iteF ?_⟩
    refine ⟨.int lo, rfl, .int n, rfl, lo, n, rfl, rfl, _, rfl, ?_⟩
    by_cases h1 : lo ≤ n
    · rw [decide_eq_true h1]
      refine iteT ⟨.int hi, rfl, n, hi, rfl, rfl, ?_⟩
      show Q (.bl (decide (n ≤ hi))) H
      have e : decide (n ≤ hi) = decide (lo ≤ n ∧ n ≤ hi) := by simp [h1]
      rw [e]
      exact q
    · rw [decide_eq_false h1]
      have e : decide (lo ≤ n ∧ n ≤ hi) = false := by simp [h1]
      rw [e] at q
      exact iteF q
end
theorem tyx_tup {K : PySem.W.Frag} {H : Hp} {a : Addr} {xs : List V} (h : SqT K H a xs) : TyX K H (.ref a) (.type "tuple") := by
  rcases h with (h | ⟨o, h⟩) | ⟨o, its, n, h1, h2, _⟩
  · exact .base (.tup h)
  · exact .fTuple h
  · exact .kTuple h1 h2
structure Bt (mg : Str → Option Value) : Prop where
  isinstance : mg "isinstance" = none
  bool : mg "bool" = none
  int : mg "int" = none
  str : mg "str" = none
  list : mg "list" = none
  tuple : mg "tuple" = none
  dict : mg "dict" = none
  len : mg "len" = none
  range : mg "range" = none
  enumerate : mg "enumerate" = none
  max : mg "max" = none
  sum : mg "sum" = none
  set : mg "set" = none
  zip : mg "zip" = none
  divmod : mg "divmod" = none
  sorted : mg "sorted" = none
  abs : mg "abs" = none
  min : mg "min" = none
structure Df (K : PySem.W.Frag) (mg : Str → Option Value) (x : Str) (st : Stmt) (ps : List Str) (f : Addr) (fd : FuncData) : Prop where
  F : Fun K x x st f fd
  b : Binds K fd ps []
  g : mg x = some (.ref f)
theorem same_upd {H : Hp} {p : Addr} {o : HO} (h : H p = none) : Same H (upd H p o) := fun b x e => by
  rw [upd_ne (ne_of_none e h)]
  exact e
theorem same_of {H H' : Hp} {p : Addr} {o : HO} (e : Same H H') (h : H p = none) : Same H (upd H' p o) := fun b x q => by
  rw [upd_ne (ne_of_none q h)]
  exact e b x q
theorem sqT_same {K : PySem.W.Frag} {H H' : Hp} {a : Addr} {xs : List V} (e : Same H H') (h : SqT K H a xs) : SqT K H' a xs := by
  rcases h with (h | ⟨o, h⟩) | h
  · exact .inl (.inl (e _ _ h))
  · exact .inl (.inr ⟨o, e _ _ h⟩)
  · exact .inr h
theorem sz1000 {n : Nat} (h : n ≤ 1000) : n ≤ sizeLine := Nat.le_of_lt (small1000 h)
theorem yes_go {σ2 : L2.St} {H2 : Hp} {A B : Hp → Prop} (h : A H2) : tYes σ2 H2 (fun b H3 => if b = true then A H3 else B H3) := by
  show (if true = true then A H2 else B H2)
  rw [if_pos rfl]
  exact h
theorem ixN_nat {n j : Nat} (h : j < n) : ixN n (j : Int) = some j := by
  unfold ixN
  rw [if_pos (by omega), if_pos (by omega), Int.toNat_natCast]
/-! ### the law's source of draws -/
structure LawH (H : Hp) (h l : Addr) : Prop where
  ex : ∃ (m i : Int) (cs : List Int), H h = some (.lst [.int m, .ref l, .int i]) ∧ H l = some (.lst (cs.map V.int)) ∧ cs.length ≤ 1000
def SameX (h l : Addr) (H H' : Hp) : Prop := ∀ b o, b ≠ h → b ≠ l → H b = some o → H' b = some o
theorem LawH.ne {H : Hp} {h l : Addr} (x : LawH H h l) : h ≠ l := by
  obtain ⟨m, i, cs, e1, e2, _⟩ := x.ex
  intro z
  subst z
  rw [e1] at e2
  have e3 := HO.lst.inj (Option.some.inj e2)
  match cs, e3 with
  | [], e3 => cases e3
  | [_], e3 => cases e3
  | _ :: _ :: _, e3 => cases e3
theorem LawH.same {H H' : Hp} {h l : Addr} (x : LawH H h l) (e : Same H H') : LawH H' h l := by
  obtain ⟨m, i, cs, e1, e2, e3⟩ := x.ex
  exact ⟨m, i, cs, e _ _ e1, e _ _ e2, e3⟩
theorem SameX.of {H H' : Hp} {h l : Addr} (e : Same H H') : SameX h l H H' := fun b o _ _ q => e b o q
theorem SameX.trans {H H1 H2 : Hp} {h l : Addr} (a : SameX h l H H1) (b : SameX h l H1 H2) : SameX h l H H2 := fun c o h1 h2 q => b c o h1 h2 (a c o h1 h2 q)
section
variable {P : Program} {w : World} {K : PySem.W.Frag} {mg : Str → Option Value} {base : Heap}
theorem scNext : FnScope ["_law_h", "_law_limit", "_law_cell"] ["_law_h", "_law_limit"] (defScope sNext) := ⟨rfl, rfl, rfl, by decide +kernel, rfl, by decide +kernel, by decide +kernel⟩
theorem scMix : FnScope ["_law_script", "_law_seed", "_law_mixed", "_law_cell"] ["_law_script", "_law_seed"] (defScope sMix) := ⟨rfl, rfl, rfl, by decide +kernel, rfl, by decide +kernel, by decide +kernel⟩
def spNext : Sp := fun vs H Q _ => ∃ (h l : Addr) (lim : Int), vs = [.ref h, .int lim] ∧ LawH H h l ∧ 0 < lim ∧ lim < 2 ^ 64 ∧ ∀ r H', 0 ≤ r → r < lim → LawH H' h l → SameX h l H H' → Q (.int r) H'
theorem ok_next {f : Addr} {fd : FuncData} (F : Fun K "_law_next" "_law_next" sNext f fd) (B : Bt mg) : FnOk P w K mg base CX0 1 f fd ["_law_h", "_law_limit"] spNext := by
  refine F.ok scNext (fun vs H Q E h => ?_) (fun cdv A outer s H vs Q E hr h => ?_)
  · obtain ⟨h, l, lim, rfl, _⟩ := h
    rfl
  · obtain ⟨h, l, lim, rfl, LH, p1, p2, q⟩ := h
    have LHx := LH
    have hne := LH.ne
    obtain ⟨m, i, cs, e1, e2, e3⟩ := LH.ex
    refine ⟨_, pss_cons (ps_set (i := 2) scNext.nd rfl (Or.inl rfl) (pe_ix ix_list (pe_op op_cat (pe_ix ix_list (pv 0) pe_int (fun _ _ => rfl)) (pe_lst (pa_cons pe_int pa_nil)))
        (pe_op op_mod (pe_callTy call_int1 (by rfl) B.int b_int (pa_cons (pe_ix ix_list (pv 0) pe_int (fun _ _ => rfl)) pa_nil)) (pe_callB (call_max2 rfl) (by rfl) B.max b_max (pa_cons pe_int (pa_cons (pe_callB call_len_seq (by rfl) B.len b_len (pa_cons (pe_ix ix_list (pv 0) pe_int (fun _ _ => rfl)) pa_nil)) pa_nil)))) (fun _ _ => rfl)))
      (pss_cons (ps_if (pt_cmpR op_ge (pv 2) (pe_op op_pow pe_int pe_int) (nomark _))
        (pss_cons (ps_asg (pe_op op_fdivW (pv 2) (pv 1)) (pg_sub (pe_ix ix_list (pv 0) pe_int (fun _ _ => rfl)) (pe_op op_mod (pe_callTy call_int1 (by rfl) B.int b_int (pa_cons (pe_ix ix_list (pv 0) pe_int (fun _ _ => rfl)) pa_nil)) (pe_callB call_len_seq (by rfl) B.len b_len (pa_cons (pe_ix ix_list (pv 0) pe_int (fun _ _ => rfl)) pa_nil))) set_list))
        (pss_one (ps_ret (pe_op op_mod (pe_callTy call_int1 (by rfl) B.int b_int (pa_cons (pv 2) pa_nil)) (pv 1))))) pss_nil)
      (pss_cons (ps_asg (pe_op op_mod (pe_op op_add (pe_op op_add (pe_op op_mul (pe_ix ix_list (pv 0) pe_int (fun _ _ => rfl)) pe_int) (pe_op op_mul (pv 2) pe_int)) pe_int) pe_int) (pg_sub (pv 0) pe_int set_list))
      (pss_cons (ps_asg (pe_op op_add (pe_ix ix_list (pv 0) pe_int (fun _ _ => rfl)) pe_int) (pg_sub (pv 0) pe_int set_list))
      (pss_one (ps_ret (pe_op op_mod (pe_op op_fdiv (pe_ix ix_list (pv 0) pe_int (fun _ _ => rfl)) pe_int) (pv 1))))))), ?_⟩
    refine ⟨.ref h, rfl, h, _, 1, .ref l, rfl, rfl, .inl (.inl e1), rfl, (by show 1 ≤ sizeLine; decide), fun z hz => ?_⟩
    have hl1 : l ≠ z := ne_of_none e2 hz
    have hl2 : h ≠ z := ne_of_none e1 hz
    refine ⟨l, z, _, _, rfl, rfl, by rw [upd_ne hl1]; exact e2, upd_same, ?_, fun u hu => ?_⟩
    · rw [List.length_map]
      show cs.length + 1 ≤ sizeLine
      exact small1000 e3
    have sm1 : Same H (upd H z (.lst [.int 0])) := same_upd hz
    have sm2 : Same H (upd (upd H z (.lst [.int 0])) u (.lst (cs.map V.int ++ [.int 0]))) := same_of sm1 (Same.free sm1 hu)
    generalize hG : upd (upd H z (.lst [.int 0])) u (.lst (cs.map V.int ++ [.int 0])) = G at sm2 ⊢
    have g1 := sm2 _ _ e1
    have g2 := sm2 _ _ e2
    have g3 : G u = some (.lst ((cs ++ [0]).map V.int)) := by rw [← hG, upd_same, List.map_append]; rfl
    have hmax : (if ((cs.map V.int).length : Int) > 1 then ((cs.map V.int).length : Int) else 1) = ((max 1 cs.length : Nat) : Int) := by
      rw [List.length_map]
      split <;> omega
    have hM : (0 : Int) < ((max 1 cs.length : Nat) : Int) := by omega
    have i0 := Int.emod_nonneg i (Int.ne_of_gt hM)
    have i1 := Int.emod_lt_of_pos i hM
    obtain ⟨k, hk⟩ : ∃ k : Nat, i % ((max 1 cs.length : Nat) : Int) = (k : Int) := ⟨_, (Int.toNat_of_nonneg i0).symm⟩
    have hk1 : k < (cs ++ [0]).length := by
      rw [List.length_append]
      show k < cs.length + 1
      omega
    obtain ⟨cell, hcell⟩ : ∃ c, (cs ++ [0])[k]? = some c := ⟨_, List.getElem?_eq_getElem hk1⟩
    refine ⟨.ref h, rfl, h, _, 2, .int i, rfl, rfl, .inl (.inl g1), rfl, .inl ⟨i, rfl, ?_⟩⟩
    refine ⟨.ref h, rfl, h, _, 1, .ref l, rfl, rfl, .inl (.inl g1), rfl, l, _, rfl, .inl (.inl (.inl g2)), 1, _, rfl, ?_⟩
    refine ⟨i, ((max 1 cs.length : Nat) : Int), rfl, congrArg V.int hmax, hM, ?_⟩
    refine ⟨u, _, (k : Int), .int cell, rfl, congrArg V.int hk, .inl (.inl g3), atI_nat (by rw [List.getElem?_map, hcell]; rfl), ?_⟩
    -- the test
    refine ⟨.int cell, rfl, 10, 18, rfl, rfl, ⟨by decide, by decide, by decide⟩, cell, 10 ^ (18 : Int).toNat, rfl, rfl, _, rfl, ite2 (fun hc => ?_) (fun hc => ?_)⟩
    · have hc2 : (10 : Int) ^ (18 : Int).toNat ≤ cell := of_decide_eq_true hc
      have hc3 : (0 : Int) < cell := Int.lt_of_lt_of_le (by decide) hc2
      have hk2 : k < cs.length := by
        by_cases hkl : k < cs.length
        · exact hkl
        · have : k = cs.length := by
            rw [List.length_append] at hk1
            have : k < cs.length + 1 := hk1
            omega
          rw [this, List.getElem?_append_right (Nat.le_refl _), Nat.sub_self] at hcell
          have : (0 : Int) = cell := Option.some.inj hcell
          omega
      have hl0 : (0 : Int) < ((cs.map V.int).length : Int) := by rw [List.length_map]; omega
      have hkk : i % ((cs.map V.int).length : Int) = (k : Int) := by
        rw [List.length_map, ← hk]
        congr 1
        omega
      refine ⟨.int cell, rfl, .int lim, rfl, cell, lim, rfl, rfl, wide_div (b := 64) p1 (by omega) (by decide) (by decide), ?_⟩
      refine ⟨.ref h, rfl, h, _, 1, .ref l, rfl, rfl, .inl (.inl g1), rfl, ?_⟩
      refine ⟨.ref h, rfl, h, _, 2, .int i, rfl, rfl, .inl (.inl g1), rfl, .inl ⟨i, rfl, ?_⟩⟩
      refine ⟨.ref h, rfl, h, _, 1, .ref l, rfl, rfl, .inl (.inl g1), rfl, l, _, rfl, .inl (.inl (.inl g2)), i, _, rfl, rfl, hl0, ?_⟩
      refine ⟨l, cs.map V.int, (k : Int), k, rfl, congrArg V.int hkk, g2, ixN_nat (by rw [List.length_map]; exact hk2), ?_⟩
      refine ⟨.int cell, rfl, .inl ⟨cell, rfl, .int lim, rfl, cell, lim, rfl, rfl, p1, ?_⟩⟩
      refine q _ _ (Int.emod_nonneg _ (Int.ne_of_gt p1)) (Int.emod_lt_of_pos _ p1) ⟨m, i, cs.set k (cell / lim), ?_, ?_, ?_⟩ (fun b o h1 h2 hb => ?_)
      · rw [upd_ne hne]
        exact g1
      · rw [upd_same, List.map_set]
      · rw [List.length_set]
        exact e3
      · rw [upd_ne h2]
        exact sm2 _ _ hb
    · refine ⟨.ref h, rfl, h, _, 0, .int m, rfl, rfl, .inl (.inl g1), rfl, m, 48271, rfl, rfl, .inr ⟨by decide, by decide⟩, ?_⟩
      refine ⟨.int cell, rfl, cell, 69621, rfl, rfl, .inr ⟨by decide, by decide⟩, _, _, rfl, rfl, _, 11, rfl, rfl, _, 2147483647, rfl, rfl, (by decide : (0 : Int) < 2147483647), ?_⟩
      refine ⟨.ref h, rfl, h, _, 0, 0, rfl, rfl, g1, rfl, ?_⟩
      obtain ⟨m', hm'⟩ : ∃ m' : Int, (m * 48271 + cell * 69621 + 11) % 2147483647 = m' := ⟨_, rfl⟩
      have hmv : (fun i j => V.int (i % j)) (m * 48271 + cell * 69621 + 11) 2147483647 = V.int m' := congrArg V.int hm'
      rw [hmv]
      have g1' : (upd G h (.lst ([V.int m, V.ref l, V.int i].set 0 (V.int m')))) h = some (.lst [.int m', .ref l, .int i]) := upd_same
      refine ⟨.ref h, rfl, h, _, 2, .int i, rfl, rfl, .inl (.inl g1'), rfl, i, 1, rfl, rfl, ?_⟩
      refine ⟨.ref h, rfl, h, _, 2, 2, rfl, rfl, g1', rfl, ?_⟩
      generalize hG2 : upd (upd G h (.lst ([V.int m, V.ref l, V.int i].set 0 (V.int m')))) h (.lst ([V.int m', V.ref l, V.int i].set 2 (V.int (i + 1)))) = G2
      have g1'' : G2 h = some (.lst [.int m', .ref l, .int (i + 1)]) := by rw [← hG2]; exact upd_same
      refine ⟨.ref h, rfl, h, _, 0, .int m', rfl, rfl, .inl (.inl g1''), rfl, m', 7, rfl, rfl, ⟨by decide, by decide⟩, .int lim, rfl, _, lim, rfl, rfl, p1, ?_⟩
      refine q _ _ (Int.emod_nonneg _ (Int.ne_of_gt p1)) (Int.emod_lt_of_pos _ p1) ⟨m', i + 1, cs, g1'', ?_, e3⟩ (fun b o h1 h2 hb => ?_)
      · rw [← hG2, upd_ne (Ne.symm hne), upd_ne (Ne.symm hne)]
        exact g2
      · rw [← hG2, upd_ne h1, upd_ne h1]
        exact sm2 _ _ hb
/-! ### _law_mix -/
def spMix (K : PySem.W.Frag) : Sp := fun vs H Q _ => ∃ (a : Addr) (ns : List Int) (seed : Int), vs = [.ref a, .int seed] ∧ SqL K H a (ns.map V.int) ∧ ns.length ≤ 63 ∧ ∀ H' h l, LawH H' h l → Same H H' → H h = none → H l = none → Q (.ref h) H'
theorem ok_mix {f : Addr} {fd : FuncData} (F : Fun K "_law_mix" "_law_mix" sMix f fd) (B : Bt mg) : FnOk P w K mg base CX0 1 f fd ["_law_script", "_law_seed"] (spMix K) := by
  refine F.ok scMix (fun vs H Q E h => ?_) (fun cdv A outer s H vs Q E hr h => ?_)
  · obtain ⟨a, ns, seed, rfl, _⟩ := h
    rfl
  · obtain ⟨a, ns, seed, rfl, hA, hl, q⟩ := h
    refine ⟨_, pss_cons (ps_set (i := 2) scMix.nd rfl (Or.inl rfl) (pv 1))
      (pss_cons (ps_for PassesOwn.never rfl (pi_list (pv 0)) (pg_name (i := 3) scMix.nd rfl (Or.inl rfl))
        (pss_one (ps_set (i := 2) scMix.nd rfl (Or.inl rfl) (pe_op op_mod (pe_op op_add (pe_op op_add (pe_op op_mul (pv 2) pe_int) (pe_op op_mod (pv 3) pe_int)) pe_int) pe_int))))
      (pss_one (ps_ret (pe_lst (pa_cons (pv 2) (pa_cons (pe_callTy call_list_of (by rfl) B.list b_list (pa_cons (pv 0) pa_nil)) (pa_cons pe_int pa_nil))))))), ?_⟩
    refine ⟨.int seed, rfl, .ref a, rfl, a, rfl, ⟨_, hA⟩, for_list (xs := ns.map V.int) (fun i σ H' => (∃ m y3, σ = [some (.ref a), some (.int seed), some (.int m), y3]) ∧ H' = H) ⟨⟨seed, none, rfl⟩, rfl⟩ (fun i σ H' _ h => by rw [h.2]; exact hA) (fun i x σ H' hx ⟨⟨m, y3, es⟩, eH⟩ => ?_) (fun σ H' ⟨⟨m, y3, es⟩, eH⟩ => ?_)⟩
    · subst es
      subst eH
      rw [List.getElem?_map] at hx
      cases hn : ns[i]? with
      | none => rw [hn] at hx; cases hx
      | some n =>
        rw [hn] at hx
        obtain rfl : V.int n = x := Option.some.inj hx
        refine ⟨.int m, rfl, m, 48271, rfl, rfl, .inr ⟨by decide, by decide⟩, .int n, rfl, n, 2147483629, rfl, rfl, (by decide : (0 : Int) < 2147483629), _, _, rfl, rfl, _, 1, rfl, rfl, _, 2147483647, rfl, rfl, (by decide : (0 : Int) < 2147483647), ⟨_, _, rfl⟩, rfl⟩
    · subst es
      subst eH
      refine ⟨.int m, rfl, .ref a, rfl, a, _, rfl, .inl hA, fun l hl2 => ⟨(by show 3 ≤ sizeLine; decide), fun h hh => ?_⟩⟩
      have ln : l ≠ h := ne_of_none upd_same hh
      refine q _ h l ⟨m, 0, ns, upd_same, by rw [upd_ne ln]; exact upd_same, by omega⟩ (same_of (same_upd hl2) (Same.free (same_upd hl2) hh)) (Same.free (same_upd hl2) hh) hl2
end
end Sv


set_option maxHeartbeats 4000000
set_option exponentiation.threshold 2000
namespace Sv
open PySem PySem.Spec PyProof.Rows L2 NdefX
/-! ### InvalidPlan -/
def clsInit : Stmt → Stmt | .ClassDef _ _ _ b _ _ _ _ _ _ _ => b.getD 0 (.Pass ⟨0, 0, 0, 0⟩) | s => s
abbrev sPlanInit : Stmt := clsInit sInvalidPlan
def nfPlan (cc c0 : Addr) : NF := ⟨"__init__", "InvalidPlan.__init__", defArgs sPlanInit, defBody sPlanInit, defScope sPlanInit, [("__class__", cc)], c0⟩
def arPlan : Arg := (defArgs sPlanInit).args.getD 0 ⟨"x", none, ⟨0, 0, 0, 0⟩⟩
def nPI : List Str := ["self", "part", "index", "__class__"]
theorem nsPlan (cc c0 : Addr) : NScope nPI ["self", "part", "index"] ["__class__"] (nfPlan cc c0).scope := by
  show NScope nPI ["self", "part", "index"] ["__class__"] (defScope sPlanInit)
  exact nscope_by (by decide +kernel)
section
variable {P : Program} {w : World} {K : PySem.W.Frag} {mg : Str → Option Value} {base : Heap}
/-- the promise of InvalidPlan.__init__ -/
def spPI (C : Addr) : Sp := fun vs H Q _ => ∃ (a : Addr) (part : Str) (i : Int), vs = [.ref a, .str part, .int i] ∧ H a = some (exo a C none) ∧ part.length ≤ 1000 ∧ i.natAbs < 2 ^ 100 ∧
  ∀ d, H d = none → d ≠ a → Q .non (upd (upd (upd H d (exd d [("part", .str part)])) a (exo a C (some d))) d (exd d [("index", .int i), ("part", .str part)]))
theorem ok_planInit {C fI cc c0 : Addr} {oc : Value} {od : Option Addr} {osl : Array (Option Value)} {doc pm ctv : Value} (S : SupF P K mg C fI cc (nfPlan cc c0) arPlan) (lk : K.lookup fI = some ⟨oc, od, .func ((nfPlan cc c0).fd doc pm ctv), osl⟩)
    (n1 : PySem.W.findIn K (.ref C) "part" = some none) (n2 : PySem.W.findIn K (.ref C) "index" = some none) :
    FnOk P w K mg base CX0 1 fI ((nfPlan cc c0).fd doc pm ctv) ["self", "part", "index"] (spPI C) := by
  refine fnOk_sup (N := nPI) S lk (nsPlan cc c0) rfl rfl rfl (fun vs H Q E h => ?_) (fun _ => rfl) (fun _ => ⟨_, rfl⟩) (fun _ => rfl) (fun _ => rfl) (fun A outer s H vs Q E hr h => ?_)
  · obtain ⟨a, part, i, rfl, _⟩ := h
    rfl
  · obtain ⟨a, part, i, rfl, ha, hl, hi, q⟩ := h
    refine ⟨a, _, _, rfl, ha, pe_joined (.cons pe_str (.cons (pe_fmt (pv 1)) (.cons pe_str (.cons (pe_fmt (pv 2)) .nil)))),
      pss_cons (ps_ost (pv 0) (pv 1)) (pss_one (ps_ost (pv 0) (pv 2))), ?_⟩
    have hz : sizeLine = 16777216 := sizeLine_eq
    have hlog : i.natAbs.log2 < 1920 := by
      have : i.natAbs < 2 ^ 1920 := Nat.lt_trans hi (Nat.pow_lt_pow_right (by decide) (by decide))
      by_cases h0 : i.natAbs = 0
      · rw [h0]
        decide
      · exact (Nat.log2_lt h0).mpr this
    have l4 : (Str.ofString (toString i)).length ≤ 1921 := int_text_len_1921 hlog
    refine ⟨"invalid ", rfl, ?_, .str part, rfl, .inl ⟨part, rfl, by omega, part, rfl, ?_, ", at index ", rfl, ?_, .int i, rfl, .inr ⟨i, rfl, hlog, _, rfl, ?_, ha, ?_⟩⟩⟩
    · decide
    · rw [Str.length_append]
      have : (Str.empty ++ ("invalid " : Str)).length = 8 := by decide
      omega
    · rw [Str.length_append, Str.length_append]
      have : (Str.empty ++ ("invalid " : Str)).length = 8 := by decide
      have : (", at index " : Str).length = 11 := by decide
      omega
    · rw [Str.length_append, Str.length_append, Str.length_append]
      have : (Str.empty ++ ("invalid " : Str)).length = 8 := by decide
      have : (", at index " : Str).length = 11 := by decide
      omega
    · refine ⟨.str part, rfl, .ref a, rfl, a, C, rfl, S.T, n1, .inl ⟨ha, fun d hd hda => ?_⟩⟩
      refine ⟨.int i, rfl, .ref a, rfl, a, C, rfl, S.T, n2, .inr ⟨d, [("part", .str part)], upd_same, ?_, (by show 1 ≤ 900; decide), q d hd hda⟩⟩
      rw [upd_ne hda, upd_same]
/-- the facts of InvalidPlan -/
structure Pl (P : Program) (K : PySem.W.Frag) (mg : Str → Option Value) (C fI : Addr) (fd : FuncData) : Prop where
  ex : ∃ (cc c0 : Addr) (oc : Value) (od : Option Addr) (osl : Array (Option Value)) (doc pm ctv : Value), fd = (nfPlan cc c0).fd doc pm ctv ∧ SupF P K mg C fI cc (nfPlan cc c0) arPlan ∧ K.lookup fI = some ⟨oc, od, .func fd, osl⟩
  n1 : PySem.W.findIn K (.ref C) "part" = some none
  n2 : PySem.W.findIn K (.ref C) "index" = some none
  g : mg "InvalidPlan" = some (.ref C)
  iC : PySem.W.findIn K (.ref C) "__init__" = some (some (.ref fI))
  tI : PySem.W.typeIn K (.ref fI) = some (.type "function")
  b : Binds K fd ["self", "part", "index"] []
  x : XfC K C
theorem Pl.T {C fI : Addr} {fd : FuncData} (p : Pl P K mg C fI fd) : OexC K C := by
  obtain ⟨cc, c0, oc, od, osl, doc, pm, ctv, _, S, _⟩ := p.ex
  exact S.T
theorem Pl.ok {C fI : Addr} {fd : FuncData} (p : Pl P K mg C fI fd) : FnOk P w K mg base CX0 1 fI fd ["self", "part", "index"] (spPI C) := by
  obtain ⟨cc, c0, oc, od, osl, doc, pm, ctv, rfl, S, lk⟩ := p.ex
  exact ok_planInit S lk p.n1 p.n2
/-- what is wanted where InvalidPlan(part, i) is raised -/
def PlanE (C : Addr) (H : Hp) (part : Str) (i : Int) (Q : XK) : Prop := ∀ (H' : Hp) (dd : Addr) (fs : List (Str × V)), Same H H' → H' dd = some (.xd fs) → fs.lookup ("part" : Str) = some (V.str part) → fs.lookup ("index" : Str) = some (V.int i) → Q (.ref C) (some dd) H'
theorem PlanE.imp {C : Addr} {H H1 : Hp} {part : Str} {i : Int} {Q : XK} (h : PlanE C H part i Q) (e : Same H H1) : PlanE C H1 part i Q := fun H' dd fs sm => h H' dd fs (e.trans sm)
theorem pmk_plan {X : Cx} {C fI : Addr} {fd : FuncData} {e1 e2 : Expr} {t1 t2 : TE} {p pos : Pos} (T : Pl X.prog X.K X.mg C fI fd) (hr : Room 2 X.A) (hg : Gl X "InvalidPlan") (h1 : PE X e1 t1) (h2 : PE X e2 t2)
    (s1 : starEach [e1, e2] X.env = (false, eval e1 X.env) :: starEach [e2] X.env := by rfl) (s2 : starEach [e2] X.env = (false, eval e2 X.env) :: starEach [] X.env := by rfl) (hpl : (backTo pos (starEach [e2] X.env)).any (·.1) = false := by rfl) :
    PMk X (.Call (.Name "InvalidPlan" p) [e1, e2] [] pos) (tMkO C (spPI C) [] (tCons t1 (tCons t2 tNil))) := by
  have G : FnOk X.prog X.w X.K X.mg X.base CX0 1 fI fd ["self", "part", "index"] (spPI C) := T.ok
  exact pmk_oex T.T T.iC T.tI G hr T.b .nil pass0 hg T.g (pa_cons h1 (pa_cons h2 pa_nil s2) s1) (by decide) s1 hpl
theorem mk_go {C : Addr} {H : Hp} {part : Str} {i : Int} {Q : XK} (hl : part.length ≤ 1000) (hi : i.natAbs < 2 ^ 100) (q : PlanE C H part i Q) : [V.str part, V.int i].length ≤ 1000 ∧ ∀ a, H a = none → spPI C (.ref a :: ([V.str part, V.int i] ++ [])) (upd H a (exo a C none))
    (fun v H2 => v = .non ∧ ∃ (d : Addr) (fs : List (Str × V)), H2 a = some (exo a C (some d)) ∧ H2 d = some (exd d fs) ∧ H d = none ∧ Q (.ref C) (some d) (upd (del H2 a) d (.xd fs))) (fun _ _ _ => False) := by
  refine ⟨by show 2 ≤ 1000; decide, fun a ha => ⟨a, part, i, rfl, upd_same, hl, hi, fun d hd hda => ⟨rfl, d, _, ?_, upd_same, ?_, q _ d _ (fun b o hb => ?_) upd_same rfl rfl⟩⟩⟩
  · rw [upd_ne (Ne.symm hda), upd_same]
  · rw [upd_ne hda] at hd
    exact hd
  · have hd' : H d = none := by
      rw [upd_ne hda] at hd
      exact hd
    have b1 := ne_of_none hb hd'
    have b2 := ne_of_none hb ha
    rw [upd_ne b1, del_ne b2, upd_ne b1, upd_ne b2, upd_ne b1, upd_ne b2]
    exact hb
end
/-! ### the class Lap -/
end Sv


set_option maxHeartbeats 4000000
namespace Sv
open PySem PySem.Spec PyProof.Rows L2
/-- an own class of exceptions as it stands behind the top -/
structure ExcF (K : PySem.W.Frag) (mg : Str → Option Value) (x : Str) (C : Addr) : Prop where
  g : mg x = some (.ref C)
  x : PySem.W.excIn K C [.type "ValueError", .type "Exception", .type "BaseException", .type "object"] "ValueError.__new__" = true
  k : PySem.W.keepIn K (.ref C) = true
  b : PySem.W.subIn K (.ref C) (.type "BaseException") = some true
  t : PySem.W.typeIn K (.ref C) = some (.type "type")
/-- the facts of the program's defs -/
structure Bd (P : Program) (K : PySem.W.Frag) (mg : Str → Option Value) where
  bt : Bt mg
  lcm : mg "lcm" = some (.builtin "math.lcm")
  C : Addr
  aInit : Addr
  dInit : FuncData
  pl : Pl P K mg C aInit dInit
  m1 : ∃ t, mg "MOST_SHELVES" = some (.int 12 t)
  m2 : ∃ t, mg "MOST_ON_SHELF" = some (.int 9 t)
  m3 : ∃ t, mg "MOST_CARRIERS" = some (.int 6 t)
  m4 : ∃ t, mg "MOST_ENTRIES" = some (.int 6 t)
  CE : Addr
  ce : ExcF K mg "InvalidEffect" CE
  CC : Addr
  cc : ExcF K mg "InvalidCount" CC
  CD : Addr
  cd : ExcF K mg "DifferentSizes" CD
  CS : Addr
  cs : ExcF K mg "InvalidState" CS
  CUp : Addr
  cup : ExcF K mg "UnknownPlace" CUp
  CUr : Addr
  cur : ExcF K mg "UnknownParcel" CUr
  CUs : Addr
  cus : ExcF K mg "UnknownShelf" CUs
  CUc : Addr
  cuc : ExcF K mg "UnknownCarrier" CUc
  aWithin : Addr
  dWithin : FuncData
  Within : Df K mg "is_within" sWithin ["number", "low", "high"] aWithin dWithin
  aPattern : Addr
  dPattern : FuncData
  Pattern : Df K mg "pattern_length" sPattern ["plan"] aPattern dPattern
  aVisits : Addr
  dVisits : FuncData
  Visits : Df K mg "visits" sVisits ["plan", "number"] aVisits dVisits
  aPlaces : Addr
  dPlaces : FuncData
  Places : Df K mg "places" sPlaces ["plan"] aPlaces dPlaces
  aCheckPlan : Addr
  dCheckPlan : FuncData
  CheckPlan : Df K mg "check_plan" sCheckPlan ["plan"] aCheckPlan dCheckPlan
  aCheckSizes : Addr
  dCheckSizes : FuncData
  CheckSizes : Df K mg "check_sizes" sCheckSizes ["sizes"] aCheckSizes dCheckSizes
  aCheckRoutes : Addr
  dCheckRoutes : FuncData
  CheckRoutes : Df K mg "check_routes" sCheckRoutes ["routes", "shelves"] aCheckRoutes dCheckRoutes
  aIsRoute : Addr
  dIsRoute : FuncData
  IsRoute : Df K mg "is_route" sIsRoute ["route", "shelves"] aIsRoute dIsRoute
  aPlacesOf : Addr
  dPlacesOf : FuncData
  PlacesOf : Df K mg "places_of" sPlacesOf ["plan"] aPlacesOf dPlacesOf
  aNumPlaces : Addr
  dNumPlaces : FuncData
  NumPlaces : Df K mg "number_of_places" sNumPlaces ["plan"] aNumPlaces dNumPlaces
  aVisitsIn : Addr
  dVisitsIn : FuncData
  VisitsIn : Df K mg "visits_in_tick" sVisitsIn ["routes", "number"] aVisitsIn dVisitsIn
  aCommon : Addr
  dCommon : FuncData
  Common : Df K mg "common_pattern" sCommon ["routes"] aCommon dCommon
  aRoutePat : Addr
  dRoutePat : FuncData
  RoutePat : Df K mg "route_pattern" sRoutePat ["route"] aRoutePat dRoutePat
  aSplit : Addr
  dSplit : FuncData
  Split : Df K mg "split_layout" sSplit ["plan", "contents"] aSplit dSplit
  aInitial : Addr
  dInitial : FuncData
  Initial : Df K mg "initial_state" sInitial ["plan"] aInitial dInitial
  aStateOf : Addr
  dStateOf : FuncData
  StateOf : Df K mg "state_of" sStateOf ["plan", "time", "parcels"] aStateOf dStateOf
  aLMix : Addr
  dLMix : FuncData
  LMix : Df K mg "_law_mix" sMix ["_law_script", "_law_seed"] aLMix dLMix
  aLNext : Addr
  dLNext : FuncData
  LNext : Df K mg "_law_next" sNext ["_law_h", "_law_limit"] aLNext dLNext
  aLAlike : Addr
  dLAlike : FuncData
  LAlike : Df K mg "_law_alike" sAlike ["_law_found", "_law_due"] aLAlike dLAlike
  aLError : Addr
  dLError : FuncData
  LError : Df K mg "_law_error" sError ["_law_call"] aLError dLError
  aLPlan : Addr
  dLPlan : FuncData
  LPlan : Df K mg "_law_plan" sPlan ["_law_h", "_law_shelves", "_law_carriers"] aLPlan dLPlan
  aLFirstBad : Addr
  dLFirstBad : FuncData
  LFirstBad : Df K mg "_law_first_bad" sFirstBad ["_law_plan_here"] aLFirstBad dLFirstBad
  aLSpoilt : Addr
  dLSpoilt : FuncData
  LSpoilt : Df K mg "_law_spoilt" sSpoilt ["_law_h", "_law_plan_here"] aLSpoilt dLSpoilt
  aLMeetings : Addr
  dLMeetings : FuncData
  LMeetings : Df K mg "_law_meetings" sMeetings ["_law_plan_here", "_law_number"] aLMeetings dLMeetings
  aLaw : Addr
  dLaw : FuncData
  Law : Df K mg "law" sLaw ["_law_script"] aLaw dLaw
end Sv


set_option maxHeartbeats 4000000
namespace Sv
open PySem PySem.Spec PyProof.Rows L2
/-! ### plans as data -/
def eV : Option Int → V
  | none => .non
  | some i => .int i
def rV (r : Ro) : List V := r.map eV
theorem rV_len (r : Ro) : (rV r).length = r.length := by unfold rV; simp
theorem rV_get {r : Ro} {i : Nat} {e : Option Int} (h : r[i]? = some e) : (rV r)[i]? = some (eV e) := by
  unfold rV
  rw [List.getElem?_map, h]
  rfl
theorem rV_lt {r : Ro} {i : Nat} {x : V} (h : (rV r)[i]? = some x) : ∃ e, r[i]? = some e ∧ x = eV e := by
  unfold rV at h
  rw [List.getElem?_map] at h
  cases e : r[i]? with
  | none => rw [e] at h; cases h
  | some y =>
    rw [e] at h
    exact ⟨y, rfl, (Option.some.inj h).symm⟩
theorem iV_lt {zs : List Int} {i : Nat} {x : V} (h : (zs.map V.int)[i]? = some x) : ∃ z, zs[i]? = some z ∧ x = .int z := by
  rw [List.getElem?_map] at h
  cases e : zs[i]? with
  | none => rw [e] at h; cases h
  | some y =>
    rw [e] at h
    exact ⟨y, rfl, (Option.some.inj h).symm⟩
theorem refs_lt {qs : List Addr} {i : Nat} {x : V} (h : (qs.map V.ref)[i]? = some x) : ∃ q, qs[i]? = some q ∧ x = .ref q := by
  rw [List.getElem?_map] at h
  cases e : qs[i]? with
  | none => rw [e] at h; cases h
  | some y =>
    rw [e] at h
    exact ⟨y, rfl, (Option.some.inj h).symm⟩
structure RtAt (K : PySem.W.Frag) (H : Hp) (b : Addr) (rs : List Ro) : Prop where
  ex : ∃ qs : List Addr, SqT K H b (qs.map V.ref) ∧ Paired (fun q r => SqT K H q (rV r)) qs rs
theorem paired_same {K : PySem.W.Frag} {H H' : Hp} (e : Same H H') : ∀ {qs : List Addr} {rs : List Ro}, Paired (fun q r => SqT K H q (rV r)) qs rs → Paired (fun q r => SqT K H' q (rV r)) qs rs
  | _, _, .nil => .nil
  | _, _, .cons h t => .cons (sqT_same e h) (paired_same e t)
theorem paired_len {K : PySem.W.Frag} {H : Hp} : ∀ {qs : List Addr} {rs : List Ro}, Paired (fun q r => SqT K H q (rV r)) qs rs → qs.length = rs.length
  | _, _, .nil => rfl
  | _, _, .cons _ t => congrArg Nat.succ (paired_len t)
theorem paired_at {K : PySem.W.Frag} {H : Hp} : ∀ {qs : List Addr} {rs : List Ro} {i : Nat} {q : Addr}, Paired (fun q r => SqT K H q (rV r)) qs rs → qs[i]? = some q → ∃ r, rs[i]? = some r ∧ SqT K H q (rV r)
  | _, _, i, q, .nil, e => by simp at e
  | _, _, 0, q, .cons h t, e => by
    obtain rfl := Option.some.inj e
    exact ⟨_, rfl, h⟩
  | _, _, i + 1, q, .cons h t, e => paired_at (i := i) t (by simpa using e)
theorem RtAt.same {K : PySem.W.Frag} {H H' : Hp} {b : Addr} {rs : List Ro} (x : RtAt K H b rs) (e : Same H H') : RtAt K H' b rs := by
  obtain ⟨qs, h1, h2⟩ := x.ex
  exact ⟨qs, sqT_same e h1, paired_same e h2⟩
/-- a plan in its place -/
structure PlanAt (K : PySem.W.Frag) (H : Hp) (p : Addr) (zs : List Int) (rs : List Ro) : Prop where
  ex : ∃ a b : Addr, SqT K H p [.ref a, .ref b] ∧ SqT K H a (zs.map V.int) ∧ RtAt K H b rs
theorem PlanAt.same {K : PySem.W.Frag} {H H' : Hp} {p : Addr} {zs : List Int} {rs : List Ro} (x : PlanAt K H p zs rs) (e : Same H H') : PlanAt K H' p zs rs := by
  obtain ⟨a, b, h1, h2, h3⟩ := x.ex
  exact ⟨a, b, sqT_same e h1, sqT_same e h2, h3.same e⟩
/-! ### the program's checks -/
section
variable {P : Program} {w : World} {K : PySem.W.Frag} {mg : Str → Option Value} {base : Heap}
theorem scIsRoute : FnScope ["route", "shelves", "entry"] ["route", "shelves"] (defScope sIsRoute) := ⟨rfl, rfl, rfl, by decide +kernel, rfl, by decide +kernel, by decide +kernel⟩
def spIsRoute (K : PySem.W.Frag) : Sp := fun vs H Q _ => ∃ (q : Addr) (r : Ro) (n : Int), vs = [.ref q, .int n] ∧ SqT K H q (rV r) ∧ r.length ≤ 1000 ∧ Q (.bl (okR n r)) H
theorem okR_all {n : Int} {r : Ro} (h1 : 1 ≤ r.length ∧ r.length ≤ 6) (h : ∀ (j : Nat) (e : Option Int), r[j]? = some e → okE n e = true) : okR n r = true := by
  unfold okR
  rw [decide_eq_true h1, Bool.true_and]
  refine List.all_eq_true.mpr fun e he => ?_
  obtain ⟨j, hj⟩ := List.mem_iff_getElem?.mp he
  exact h j e hj
theorem okR_no {n : Int} {r : Ro} {j : Nat} {e : Option Int} (h : r[j]? = some e) (hb : okE n e = false) : okR n r = false := by
  unfold okR
  have : r.all (okE n) = false := by
    rw [List.all_eq_false]
    exact ⟨e, List.mem_of_getElem? h, by rw [hb]; decide⟩
  rw [this, Bool.and_false]
theorem ok_isRoute (T : Bd P K mg) : FnOk P w K mg base CX0 2 T.aIsRoute T.dIsRoute ["route", "shelves"] (spIsRoute K) := by
  have GW : FnOk P w K mg base CX0 1 T.aWithin T.dWithin ["number", "low", "high"] spWithin := ok_within T.Within.F T.bt.isinstance T.bt.bool T.bt.int
  obtain ⟨t4, h4⟩ := T.m4
  refine T.IsRoute.F.ok scIsRoute (fun vs H Q E h => ?_) (fun cdv A outer s H vs Q E hr h => ?_)
  · obtain ⟨q, r, n, rfl, _⟩ := h
    rfl
  · obtain ⟨q, r, n, rfl, hq, hl, hQ⟩ := h
    refine ⟨_, pss_cons (ps_if (pw_or (pt_not (pt_val (pe_callB call_isi (by rfl) T.bt.isinstance b_isinstance (pa_cons (pv 0) (pa_cons (pe_ty (by rfl) T.bt.tuple b_tuple) pa_nil)))))
        (pw_or1 (pt_not (pt_chain op_le op_le pe_int (pe_callB call_len_seq (by rfl) T.bt.len b_len (pa_cons (pv 0) pa_nil)) (pe_glob (v := .int 6) (by rfl) h4 ⟨_, rfl⟩))))).pt (pss_one (ps_ret pe_bl)) pss_nil)
      (pss_cons (ps_for PassesOwn.never rfl (pi_tup (pv 0)) (pg_name (i := 2) scIsRoute.nd rfl (Or.inl rfl))
        (pss_one (ps_if (pw_and (pt_cmpR op_notN (pv 2) pe_non (nomark _)) (pw_and1 (pt_not (pt_val (pe_call (E := E0) GW hr (by rfl) T.Within.g T.Within.F.kp T.Within.b .nil pass0 (pa_cons (pv 2) (pa_cons pe_int (pa_cons (pe_op op_sub (pv 1) pe_int) pa_nil)))))))).pt (pss_one (ps_ret pe_bl)) pss_nil)))
      (pss_one (ps_ret pe_bl))), ?_⟩
    refine ⟨.ref q, rfl, .ref q, .ty "tuple", _, _, true, rfl, .ty "tuple", tyx_tup hq, kit_ty (by decide +kernel), true, rfl, iteF ?_⟩
    refine ⟨.ref q, rfl, q, rV r, rfl, .inr hq, 1, _, rfl, rfl, _, rfl, ?_⟩
    rw [rV_len]
    have no : ∀ b, okR n r = b → b = false → Q (.bl false) H := fun b e1 e2 => by
      rw [e1, e2] at hQ
      exact hQ
    by_cases h1 : (1 : Int) ≤ (r.length : Nat)
    · rw [decide_eq_true h1]
      refine iteT ⟨_, _, rfl, rfl, _, rfl, ?_⟩
      by_cases h2 : ((r.length : Nat) : Int) ≤ 6
      · rw [decide_eq_true h2]
        refine iteF ?_
        have hlen : 1 ≤ r.length ∧ r.length ≤ 6 := ⟨by omega, by omega⟩
        refine ⟨.ref q, rfl, q, rfl, ⟨_, hq⟩, for_tup (xs := rV r) (fun i σ H' => (∃ y, σ = [some (.ref q), some (.int n), y]) ∧ H' = H ∧ ∀ j e, j < i → r[j]? = some e → okE n e = true) ⟨⟨none, rfl⟩, rfl, fun j e hj => by omega⟩ (fun i σ H' _ h => by rw [h.2.1]; exact hq)
          (fun i x σ H' hx ⟨⟨y, es⟩, eH, hok⟩ => ?_) (fun σ H' ⟨⟨y, es⟩, eH, hok⟩ => ?_)⟩
        · subst es
          subst eH
          obtain ⟨e, he, rfl⟩ := rV_lt hx
          have more : okE n e = true → ∀ j e', j < i + 1 → r[j]? = some e' → okE n e' = true := fun h j e' hj hh => by
            by_cases hji : j = i
            · rw [hji, he] at hh
              rw [← Option.some.inj hh]
              exact h
            · exact hok j e' (by omega) hh
          cases e with
          | none =>
            refine ⟨.non, rfl, rfl, false, rfl, iteF (iteF ⟨⟨_, rfl⟩, rfl, more rfl⟩)⟩
          | some z =>
            refine ⟨.int z, rfl, rfl, true, rfl, iteT ⟨.int z, rfl, .int n, rfl, n, 1, rfl, rfl, z, 0, n - 1, rfl, _, rfl, ?_⟩⟩
            by_cases hz : 0 ≤ z ∧ z ≤ n - 1
            · rw [decide_eq_true hz]
              exact iteF ⟨⟨_, rfl⟩, rfl, more (decide_eq_true hz)⟩
            · rw [decide_eq_false hz]
              exact iteT (no _ (okR_no he (decide_eq_false hz)) rfl)
        · subst es
          subst eH
          rw [rV_len] at hok
          have : okR n r = true := okR_all hlen fun j e he => hok j e (List.getElem?_eq_some_iff.mp he).1 he
          rw [this] at hQ
          exact hQ
      · rw [decide_eq_false h2]
        refine iteT (no _ ?_ rfl)
        unfold okR
        rw [decide_eq_false (fun z => h2 (by omega)), Bool.false_and]
    · rw [decide_eq_false h1]
      refine iteF ⟨false, rfl, iteT (no _ ?_ rfl)⟩
      unfold okR
      rw [decide_eq_false (fun z => h1 (by omega)), Bool.false_and]
end
end Sv


set_option maxHeartbeats 4000000
namespace Sv
open PySem PySem.Spec PyProof.Rows L2
section
variable {P : Program} {w : World} {K : PySem.W.Frag} {mg : Str → Option Value} {base : Heap}
theorem scCheckSizes : FnScope ["sizes", "index", "size"] ["sizes"] (defScope sCheckSizes) := ⟨rfl, rfl, rfl, by decide +kernel, rfl, by decide +kernel, by decide +kernel⟩
theorem scCheckRoutes : FnScope ["routes", "shelves", "index", "route"] ["routes", "shelves"] (defScope sCheckRoutes) := ⟨rfl, rfl, rfl, by decide +kernel, rfl, by decide +kernel, by decide +kernel⟩
theorem scCheckPlan : FnScope ["plan", "sizes", "routes"] ["plan"] (defScope sCheckPlan) := ⟨rfl, rfl, rfl, by decide +kernel, rfl, by decide +kernel, by decide +kernel⟩
theorem small_idx {i : Nat} (h : i ≤ 1000) : ((i : Nat) : Int).natAbs < 2 ^ 100 := Nat.lt_of_le_of_lt (by omega : ((i : Nat) : Int).natAbs ≤ 1000) (by decide)
def spCheckSizes (K : PySem.W.Frag) (C : Addr) : Sp := fun vs H Q E => ∃ (a : Addr) (zs : List Int), vs = [.ref a] ∧ SqT K H a (zs.map V.int) ∧ zs.length ≤ 1000 ∧ (badS zs = none → ∀ H', Same H H' → Q .non H') ∧ (∀ i, badS zs = some i → PlanE C H "sizes" i E)
theorem ok_checkSizes (T : Bd P K mg) : FnOk P w K mg base (L2.CX P w) 3 T.aCheckSizes T.dCheckSizes ["sizes"] (spCheckSizes K T.C) := by
  have GW : FnOk P w K mg base CX0 1 T.aWithin T.dWithin ["number", "low", "high"] spWithin := ok_within T.Within.F T.bt.isinstance T.bt.bool T.bt.int
  obtain ⟨t1, h1⟩ := T.m1
  obtain ⟨t2, h2⟩ := T.m2
  refine T.CheckSizes.F.okX scCheckSizes (fun vs H Q E h => ?_) (fun cdv A outer s H vs Q E hr h => ?_)
  · obtain ⟨a, zs, rfl, _⟩ := h
    rfl
  · obtain ⟨a, zs, rfl, hA, hl, q1, q2⟩ := h
    refine ⟨_, pss_cons (ps_if (pt_not (pt_chain op_le op_le pe_int (pe_callB call_len_seq (by rfl) T.bt.len b_len (pa_cons (pv 0) pa_nil)) (pe_glob (v := .int 12) (by rfl) h1 ⟨_, rfl⟩)))
        (pss_one (ps_raise rfl (takes_of rfl rfl rfl rfl) (pmk_plan T.pl hr (by rfl) pe_str (pe_un un_neg pe_int)))) pss_nil)
      (pss_one (ps_for (passes_of rfl) rfl (pi_enumT (by rfl) T.bt.enumerate (pa_cons (pv 0) pa_nil)) (pg_tup rfl (pgs_cons (pg_name (i := 1) scCheckSizes.nd rfl (.inl rfl)) (pgs_cons (pg_name (i := 2) scCheckSizes.nd rfl (.inl rfl)) pgs_nil)))
        (pss_one (ps_if (pt_not (pt_val (pe_call (E := E0) GW (hr.mono (by decide)) (by rfl) T.Within.g T.Within.F.kp T.Within.b .nil pass0 (pa_cons (pv 2) (pa_cons pe_int (pa_cons (pe_glob (v := .int 9) (by rfl) h2 ⟨_, rfl⟩) pa_nil))))))
          (pss_one (ps_raise rfl (takes_of rfl rfl rfl rfl) (pmk_plan T.pl hr (by rfl) pe_str (pv 1)))) pss_nil)))), ?_⟩
    have big : (-1 : Int).natAbs < 2 ^ 100 := by decide
    have lw : ("sizes" : Str).length ≤ 1000 := by decide
    have no : ¬ (1 ≤ zs.length ∧ zs.length ≤ 12) → PlanE T.C H "sizes" (-1) E := fun hz => q2 (-1) (by unfold badS; rw [if_neg hz])
    refine ⟨.ref a, rfl, a, _, rfl, .inr hA, 1, _, rfl, rfl, _, rfl, ?_⟩
    rw [List.length_map]
    by_cases c1 : (1 : Int) ≤ (zs.length : Nat)
    · rw [decide_eq_true c1]
      refine iteT ⟨_, _, rfl, rfl, _, rfl, ?_⟩
      by_cases c2 : ((zs.length : Nat) : Int) ≤ 12
      · rw [decide_eq_true c2]
        have hz : 1 ≤ zs.length ∧ zs.length ≤ 12 := ⟨by omega, by omega⟩
        have eb : badS zs = (fst okZ zs 0).map fun (k : Nat) => (k : Int) := by unfold badS; rw [if_pos hz]
        refine iteF ⟨.ref a, rfl, a, _, rfl, hA, for_enumT (xs := zs.map V.int) (fun i σ H' => (∃ y1 y2, σ = [some (.ref a), y1, y2]) ∧ Same H H' ∧ ∀ (j : Nat) (z : Int), j < i → zs[j]? = some z → okZ z = true) ⟨⟨none, none, rfl⟩, fun _ _ h => h, fun j z hj => by omega⟩
          (fun i σ H' _ h => sqT_same h.2.1 hA) (fun i x σ H' U hx ⟨⟨y1, y2, es⟩, sm, hok⟩ hU => ?_) (fun σ H' ⟨_, sm, hok⟩ => ?_)⟩
        · subst es
          obtain ⟨z, hz1, rfl⟩ := iV_lt hx
          have sm2 : Same H (upd H' U (.tup [.int (i : Nat), .int z])) := same_of sm (Same.free sm hU)
          refine ⟨U, [.int (i : Nat), .int z], rfl, .inl (.inl upd_same), rfl, _, _, rfl, _, _, rfl, rfl, ?_⟩
          refine ⟨.int z, rfl, z, 0, 9, rfl, _, rfl, ?_⟩
          by_cases hzz : 0 ≤ z ∧ z ≤ 9
          · rw [decide_eq_true hzz]
            refine iteF ⟨⟨_, _, rfl⟩, sm2, fun j z' hj hz' => ?_⟩
            by_cases hji : j = i
            · rw [hji, hz1] at hz'
              rw [← Option.some.inj hz']
              exact decide_eq_true hzz
            · exact hok j z' (by omega) hz'
          · rw [decide_eq_false hzz]
            have il : i < zs.length := (List.getElem?_eq_some_iff.mp hz1).1
            refine iteT ⟨.int (i : Nat), rfl, mk_go lw (small_idx (by omega)) ((q2 i ?_).imp sm2)⟩
            rw [eb, fst_some (i := i) (x := z) hok hz1 (decide_eq_false hzz)]
            rfl
        · rw [List.length_map] at hok
          refine q1 ?_ H' sm
          rw [eb, fst_none fun j z hz' => hok j z (List.getElem?_eq_some_iff.mp hz').1 hz']
          rfl
      · rw [decide_eq_false c2]
        exact iteT ⟨1, rfl, mk_go lw big (no fun z => c2 (by omega))⟩
    · rw [decide_eq_false c1]
      exact iteF ⟨false, rfl, iteT ⟨1, rfl, mk_go lw big (no fun z => c1 (by omega))⟩⟩
def spCheckRoutes (K : PySem.W.Frag) (C : Addr) : Sp := fun vs H Q E => ∃ (b : Addr) (rs : List Ro) (n : Int), vs = [.ref b, .int n] ∧ RtAt K H b rs ∧ rs.length ≤ 1000 ∧ (∀ r ∈ rs, r.length ≤ 1000) ∧ (badR n rs = none → ∀ H', Same H H' → Q .non H') ∧ (∀ i, badR n rs = some i → PlanE C H "routes" i E)
theorem ok_checkRoutes (T : Bd P K mg) : FnOk P w K mg base (L2.CX P w) 3 T.aCheckRoutes T.dCheckRoutes ["routes", "shelves"] (spCheckRoutes K T.C) := by
  have GT : FnOk P w K mg base CX0 2 T.aIsRoute T.dIsRoute ["route", "shelves"] (spIsRoute K) := ok_isRoute T
  obtain ⟨t3, h3⟩ := T.m3
  refine T.CheckRoutes.F.okX scCheckRoutes (fun vs H Q E h => ?_) (fun cdv A outer s H vs Q E hr h => ?_)
  · obtain ⟨b, rs, n, rfl, _⟩ := h
    rfl
  · obtain ⟨b, rs, n, rfl, hB, hl, hrl, q1, q2⟩ := h
    obtain ⟨qs, hA, hP⟩ := hB.ex
    have hql := paired_len hP
    refine ⟨_, pss_cons (ps_if (pt_not (pt_chain op_le op_le pe_int (pe_callB call_len_seq (by rfl) T.bt.len b_len (pa_cons (pv 0) pa_nil)) (pe_glob (v := .int 6) (by rfl) h3 ⟨_, rfl⟩)))
        (pss_one (ps_raise rfl (takes_of rfl rfl rfl rfl) (pmk_plan T.pl hr (by rfl) pe_str (pe_un un_neg pe_int)))) pss_nil)
      (pss_one (ps_for (passes_of rfl) rfl (pi_enumT (by rfl) T.bt.enumerate (pa_cons (pv 0) pa_nil)) (pg_tup rfl (pgs_cons (pg_name (i := 2) scCheckRoutes.nd rfl (.inl rfl)) (pgs_cons (pg_name (i := 3) scCheckRoutes.nd rfl (.inl rfl)) pgs_nil)))
        (pss_one (ps_if (pt_not (pt_val (pe_call (E := E0) GT hr (by rfl) T.IsRoute.g T.IsRoute.F.kp T.IsRoute.b .nil pass0 (pa_cons (pv 3) (pa_cons (pv 1) pa_nil)))))
          (pss_one (ps_raise rfl (takes_of rfl rfl rfl rfl) (pmk_plan T.pl hr (by rfl) pe_str (pv 2)))) pss_nil)))), ?_⟩
    have big : (-1 : Int).natAbs < 2 ^ 100 := by decide
    have lw : ("routes" : Str).length ≤ 1000 := by decide
    have no : ¬ (1 ≤ rs.length ∧ rs.length ≤ 6) → PlanE T.C H "routes" (-1) E := fun hz => q2 (-1) (by unfold badR; rw [if_neg hz])
    refine ⟨.ref b, rfl, b, _, rfl, .inr hA, 1, _, rfl, rfl, _, rfl, ?_⟩
    rw [List.length_map, hql]
    by_cases c1 : (1 : Int) ≤ (rs.length : Nat)
    · rw [decide_eq_true c1]
      refine iteT ⟨_, _, rfl, rfl, _, rfl, ?_⟩
      by_cases c2 : ((rs.length : Nat) : Int) ≤ 6
      · rw [decide_eq_true c2]
        have hz : 1 ≤ rs.length ∧ rs.length ≤ 6 := ⟨by omega, by omega⟩
        have eb : badR n rs = (fst (okR n) rs 0).map fun (k : Nat) => (k : Int) := by unfold badR; rw [if_pos hz]
        refine iteF ⟨.ref b, rfl, b, _, rfl, hA, for_enumT (xs := qs.map V.ref) (fun i σ H' => (∃ y1 y2, σ = [some (.ref b), some (.int n), y1, y2]) ∧ Same H H' ∧ ∀ (j : Nat) (r : Ro), j < i → rs[j]? = some r → okR n r = true) ⟨⟨none, none, rfl⟩, fun _ _ h => h, fun j z hj => by omega⟩
          (fun i σ H' _ h => sqT_same h.2.1 hA) (fun i x σ H' U hx ⟨⟨y1, y2, es⟩, sm, hok⟩ hU => ?_) (fun σ H' ⟨_, sm, hok⟩ => ?_)⟩
        · subst es
          obtain ⟨qa, hqa, rfl⟩ := refs_lt hx
          obtain ⟨r, hr1, hqr⟩ := paired_at hP hqa
          have sm2 : Same H (upd H' U (.tup [.int (i : Nat), .ref qa])) := same_of sm (Same.free sm hU)
          refine ⟨U, [.int (i : Nat), .ref qa], rfl, .inl (.inl upd_same), rfl, _, _, rfl, _, _, rfl, rfl, ?_⟩
          refine ⟨.ref qa, rfl, .int n, rfl, qa, r, n, rfl, sqT_same sm2 hqr, hrl r (List.mem_of_getElem? hr1), _, rfl, ?_⟩
          by_cases hzz : okR n r = true
          · rw [hzz]
            refine iteF ⟨⟨_, _, rfl⟩, sm2, fun j z' hj hz' => ?_⟩
            by_cases hji : j = i
            · rw [hji, hr1] at hz'
              rw [← Option.some.inj hz']
              exact hzz
            · exact hok j z' (by omega) hz'
          · have hzf : okR n r = false := by simpa using hzz
            rw [hzf]
            have il : i < rs.length := (List.getElem?_eq_some_iff.mp hr1).1
            refine iteT ⟨.int (i : Nat), rfl, mk_go lw (small_idx (by omega)) ((q2 i ?_).imp sm2)⟩
            rw [eb, fst_some (i := i) (x := r) hok hr1 hzf]
            rfl
        · rw [List.length_map, hql] at hok
          refine q1 ?_ H' sm
          rw [eb, fst_none fun j z hz' => hok j z (List.getElem?_eq_some_iff.mp hz').1 hz']
          rfl
      · rw [decide_eq_false c2]
        exact iteT ⟨1, rfl, mk_go lw big (no fun z => c2 (by omega))⟩
    · rw [decide_eq_false c1]
      exact iteF ⟨false, rfl, iteT ⟨1, rfl, mk_go lw big (no fun z => c1 (by omega))⟩⟩
def spCheckPlan (K : PySem.W.Frag) (C : Addr) : Sp := fun vs H Q E => ∃ (p : Addr) (zs : List Int) (rs : List Ro), vs = [.ref p] ∧ PlanAt K H p zs rs ∧ Small zs rs ∧ (bad zs rs = none → ∀ H', Same H H' → Q .non H') ∧ (∀ part i, bad zs rs = some (part, i) → PlanE C H part i E)
theorem ok_checkPlan (T : Bd P K mg) : FnOk P w K mg base (L2.CX P w) 4 T.aCheckPlan T.dCheckPlan ["plan"] (spCheckPlan K T.C) := by
  have GS : FnOk P w K mg base (L2.CX P w) 3 T.aCheckSizes T.dCheckSizes ["sizes"] (spCheckSizes K T.C) := ok_checkSizes T
  have GR : FnOk P w K mg base (L2.CX P w) 3 T.aCheckRoutes T.dCheckRoutes ["routes", "shelves"] (spCheckRoutes K T.C) := ok_checkRoutes T
  refine T.CheckPlan.F.okX scCheckPlan (fun vs H Q E h => ?_) (fun cdv A outer s H vs Q E hr h => ?_)
  · obtain ⟨p, zs, rs, rfl, _⟩ := h
    rfl
  · obtain ⟨p, zs, rs, rfl, hp, ⟨l1, l2, l3⟩, q1, q2⟩ := h
    obtain ⟨a, b, hp1, ha, hb⟩ := hp.ex
    refine ⟨_, pss_cons (ps_asg (pv 0) (pg_tup rfl (pgs_cons (pg_name (i := 1) scCheckPlan.nd rfl (.inl rfl)) (pgs_cons (pg_name (i := 2) scCheckPlan.nd rfl (.inl rfl)) pgs_nil))))
      (pss_cons (ps_expr (pe_call (E := E) GS hr (by rfl) T.CheckSizes.g T.CheckSizes.F.kp T.CheckSizes.b .nil (passes_call (takes_of rfl rfl rfl rfl) fun _ _ _ _ h => h) (pa_cons (pv 1) pa_nil)))
      (pss_one (ps_expr (pe_call (E := E) GR hr (by rfl) T.CheckRoutes.g T.CheckRoutes.F.kp T.CheckRoutes.b .nil (passes_call (takes_of rfl rfl rfl rfl) fun _ _ _ _ h => h) (pa_cons (pv 2) (pa_cons (pe_callB call_len_seq (by rfl) T.bt.len b_len (pa_cons (pv 1) pa_nil)) pa_nil)))))), ?_⟩
    refine ⟨.ref p, rfl, p, [.ref a, .ref b], rfl, hp1, rfl, _, _, rfl, _, _, rfl, rfl, ?_⟩
    refine ⟨.ref a, rfl, a, zs, rfl, ha, l1, fun e1 H1 sm1 => ?_, fun i e1 => q2 _ i ?_⟩
    · refine ⟨.ref b, rfl, .ref a, rfl, a, _, rfl, .inr (sqT_same sm1 ha), b, rs, _, rfl, hb.same sm1, l2, l3, fun e2 H2 sm2 => q1 ?_ H2 (sm1.trans sm2), fun i e2 => (q2 "routes" i ?_).imp sm1⟩
      · unfold bad
        rw [e1]
        rw [List.length_map] at e2
        simp only [e2, Option.map_none]
      · unfold bad
        rw [e1]
        rw [List.length_map] at e2
        simp only [e2, Option.map_some]
    · unfold bad
      rw [e1]
end
end Sv


set_option maxHeartbeats 4000000
namespace Sv
open PySem PySem.Spec PyProof.Rows L2
/-! ### new lists of new tuples -/
abbrev TupsV (H : Hp) (ps : List Addr) (ts : List (List V)) : Prop := Paired (fun p t => H p = some (.tup t)) ps ts
theorem tupsV_imp {H H' : Hp} (e : ∀ b xs, H b = some (.tup xs) → H' b = some (.tup xs)) : ∀ {ps : List Addr} {ts : List (List V)}, TupsV H ps ts → TupsV H' ps ts
  | _, _, .nil => .nil
  | _, _, .cons h t => .cons (e _ _ h) (tupsV_imp e t)
theorem tupsV_same {H H' : Hp} (e : Same H H') {ps : List Addr} {ts : List (List V)} (h : TupsV H ps ts) : TupsV H' ps ts := tupsV_imp (fun b xs q => e _ _ q) h
theorem tupsV_len {H : Hp} : ∀ {ps : List Addr} {ts : List (List V)}, TupsV H ps ts → ps.length = ts.length
  | _, _, .nil => rfl
  | _, _, .cons _ t => congrArg Nat.succ (tupsV_len t)
theorem tupsV_app {H : Hp} : ∀ {ps qs : List Addr} {ts us : List (List V)}, TupsV H ps ts → TupsV H qs us → TupsV H (ps ++ qs) (ts ++ us)
  | _, _, _, _, .nil, h => h
  | _, _, _, _, .cons h t, h2 => .cons h (tupsV_app t h2)
theorem tupsV_snoc {H : Hp} {p : Addr} {t : List V} {ps : List Addr} {ts : List (List V)} (h : TupsV H ps ts) (hp : H p = some (.tup t)) : TupsV H (ps ++ [p]) (ts ++ [t]) := tupsV_app h (.cons hp .nil)
/-- at f a list of new tuples -/
structure TL (H : Hp) (f : Addr) (ts : List (List V)) : Prop where
  ex : ∃ ps : List Addr, H f = some (.lst (ps.map V.ref)) ∧ TupsV H ps ts
theorem TL.same {H H' : Hp} {f : Addr} {ts : List (List V)} (x : TL H f ts) (e : Same H H') : TL H' f ts := by
  obtain ⟨ps, h1, h2⟩ := x.ex
  exact ⟨ps, e _ _ h1, tupsV_same e h2⟩
/-- one more behind -/
theorem TL.push {H : Hp} {f p : Addr} {ts : List (List V)} {t : List V} {xs : List V} (x : TL H f ts) (hf : H f = some (.lst xs)) (hp : H p = some (.tup t)) : TL (upd H f (.lst (xs ++ [.ref p]))) f (ts ++ [t]) := by
  obtain ⟨ps, h1, h2⟩ := x.ex
  rw [hf] at h1
  obtain rfl := HO.lst.inj (Option.some.inj h1)
  refine ⟨ps ++ [p], by rw [upd_same, List.map_append]; rfl, tupsV_imp (fun b xs q => ?_) (tupsV_snoc h2 hp)⟩
  rw [upd_ne (fun z => by rw [z, hf] at q; cases q)]
  exact q
def NewTL (H : Hp) (ts : List (List V)) (Q : VK) : Prop := ∀ H' f, Same H H' → H f = none → TL H' f ts → Q (.ref f) H'
/-! ### who meets whom -/
def pairV (c : Nat) (z : Int) : List V := [.int (c : Nat), .int z]
/-- the pairs of the first k carriers -/
def meetN (rs : List Ro) (m : Int) : Nat → List (List V)
  | 0 => []
  | k + 1 => meetN rs m k ++ (match rs[k]? with | some r => (match ent r m with | some z => [pairV k z] | none => []) | none => [])
def meets (rs : List Ro) (m : Int) : List (List V) := meetN rs m rs.length
theorem meetN_none {rs : List Ro} {m : Int} {k : Nat} {r : Ro} (h : rs[k]? = some r) (e : ent r m = none) : meetN rs m (k + 1) = meetN rs m k := by
  conv => lhs; unfold meetN
  rw [h]
  simp only [e, List.append_nil]
theorem meetN_some {rs : List Ro} {m : Int} {k : Nat} {r : Ro} {z : Int} (h : rs[k]? = some r) (e : ent r m = some z) : meetN rs m (k + 1) = meetN rs m k ++ [pairV k z] := by
  conv => lhs; unfold meetN
  rw [h]
  simp only [e]
theorem meetN_len (rs : List Ro) (m : Int) : ∀ k, (meetN rs m k).length ≤ k
  | 0 => Nat.le_refl _
  | k + 1 => by
    unfold meetN
    rw [List.length_append]
    have := meetN_len rs m k
    split
    · split
      · simp; omega
      · simp; omega
    · simp; omega
section
variable {P : Program} {w : World} {K : PySem.W.Frag} {mg : Str → Option Value} {base : Heap}
theorem scVisitsIn : FnScope ["routes", "number", "found", "carrier", "route", "shelf"] ["routes", "number"] (defScope sVisitsIn) := ⟨rfl, rfl, rfl, by decide +kernel, rfl, by decide +kernel, by decide +kernel⟩
def spVisitsIn (K : PySem.W.Frag) : Sp := fun vs H Q _ => ∃ (b : Addr) (rs : List Ro) (n : Int), vs = [.ref b, .int n] ∧ RtAt K H b rs ∧ rs.length ≤ 1000 ∧ (∀ r ∈ rs, r ≠ [] ∧ r.length ≤ 1000) ∧ NewTL H (meets rs (n - 1)) Q
theorem ok_visitsIn {f : Addr} {fd : FuncData} (F : Df K mg "visits_in_tick" sVisitsIn ["routes", "number"] f fd) (B : Bt mg) : FnOk P w K mg base CX0 1 f fd ["routes", "number"] (spVisitsIn K) := by
  refine F.F.ok scVisitsIn (fun vs H Q E h => ?_) (fun cdv A outer s H vs Q E hr h => ?_)
  · obtain ⟨b, rs, n, rfl, _⟩ := h
    rfl
  · obtain ⟨b, rs, n, rfl, hB, hl, hrs, q⟩ := h
    obtain ⟨qs, hA, hP⟩ := hB.ex
    have hql := paired_len hP
    refine ⟨_, pss_cons (ps_set (i := 2) scVisitsIn.nd rfl (Or.inl rfl) (pe_lst pa_nil))
      (pss_cons (ps_for PassesOwn.never rfl (pi_enumT (by rfl) B.enumerate (pa_cons (pv 0) pa_nil)) (pg_tup rfl (pgs_cons (pg_name (i := 3) scVisitsIn.nd rfl (.inl rfl)) (pgs_cons (pg_name (i := 4) scVisitsIn.nd rfl (.inl rfl)) pgs_nil)))
        (pss_cons (ps_set (i := 5) scVisitsIn.nd rfl (Or.inl rfl) (pe_ix ix_tup (pv 4) (pe_op op_mod (pe_op op_sub (pv 1) pe_int) (pe_callB call_len_seq (by rfl) B.len b_len (pa_cons (pv 4) pa_nil))) (fun _ _ => rfl)))
        (pss_one (ps_if (pt_cmpR op_notN (pv 5) pe_non (nomark _)) (pss_one (ps_expr (pe_bm PySem.F.plainAttrs_list PySem.F.slot_list_append PySem.F.type_list_append mt_append (pv 2) (pa_cons (pe_tup (pa_cons (pv 3) (pa_cons (pv 5) pa_nil))) pa_nil)))) pss_nil))))
      (pss_one (ps_ret (pv 2)))), ?_⟩
    refine ⟨Nat.zero_le _, fun f hf => ?_⟩
    have sm0 : Same H (upd H f (.lst [])) := same_upd hf
    refine ⟨.ref b, rfl, b, _, rfl, sqT_same sm0 hA, for_enumT (xs := qs.map V.ref) (fun i σ H' => (∃ y3 y4 y5, σ = [some (.ref b), some (.int n), some (.ref f), y3, y4, y5]) ∧ Same H H' ∧ TL H' f (meetN rs (n - 1) i)) ⟨⟨none, none, none, rfl⟩, sm0, [], upd_same, .nil⟩
      (fun i σ H' _ h => sqT_same h.2.1 hA) (fun i x σ H' U hx ⟨⟨y3, y4, y5, es⟩, sm, tl⟩ hU => ?_) (fun σ H' ⟨⟨y3, y4, y5, es⟩, sm, tl⟩ => ?_)⟩
    · subst es
      obtain ⟨qa, hqa, rfl⟩ := refs_lt hx
      obtain ⟨r, hr1, hqr⟩ := paired_at hP hqa
      have il : i < rs.length := (List.getElem?_eq_some_iff.mp hr1).1
      obtain ⟨rne, rl⟩ := hrs r (List.mem_of_getElem? hr1)
      obtain ⟨eg, em⟩ := ent_get rne (n - 1)
      have hrl : 0 < r.length := List.length_pos_iff.mpr rne
      have sm2 : Same H (upd H' U (.tup [.int (i : Nat), .ref qa])) := same_of sm (Same.free sm hU)
      have tl2 := tl.same (same_upd (o := .tup [.int (i : Nat), .ref qa]) hU)
      refine ⟨U, [.int (i : Nat), .ref qa], rfl, .inl (.inl upd_same), rfl, _, _, rfl, _, _, rfl, rfl, ?_⟩
      generalize upd H' U (.tup [.int (i : Nat), .ref qa]) = H2 at sm2 tl2 ⊢
      have hq2 := sqT_same sm2 hqr
      obtain ⟨ps, hff, htv⟩ := tl2.ex
      have pl : ps.length ≤ i := by rw [tupsV_len htv]; exact meetN_len _ _ _
      have eg2 : (rV r)[((n - 1) % (r.length : Int)).toNat]? = some (eV (ent r (n - 1))) := rV_get eg
      have hmod : (n - 1) % (((rV r).length : Nat) : Int) = (((n - 1) % (r.length : Int)).toNat : Nat) := by rw [rV_len]; exact em
      have hpos : (0 : Int) < (((rV r).length : Nat) : Int) := by rw [rV_len]; omega
      refine ⟨.ref qa, rfl, .int n, rfl, n, 1, rfl, rfl, .ref qa, rfl, qa, rV r, rfl, .inr hq2, n - 1, _, rfl, rfl, hpos, qa, rV r, _, eV (ent r (n - 1)), rfl, rfl, hq2, ?_, ?_⟩
      · show atI (rV r) ((n - 1) % (((rV r).length : Nat) : Int)) = _
        rw [hmod]
        exact atI_nat eg2
      cases he : ent r (n - 1) with
      | none =>
        refine ⟨.non, rfl, rfl, false, rfl, iteF ⟨⟨_, _, _, rfl⟩, sm2, ?_⟩⟩
        rw [meetN_none hr1 he]
        exact tl2
      | some z =>
        refine ⟨.int z, rfl, rfl, true, rfl, iteT ⟨.ref f, rfl, .inl ⟨rfl, _, .inl (.inl hff)⟩, .int (i : Nat), rfl, .int z, rfl, (by show 2 ≤ sizeLine; decide), fun p hp => ?_⟩⟩
        have fp : f ≠ p := ne_of_none hff hp
        have hf2 : (upd H2 p (.tup [.int (i : Nat), .int z])) f = some (.lst (ps.map V.ref)) := by rw [upd_ne fp]; exact hff
        refine ⟨f, _, _, rfl, rfl, hf2, ?_, ⟨_, _, _, rfl⟩, same_of (same_of sm2 (Same.free sm2 hp)) hf, ?_⟩
        · rw [List.length_map]
          exact small1000 (by omega)
        · rw [meetN_some hr1 he]
          exact (tl2.same (same_upd hp)).push hf2 upd_same
    · subst es
      rw [List.length_map, hql] at tl
      exact ⟨.ref f, rfl, q H' f sm hf tl⟩
end
end Sv


set_option maxHeartbeats 4000000
namespace Sv
open PySem PySem.Spec PyProof.Rows L2
/-- a test's reading, made to hold of more -/
def tMoT (t : TT) : TT := fun σ H Q => ∃ Q0 : Bool → Hp → Prop, t σ H Q0 ∧ ∀ b H1, Q0 b H1 → Q b H1
theorem pt_mo {X : Cx} {e : Expr} {t : TT} (h : PT X e t) : PT X e (tMoT t) := by
  refine ⟨fun pins s σ H Q I ⟨Q0, h0, h1⟩ => thn (h.run pins s σ H Q0 I h0) fun b s1 hb => ?_⟩
  obtain ⟨H1, J, q⟩ := hb
  exact ⟨H1, J, h1 _ _ q⟩
theorem mo_mono {t : TT} : ∀ (σ : L2.St) (H : Hp) (Q Q' : Bool → Hp → Prop), (∀ b H1, Q b H1 → Q' b H1) → tMoT t σ H Q → tMoT t σ H Q' := fun σ H Q Q' hq ⟨Q0, h0, h1⟩ => ⟨Q0, h0, fun b H1 q => hq _ _ (h1 _ _ q)⟩
theorem mo_go {t : TT} {σ : L2.St} {H : Hp} {Q : Bool → Hp → Prop} (h : t σ H Q) : tMoT t σ H Q := ⟨Q, h, fun _ _ q => q⟩
/-! ### data -/
def dE : Option Int → PyData
  | none => .none
  | some i => .int i
def dRs (r : Ro) : List PyData := r.map dE
def dR (r : Ro) : PyData := .tuple (dRs r)
theorem dp_eV {K : PySem.W.Frag} {H : Hp} : ∀ e : Option Int, Dp K H (eV e) (dE e)
  | none => .non
  | some i => .int i
theorem dpAll_rV {K : PySem.W.Frag} {H : Hp} : ∀ r : Ro, DpAll K H (rV r) (dRs r)
  | [] => .nil
  | e :: r => .cons (dp_eV e) (dpAll_rV r)
theorem dp_rV {K : PySem.W.Frag} {H : Hp} {a : Addr} {r : Ro} (h : SqT K H a (rV r)) : Dp K H (.ref a) (dR r) := .tup h (dpAll_rV r)
theorem eqv_dE : ∀ a b : Option Int, PyData.eqv (dE a) (dE b) = decide (a = b)
  | none, none => by show PyData.eqv .none .none = _; rw [PyData.eqv]; rfl
  | none, some j => by show PyData.eqv .none (.int j) = _; rw [PyData.eqv]; rfl
  | some i, none => by show PyData.eqv (.int i) .none = _; rw [PyData.eqv]; rfl
  | some i, some j => by
    show PyData.eqv (.int i) (.int j) = _
    rw [PyData.eqv]
    by_cases h : i = j
    · subst h
      simp
    · rw [decide_eq_false (fun z => h (Option.some.inj z))]
      simpa using h
theorem eqv_dRs : ∀ a b : Ro, PyData.eqvAll (dRs a) (dRs b) = decide (a = b)
  | [], [] => by show PyData.eqvAll [] [] = _; rw [PyData.eqvAll]; rfl
  | [], y :: b => by show PyData.eqvAll [] (dE y :: dRs b) = _; rw [PyData.eqvAll]; rfl
  | x :: a, [] => by show PyData.eqvAll (dE x :: dRs a) [] = _; rw [PyData.eqvAll]; rfl
  | x :: a, y :: b => by
    show PyData.eqvAll (dE x :: dRs a) (dE y :: dRs b) = _
    rw [PyData.eqvAll, eqv_dE, eqv_dRs a b]
    by_cases h1 : x = y
    · subst h1
      by_cases h2 : a = b
      · subst h2
        simp
      · simp [h2]
    · simp [h1]
theorem eqv_dR (a b : Ro) : PyData.eqv (dR a) (dR b) = decide (a = b) := by
  show PyData.eqv (.tuple (dRs a)) (.tuple (dRs b)) = _
  rw [PyData.eqv]
  exact eqv_dRs a b
theorem can_dRs : ∀ r : Ro, PyData.canLayAll0 (dRs r) = true
  | [] => by show PyData.canLayAll0 [] = true; rw [PyData.canLayAll0]
  | e :: r => by
    show PyData.canLayAll0 (dE e :: dRs r) = true
    rw [PyData.canLayAll0, can_dRs r, Bool.and_true]
    cases e with
    | none => show PyData.canLay0 .none = true; rw [PyData.canLay0]
    | some i => show PyData.canLay0 (.int i) = true; rw [PyData.canLay0]
theorem dep_dRs : ∀ r : Ro, PyData.depthAll (dRs r) ≤ 1
  | [] => by show PyData.depthAll [] ≤ 1; rw [PyData.depthAll]; omega
  | e :: r => by
    show PyData.depthAll (dE e :: dRs r) ≤ 1
    rw [PyData.depthAll]
    have h1 := dep_dRs r
    have h2 : PyData.depth (dE e) ≤ 1 := by
      cases e with
      | none => show PyData.depth .none ≤ 1; simp only [PyData.depth]; omega
      | some i => show PyData.depth (.int i) ≤ 1; simp only [PyData.depth]; omega
    omega
theorem shaped_dR (r : Ro) : SeqAt.shaped (dR r) = true := by
  unfold SeqAt.shaped
  rw [Bool.and_eq_true]
  refine ⟨?_, decide_eq_true ?_⟩
  · show PyData.canLay0 (.tuple (dRs r)) = true
    rw [PyData.canLay0]
    exact can_dRs r
  · show PyData.depth (.tuple (dRs r)) ≤ 64
    have h := dep_dRs r
    rw [PyData.depth]
    omega
/-! ### slices and sums of tuples, closed readings -/
@[irreducible] def qSl (K : PySem.W.Frag) : V → Option Int → Option Int → Hp → VK → Prop := rSlA K
@[irreducible] def qCat (K : PySem.W.Frag) : R2 := rCatA K
@[irreducible] def qNe (K : PySem.W.Frag) : R2 := rNeD K
@[irreducible] def qEq (K : PySem.W.Frag) : R2 := rEqD K
theorem sl_tupQ {X : Cx} : SlR X (qSl X.K) := by
  unfold qSl
  exact sl_tupA
theorem op_catQ {X : Cx} : OpR X (binaryOp .Add) (qCat X.K) := by
  unfold qCat
  exact op_catA
theorem op_neQ {X : Cx} (hu : X.A.units + 64 < cLine) : OpR X (compareOp .NotEq) (qNe X.K) := by
  unfold qNe
  exact op_neD hu
theorem op_eqQ {X : Cx} (hu : X.A.units + 64 < cLine) : OpR X (compareOp .Eq) (qEq X.K) := by
  unfold qEq
  exact op_eqD hu
section
variable {K : PySem.W.Frag} {H : Hp} {a b : Addr} {xs ys : List V} {lo hi : Option Int} {Q : VK}
theorem sl_go (hA : SqT K H a xs) (q : ∀ H' p, Same H H' → SqT K H' p (cutV xs lo hi) → Q (.ref p) H') : qSl K (.ref a) lo hi H Q := by
  unfold qSl
  refine ⟨a, xs, rfl, hA, fun hw => ?_, fun _ p hp => q _ p (same_upd hp) (.inl (.inl upd_same))⟩
  refine q H a (fun _ _ h => h) ?_
  have e : cutV xs lo hi = xs := by
    unfold cutV
    rw [hw.1, hw.2, List.drop_zero, Nat.sub_zero]
    exact List.take_of_length_le (Nat.le_refl _)
  rw [e]
  exact hA
theorem cat_go (hA : SqT K H a xs) (hB : SqT K H b ys) (hl : xs.length + ys.length ≤ 1000) (q : ∀ H' p, Same H H' → SqT K H' p (xs ++ ys) → Q (.ref p) H') : qCat K (.ref a) (.ref b) H Q := by
  unfold qCat
  refine ⟨a, b, _, _, rfl, rfl, hA, hB, sz1000 hl, fun z => ?_, fun _ z => ?_, fun _ _ p hp => q _ p (same_upd hp) (.inl (.inl upd_same))⟩
  · subst z
    exact q H b (fun _ _ h => h) hB
  · subst z
    exact q H a (fun _ _ h => h) (by rw [List.append_nil]; exact hA)
theorem neR_go {r t : Ro} (hA : SqT K H a (rV r)) (hB : SqT K H b (rV t)) (q : Q (.bl (!decide (r = t))) H) : qNe K (.ref a) (.ref b) H Q := by
  unfold qNe
  exact ⟨dR r, dR t, dp_rV hA, dp_rV hB, shaped_dR r, shaped_dR t, by rw [eqv_dR]; exact q⟩
theorem cut_from {xs : List V} {k : Nat} : cutV xs (some (k : Int)) none = xs.drop k := by
  unfold cutV
  rw [HT.sIx_nat, HT.sIx_none]
  by_cases h : k ≤ xs.length
  · rw [Nat.min_eq_left h]
    exact List.take_of_length_le (by rw [List.length_drop]; omega)
  · rw [Nat.min_eq_right (by omega), List.drop_of_length_le (Nat.le_refl _), List.drop_of_length_le (by omega), List.take_nil]
theorem cut_to {xs : List V} {k : Nat} : cutV xs none (some (k : Int)) = xs.take k := by
  unfold cutV
  rw [HT.sIx_nat, HT.sIx_none, List.drop_zero, Nat.sub_zero]
  by_cases h : k ≤ xs.length
  · rw [Nat.min_eq_left h]
  · rw [Nat.min_eq_right (by omega), List.take_of_length_le (Nat.le_refl _), List.take_of_length_le (by omega)]
end
/-! ### a route's pattern -/
section
variable {P : Program} {w : World} {K : PySem.W.Frag} {mg : Str → Option Value} {base : Heap}
theorem scRoutePat : FnScope ["route", "steps"] ["route"] (defScope sRoutePat) := ⟨rfl, rfl, rfl, by decide +kernel, rfl, by decide +kernel, by decide +kernel⟩
theorem scCommon : FnScope ["routes", "length", "route"] ["routes"] (defScope sCommon) := ⟨rfl, rfl, rfl, by decide +kernel, rfl, by decide +kernel, by decide +kernel⟩
def spRoutePat (K : PySem.W.Frag) : Sp := fun vs H Q _ => ∃ (a : Addr) (r : Ro), vs = [.ref a] ∧ SqT K H a (rV r) ∧ r ≠ [] ∧ r.length ≤ 400 ∧ ∀ H', Same H H' → Q (.int (rtp r : Nat)) H'
theorem ok_routePat {f : Addr} {fd : FuncData} (F : Df K mg "route_pattern" sRoutePat ["route"] f fd) : FnOk P w K mg base CX0 1 f fd ["route"] (spRoutePat K) := by
  refine F.F.ok scRoutePat (fun vs H Q E h => ?_) (fun cdv A outer s H vs Q E hr h => ?_)
  · obtain ⟨a, r, rfl, _⟩ := h
    rfl
  · obtain ⟨a, r, rfl, hA, hne, hl, q⟩ := h
    obtain ⟨p1, p2, p3, p4⟩ := rtp_spec hne
    refine ⟨_, pss_cons (ps_set (i := 1) scRoutePat.nd rfl (Or.inl rfl) pe_int)
      (pss_cons (ps_while PassesOwn.never (pt_mo (pt_cmpR (op_neQ hr.units) (pe_op op_catQ (pe_slice sl_tupQ (pv 0) (po_some (pv 1)) po_none) (pe_slice sl_tupQ (pv 0) po_none (po_some (pv 1)))) (pv 0) (nomark _)))
        (pss_one (ps_aug (i := 1) scRoutePat.nd rfl (Or.inl rfl) pe_int ip_add)))
      (pss_one (ps_ret (pv 1)))), ?_⟩
    refine while_by (fun σ H' => ∃ k, 1 ≤ k ∧ k ≤ rtp r ∧ σ = [some (.ref a), some (.int (k : Nat))] ∧ Same H H') (fun σ H' => match σ with | [_, some (.int z)] => rtp r + 1 - z.toNat | _ => 0)
      ⟨1, Nat.le_refl _, p1, rfl, fun _ _ h => h⟩ (fun σ H' ⟨k, k1, k2, es, sm⟩ => ?_) mo_mono
    subst es
    refine mo_go ?_
    have hA1 := sqT_same sm hA
    refine ⟨.ref a, rfl, .int (k : Nat), rfl, k, rfl, sl_go hA1 fun H1 b1 s1 h1 => ⟨.ref a, rfl, .int (k : Nat), rfl, k, rfl, sl_go (sqT_same s1 hA1) fun H2 b2 s2 h2 => ?_⟩⟩
    rw [cut_from] at h1
    rw [cut_to] at h2
    have hlen : ((rV r).drop k).length + ((rV r).take k).length ≤ 1000 := by
      rw [List.length_drop, List.length_take, rV_len]
      omega
    refine cat_go (sqT_same s2 h1) h2 hlen fun H3 b3 s3 h3 => ⟨.ref a, rfl, ?_⟩
    have e3 : (rV r).drop k ++ (rV r).take k = rV (rot r k) := by
      unfold rot rV
      rw [List.map_append, List.map_drop, List.map_take]
    rw [e3] at h3
    have sm3 := ((sm.trans s1).trans s2).trans s3
    refine neR_go h3 (sqT_same sm3 hA) ⟨_, rfl, ?_⟩
    by_cases hk : rot r k = r
    · rw [decide_eq_true hk]
      refine iteF ⟨.int (k : Nat), rfl, ?_⟩
      have : k = rtp r := by
        by_cases h : k = rtp r
        · exact h
        · exact absurd hk (p3 k k1 (by omega))
      rw [this]
      exact q _ sm3
    · rw [decide_eq_false hk]
      have hlt : k < rtp r := by
        by_cases h : k = rtp r
        · rw [h] at hk
          exact absurd p2 hk
        · omega
      refine iteT ⟨.int (k : Nat), rfl, k, 1, rfl, rfl, ⟨k + 1, by omega, by omega, rfl, sm3⟩, ?_⟩
      show rtp r + 1 - ((k : Int) + 1).toNat < rtp r + 1 - (k : Int).toNat
      omega
end
end Sv


set_option maxHeartbeats 4000000
namespace Sv
open PySem PySem.Spec PyProof.Rows L2
/-! ### valid plans -/
/-! ### the pattern of all routes -/
section
variable {P : Program} {w : World} {K : PySem.W.Frag} {mg : Str → Option Value} {base : Heap}
def spCommon (K : PySem.W.Frag) : Sp := fun vs H Q _ => ∃ (b : Addr) (rs : List Ro), vs = [.ref b] ∧ RtAt K H b rs ∧ (∀ r ∈ rs, 1 ≤ r.length ∧ r.length ≤ 6) ∧ ∀ H', Same H H' → Q (.int (lc rs : Nat)) H'
theorem ok_common (T : Bd P K mg) : FnOk P w K mg base CX0 2 T.aCommon T.dCommon ["routes"] (spCommon K) := by
  have GR : FnOk P w K mg base CX0 1 T.aRoutePat T.dRoutePat ["route"] (spRoutePat K) := ok_routePat T.RoutePat
  refine T.Common.F.ok scCommon (fun vs H Q E h => ?_) (fun cdv A outer s H vs Q E hr h => ?_)
  · obtain ⟨b, rs, rfl, _⟩ := h
    rfl
  · obtain ⟨b, rs, rfl, hB, hrs, q⟩ := h
    obtain ⟨qs, hA, hP⟩ := hB.ex
    have hql := paired_len hP
    refine ⟨_, pss_cons (ps_set (i := 1) scCommon.nd rfl (Or.inl rfl) pe_int)
      (pss_cons (ps_for PassesOwn.never rfl (pi_tup (pv 0)) (pg_name (i := 2) scCommon.nd rfl (Or.inl rfl))
        (pss_one (ps_set (i := 1) scCommon.nd rfl (Or.inl rfl) (pe_callBfun cr_lcm (by rfl) T.lcm (pa_cons (pv 1) (pa_cons (pe_call (E := E0) GR hr (by rfl) T.RoutePat.g T.RoutePat.F.kp T.RoutePat.b .nil pass0 (pa_cons (pv 2) pa_nil)) pa_nil))))))
      (pss_one (ps_ret (pv 1)))), ?_⟩
    refine ⟨.ref b, rfl, b, rfl, ⟨_, hA⟩, for_tup (xs := qs.map V.ref) (fun i σ H' => (∃ y2, σ = [some (.ref b), some (.int (lc (rs.take i) : Nat)), y2]) ∧ Same H H') ⟨⟨none, rfl⟩, fun _ _ h => h⟩ (fun i σ H' _ h => sqT_same h.2 hA) (fun i x σ H' hx ⟨⟨y2, es⟩, sm⟩ => ?_) (fun σ H' ⟨⟨y2, es⟩, sm⟩ => ?_)⟩
    · subst es
      obtain ⟨qa, hqa, rfl⟩ := refs_lt hx
      obtain ⟨r, hr1, hqr⟩ := paired_at hP hqa
      have hm := List.mem_of_getElem? hr1
      obtain ⟨l1, l2⟩ := hrs r hm
      have rne : r ≠ [] := fun z => by rw [z] at l1; simp at l1
      have b1 := (lc_le (rs := rs.take i) fun x hx => hrs x (List.mem_of_mem_take hx)).2
      have b2 := (rtp_spec rne).2.2.2
      have p64 : (1000 : Nat) < 2 ^ 64 := by decide
      refine ⟨.int (lc (rs.take i) : Nat), rfl, .ref qa, rfl, qa, r, rfl, sqT_same sm hqr, rne, by omega, fun H1 sm1 => ⟨lc (rs.take i), rtp r, rfl, by omega, by omega, ⟨some (.ref qa), ?_⟩, sm.trans sm1⟩⟩
      rw [List.take_add_one, hr1]
      show _ = [some (V.ref b), some (V.int (lc (rs.take i ++ [r]) : Nat)), some (V.ref qa)]
      rw [lc_snoc]
      rfl
    · subst es
      rw [List.length_map, hql, List.take_length]
      exact ⟨.int (lc rs : Nat), rfl, q _ sm⟩
theorem scPattern : FnScope ["plan"] ["plan"] (defScope sPattern) := ⟨rfl, rfl, rfl, by decide +kernel, rfl, by decide +kernel, by decide +kernel⟩
/-- what a function of a plan does where the plan is wrong -/
abbrev BadE (C : Addr) (zs : List Int) (rs : List Ro) (H : Hp) (E : XK) : Prop := ∀ part i, bad zs rs = some (part, i) → PlanE C H part i E
def spPattern (K : PySem.W.Frag) (C : Addr) : Sp := fun vs H Q E => ∃ (p : Addr) (zs : List Int) (rs : List Ro), vs = [.ref p] ∧ PlanAt K H p zs rs ∧ Small zs rs ∧ (bad zs rs = none → ∀ H', Same H H' → Q (.int (lc rs : Nat)) H') ∧ BadE C zs rs H E
theorem ok_pattern (T : Bd P K mg) : FnOk P w K mg base (L2.CX P w) 5 T.aPattern T.dPattern ["plan"] (spPattern K T.C) := by
  have GP : FnOk P w K mg base (L2.CX P w) 4 T.aCheckPlan T.dCheckPlan ["plan"] (spCheckPlan K T.C) := ok_checkPlan T
  have GC : FnOk P w K mg base CX0 2 T.aCommon T.dCommon ["routes"] (spCommon K) := ok_common T
  refine T.Pattern.F.okX scPattern (fun vs H Q E h => ?_) (fun cdv A outer s H vs Q E hr h => ?_)
  · obtain ⟨p, zs, rs, rfl, _⟩ := h
    rfl
  · obtain ⟨p, zs, rs, rfl, hp, hs, q1, q2⟩ := h
    obtain ⟨a, b, hp1, ha, hb⟩ := hp.ex
    refine ⟨_, pss_cons (ps_expr (pe_call (E := E) GP hr (by rfl) T.CheckPlan.g T.CheckPlan.F.kp T.CheckPlan.b .nil (passes_call (takes_of rfl rfl rfl rfl) fun _ _ _ _ h => h) (pa_cons (pv 0) pa_nil)))
      (pss_one (ps_ret (pe_call (E := E0) GC (hr.mono (by decide)) (by rfl) T.Common.g T.Common.F.kp T.Common.b .nil pass0 (pa_cons (pe_ix ix_tup (pv 0) pe_int (fun _ _ => rfl)) pa_nil)))), ?_⟩
    refine ⟨.ref p, rfl, p, zs, rs, rfl, hp, hs, fun e1 H1 sm1 => ?_, q2⟩
    have g := good_of e1
    exact ⟨.ref p, rfl, p, _, 1, .ref b, rfl, rfl, sqT_same sm1 hp1, rfl, b, rs, rfl, hb.same sm1, g.r2, fun H2 sm2 => q1 e1 H2 (sm1.trans sm2)⟩
def spVisits (K : PySem.W.Frag) (C : Addr) : Sp := fun vs H Q E => ∃ (p : Addr) (zs : List Int) (rs : List Ro) (n : Int), vs = [.ref p, .int n] ∧ PlanAt K H p zs rs ∧ Small zs rs ∧ (bad zs rs = none → NewTL H (meets rs (n - 1)) Q) ∧ BadE C zs rs H E
theorem NewTL.imp {H H1 : Hp} {ts : List (List V)} {Q : VK} (h : NewTL H ts Q) (e : Same H H1) : NewTL H1 ts Q := fun H' f sm hf tl => h H' f (e.trans sm) (Same.free e hf) tl
end
end Sv


set_option maxHeartbeats 4000000
namespace Sv
open PySem PySem.Spec PyProof.Rows L2
theorem TL.ext2 {H : Hp} {f g : Addr} {ts us : List (List V)} {xs ys : List V} (x : TL H f ts) (y : TL H g us) (hf : H f = some (.lst xs)) (hg : H g = some (.lst ys)) : TL (upd H f (.lst (xs ++ ys))) f (ts ++ us) := by
  obtain ⟨ps, h1, h2⟩ := x.ex
  obtain ⟨qs, g1, g2⟩ := y.ex
  rw [hf] at h1
  rw [hg] at g1
  obtain rfl := HO.lst.inj (Option.some.inj h1)
  obtain rfl := HO.lst.inj (Option.some.inj g1)
  refine ⟨ps ++ qs, by rw [upd_same, List.map_append], tupsV_imp (fun b xs q => ?_) (tupsV_app h2 g2)⟩
  rw [upd_ne (fun z => by rw [z, hf] at q; cases q)]
  exact q
theorem TL.len {H : Hp} {f : Addr} {ts : List (List V)} {xs : List V} (x : TL H f ts) (hf : H f = some (.lst xs)) : xs.length = ts.length := by
  obtain ⟨ps, h1, h2⟩ := x.ex
  rw [hf] at h1
  obtain rfl := HO.lst.inj (Option.some.inj h1)
  rw [List.length_map, tupsV_len h2]
/-! ### places -/
def carV (n : Nat) : List (List V) := (List.range n).map fun c => [V.str "carrier", V.int (c : Nat)]
def posV (s n : Nat) : List (List V) := (List.range n).map fun p => [V.str "shelf", V.int (s : Nat), V.int (p : Nat)]
def shN (zs : List Int) : Nat → List (List V)
  | 0 => []
  | k + 1 => shN zs k ++ posV k (zs.getD k 0).toNat
def placesV (zs : List Int) (n : Nat) : List (List V) := carV n ++ shN zs zs.length
theorem carV_succ (n : Nat) : carV (n + 1) = carV n ++ [[V.str "carrier", V.int (n : Nat)]] := by
  unfold carV
  rw [List.range_succ, List.map_append]
  rfl
theorem posV_succ (s n : Nat) : posV s (n + 1) = posV s n ++ [[V.str "shelf", V.int (s : Nat), V.int (n : Nat)]] := by
  unfold posV
  rw [List.range_succ, List.map_append]
  rfl
theorem carV_len (n : Nat) : (carV n).length = n := by unfold carV; simp
theorem posV_len (s n : Nat) : (posV s n).length = n := by unfold posV; simp
theorem shN_len {zs : List Int} (h : ∀ z ∈ zs, 0 ≤ z ∧ z ≤ 9) : ∀ k, k ≤ zs.length → (shN zs k).length ≤ 9 * k
  | 0, _ => Nat.le_refl _
  | k + 1, hk => by
    unfold shN
    rw [List.length_append, posV_len]
    have h1 := shN_len h k (by omega)
    have e : zs.getD k 0 = zs[k] := by rw [List.getD_eq_getElem?_getD, List.getElem?_eq_getElem (by omega)]; rfl
    have h2 := h zs[k] (List.getElem_mem (by omega))
    rw [e]
    omega
section
variable {P : Program} {w : World} {K : PySem.W.Frag} {mg : Str → Option Value} {base : Heap}
def nPl : List Str := ["plan", "sizes", "routes", "found", "shelf", "size", "carrier", "position"]
theorem scPlacesOf : FnScope nPl ["plan"] (defScope sPlacesOf) := ⟨rfl, rfl, rfl, by decide +kernel, rfl, by decide +kernel, by decide +kernel⟩
def spPlacesOf (K : PySem.W.Frag) : Sp := fun vs H Q E => ∃ (p : Addr) (zs : List Int) (rs : List Ro), vs = [.ref p] ∧ PlanAt K H p zs rs ∧ Good zs rs ∧ NewTL H (placesV zs rs.length) Q
theorem ok_placesOf (T : Bd P K mg) : FnOk P w K mg base CX0 1 T.aPlacesOf T.dPlacesOf ["plan"] (spPlacesOf K) := by
  refine T.PlacesOf.F.ok scPlacesOf (fun vs H Q E h => ?_) (fun cdv A outer s H vs Q E hr h => ?_)
  · obtain ⟨p, zs, rs, rfl, _⟩ := h
    rfl
  · obtain ⟨p, zs, rs, rfl, hp, gd, q1⟩ := h
    obtain ⟨a, b, hp1, ha, hb⟩ := hp.ex
    refine ⟨_, pss_cons (ps_asg (pv 0) (pg_tup rfl (pgs_cons (pg_name (i := 1) scPlacesOf.nd rfl (.inl rfl)) (pgs_cons (pg_name (i := 2) scPlacesOf.nd rfl (.inl rfl)) pgs_nil))))
      (pss_cons (ps_setLc (i := 3) (own := [("carrier", 6)]) (g := gName 6) rfl scPlacesOf.nd rfl rfl (sw_true rfl rfl rfl (by decide +kernel)) (pi_range1 (by rfl) T.bt.range (pa_cons (pe_callB call_len_seq (by rfl) T.bt.len b_len (pa_cons (pv 2) pa_nil)) pa_nil)) (blkOk_by (N := nPl) (sc := defScope sPlacesOf) (by decide +kernel))
          (fun _ _ _ _ _ => pg_name (i := 6) scPlacesOf.nd rfl (Or.inl rfl)) (fun _ _ _ _ _ => pts_nil) (fun _ _ _ _ _ => pe_tup (pa_cons pe_str (pa_cons (pv 6) pa_nil))))
      (pss_cons (ps_for PassesOwn.never rfl (pi_enumT (by rfl) T.bt.enumerate (pa_cons (pv 1) pa_nil)) (pg_tup rfl (pgs_cons (pg_name (i := 4) scPlacesOf.nd rfl (.inr rfl)) (pgs_cons (pg_name (i := 5) scPlacesOf.nd rfl (.inl rfl)) pgs_nil)))
        (pss_one (ps_expr (pe_bm PySem.F.plainAttrs_list PySem.F.slot_list_extend PySem.F.type_list_extend mt_extend (pv 3) <| pa_cons
          (pe_lc (own := [("position", 7)]) (g := gName 7) rfl scPlacesOf.nd (pi_range1 (by rfl) T.bt.range (pa_cons (pv 5) pa_nil)) (blkOk_by (N := nPl) (sc := defScope sPlacesOf) (by decide +kernel))
            (fun _ _ _ _ _ => pg_name (i := 7) scPlacesOf.nd rfl (Or.inl rfl)) (fun _ _ _ _ _ => pts_nil) (fun _ _ _ _ _ => pe_tup (pa_cons pe_str (pa_cons (pv 4) (pa_cons (pv 7) pa_nil))))) pa_nil))))
      (pss_one (ps_ret (pv 3))))), ?_⟩
    have sm1 := Same.refl H
    obtain ⟨qs, hA, hP⟩ := hb.ex
    have hql := paired_len hP
    have hp2 := sqT_same sm1 hp1
    refine ⟨.ref p, rfl, p, [.ref a, .ref b], rfl, hp2, rfl, _, _, rfl, _, _, rfl, rfl, ?_⟩
    have b62 : (1000 : Int) < 2 ^ 62 := by decide
    refine ⟨.ref b, rfl, b, _, rfl, .inr (sqT_same sm1 hA), ((qs.map V.ref).length : Nat), rfl, by omega, by rw [List.length_map, hql]; have := gd.r1; omega, fun f hf => ?_⟩
    rw [List.length_map, hql]
    have nf : H f = none := Same.free sm1 hf
    refine lc_range (lo := 0) (n := ((rs.length : Nat) : Int).toNat) (fun i H' => Same H H' ∧ TL H' f (carV i)) ⟨same_upd hf, [], upd_same, .nil⟩ (fun i H' hi ⟨sm, tl⟩ => ?_) (fun H' ⟨sm, tl⟩ => ?_)
    · have hi2 : i < rs.length := by
        rw [Int.toNat_natCast] at hi
        exact hi
      have ei : (0 : Int) + (i : Nat) = (i : Nat) := by omega
      rw [ei]
      obtain ⟨ps, hff, htv⟩ := tl.ex
      refine ⟨rfl, yes_go ⟨.int (i : Nat), rfl, (by show 2 ≤ sizeLine; decide), fun t ht => ⟨ps.map V.ref, ?_, ?_, same_of (same_of sm (Same.free sm ht)) hf, ?_⟩⟩⟩
      · rw [upd_ne (ne_of_none hff ht)]
        exact hff
      · rw [tl.len hff, carV_len]
        exact small1000 (by have := gd.r1; omega)
      · rw [carV_succ]
        exact (tl.same (same_upd ht)).push (by rw [upd_ne (ne_of_none hff ht)]; exact hff) upd_same
    rw [Int.toNat_natCast] at tl
    have smf : Same H H' := sm1.trans sm
    -- the shelves
    refine ⟨.ref a, rfl, a, _, rfl, sqT_same smf ha, for_enumT (xs := zs.map V.int) (fun i σ H2 => (∃ y4 y5, σ = [some (.ref p), some (.ref a), some (.ref b), some (.ref f), y4, y5, none, none]) ∧ Same H H2 ∧ TL H2 f (carV rs.length ++ shN zs i)) ⟨⟨none, none, rfl⟩, smf, by rw [show shN zs 0 = [] from rfl, List.append_nil]; exact tl⟩
      (fun i σ H2 _ h => sqT_same h.2.1 ha) (fun i x σ H2 U hx ⟨⟨y4, y5, es⟩, sm2, tl2⟩ hU => ?_) (fun σ H2 ⟨⟨y4, y5, es⟩, sm2, tl2⟩ => ?_)⟩
    · subst es
      obtain ⟨z, hz1, rfl⟩ := iV_lt hx
      have hz := gd.z2 z (List.mem_of_getElem? hz1)
      have il : i < zs.length := (List.getElem?_eq_some_iff.mp hz1).1
      have zd : zs.getD i 0 = z := by rw [List.getD_eq_getElem?_getD, hz1]; rfl
      have sm3 : Same H (upd H2 U (.tup [.int (i : Nat), .int z])) := same_of sm2 (Same.free sm2 hU)
      have tl3 := tl2.same (same_upd (o := .tup [.int (i : Nat), .int z]) hU)
      refine ⟨U, [.int (i : Nat), .int z], rfl, .inl (.inl upd_same), rfl, _, _, rfl, _, _, rfl, rfl, ?_⟩
      generalize upd H2 U (.tup [.int (i : Nat), .int z]) = H3 at sm3 tl3 ⊢
      obtain ⟨ps, hff, htv⟩ := tl3.ex
      refine ⟨.ref f, rfl, .inl ⟨rfl, _, .inl (.inl hff)⟩, .int z, rfl, z, rfl, by omega, by omega, fun D hD => ?_⟩
      have fD : f ≠ D := ne_of_none hff hD
      refine lc_range (lo := 0) (n := z.toNat) (fun j H' => Same H3 H' ∧ TL H' D (posV i j)) ⟨same_upd hD, [], upd_same, .nil⟩ (fun j H' hj ⟨sm4, tl4⟩ => ?_) (fun H' ⟨sm4, tl4⟩ => ?_)
      · have ej : (0 : Int) + (j : Nat) = (j : Nat) := by omega
        rw [ej]
        obtain ⟨ps2, hdd, htv2⟩ := tl4.ex
        refine ⟨rfl, yes_go ⟨.int (i : Nat), rfl, .int (j : Nat), rfl, (by show 3 ≤ sizeLine; decide), fun t ht => ⟨ps2.map V.ref, ?_, ?_, same_of (same_of sm4 (Same.free sm4 ht)) hD, ?_⟩⟩⟩
        · rw [upd_ne (ne_of_none hdd ht)]
          exact hdd
        · rw [tl4.len hdd, posV_len]
          exact small1000 (by omega)
        · rw [posV_succ]
          exact (tl4.same (same_upd ht)).push (by rw [upd_ne (ne_of_none hdd ht)]; exact hdd) upd_same
      · obtain ⟨ps2, hdd, htv2⟩ := tl4.ex
        have hf4 := sm4 _ _ hff
        have tl5 := tl3.same sm4
        have l1 := tl5.len hf4
        have l2 := tl4.len hdd
        have l3 := shN_len gd.z2 i (by omega)
        refine ⟨f, D, _, _, rfl, rfl, hf4, hdd, ?_, ⟨_, _, rfl⟩, same_of (sm3.trans sm4) nf, ?_⟩
        · rw [l1, l2, List.length_append, carV_len, posV_len]
          exact sz1000 (by have := gd.r1; have := gd.z1; omega)
        · have e : carV rs.length ++ shN zs (i + 1) = (carV rs.length ++ shN zs i) ++ posV i z.toNat := by
            conv => lhs; unfold shN
            rw [zd, List.append_assoc]
          rw [e]
          exact tl5.ext2 tl4 hf4 hdd
    · subst es
      rw [List.length_map] at tl2
      exact ⟨.ref f, rfl, q1 H2 f sm2 nf tl2⟩
theorem scPlaces : FnScope ["plan"] ["plan"] (defScope sPlaces) := ⟨rfl, rfl, rfl, by decide +kernel, rfl, by decide +kernel, by decide +kernel⟩
def spPlaces (K : PySem.W.Frag) (C : Addr) : Sp := fun vs H Q E => ∃ (p : Addr) (zs : List Int) (rs : List Ro), vs = [.ref p] ∧ PlanAt K H p zs rs ∧ Small zs rs ∧ (bad zs rs = none → NewTL H (placesV zs rs.length) Q) ∧ BadE C zs rs H E
theorem ok_places (T : Bd P K mg) : FnOk P w K mg base (L2.CX P w) 5 T.aPlaces T.dPlaces ["plan"] (spPlaces K T.C) := by
  have GP : FnOk P w K mg base (L2.CX P w) 4 T.aCheckPlan T.dCheckPlan ["plan"] (spCheckPlan K T.C) := ok_checkPlan T
  have GO : FnOk P w K mg base CX0 1 T.aPlacesOf T.dPlacesOf ["plan"] (spPlacesOf K) := ok_placesOf T
  refine T.Places.F.okX scPlaces (fun vs H Q E h => ?_) (fun cdv A outer s H vs Q E hr h => ?_)
  · obtain ⟨p, zs, rs, rfl, _⟩ := h
    rfl
  · obtain ⟨p, zs, rs, rfl, hp, hs, q1, q2⟩ := h
    refine ⟨_, pss_cons (ps_expr (pe_call (E := E) GP hr (by rfl) T.CheckPlan.g T.CheckPlan.F.kp T.CheckPlan.b .nil (passes_call (takes_of rfl rfl rfl rfl) fun _ _ _ _ h => h) (pa_cons (pv 0) pa_nil)))
      (pss_one (ps_ret (pe_call (E := E0) GO (hr.mono (by decide)) (by rfl) T.PlacesOf.g T.PlacesOf.F.kp T.PlacesOf.b .nil pass0 (pa_cons (pv 0) pa_nil)))), ?_⟩
    exact ⟨.ref p, rfl, p, zs, rs, rfl, hp, hs, fun e1 H1 sm1 => ⟨.ref p, rfl, p, zs, rs, rfl, hp.same sm1, good_of e1, fun H2 f sm2 nf tl => q1 e1 H2 f (sm1.trans sm2) (Same.free sm1 nf) tl⟩, q2⟩
end
end Sv


set_option maxHeartbeats 4000000
namespace Sv
open PySem PySem.Spec PyProof.Rows L2
def rSumT (K : PySem.W.Frag) : List V → Hp → VK → Prop := fun vs H Q => ∃ (a : Addr) (ns : List Int), vs = [V.ref a] ∧ SqT K H a (ns.map V.int) ∧ Q (.int ns.sum) H
theorem cr_sumT {X : Cx} (hc : X.calm = true) : CallR X (.builtin "sum") (rSumT X.K) := by
  intro pins s σ H vs us Q I r h
  obtain ⟨a, ns, rfl, hs, q⟩ := h
  obtain ⟨its, rv, hl, _⟩ := I.tuple hs
  rw [Vals.ref1 r]
  have hi := rv.ints
  obtain ⟨xs, e⟩ := hi.allInts.items
  have hn : numsOf (intItems xs).toList = ns := by rw [← e]; exact hi.numsOf
  rw [nums_intItems] at hn
  rw [e] at hl
  refine PySem.W.ktm_sumG (I.ok.hd hc) hl fun h' tk t' hk => ?_
  rw [preSum_eq, List.take_of_length_le (by simp), hn]
  exact ⟨.int ns.sum, H, I.kept hk, ⟨_, rfl⟩, q⟩
/-! ### the first layout -/
def parc (N : Nat) : List Int := (List.range N).map fun i => 1 + (i : Nat)
theorem parc_len (N : Nat) : (parc N).length = N := by unfold parc; simp
theorem rgV_parc (N : Nat) : rgV 1 ((N : Nat) + 1) = (parc N).map V.int := by
  unfold rgV parc
  rw [show (((N : Nat) : Int) + 1 - 1).toNat = N by omega, List.map_map]
  rfl
abbrev SegV (H : Hp) (qs : List Addr) (ss : List (List Int)) : Prop := Paired (fun q seg => H q = some (.tup (seg.map V.int))) qs ss
theorem segV_imp {H H' : Hp} (e : ∀ b xs, H b = some (.tup xs) → H' b = some (.tup xs)) : ∀ {ps : List Addr} {ts : List (List Int)}, SegV H ps ts → SegV H' ps ts
  | _, _, .nil => .nil
  | _, _, .cons h t => .cons (e _ _ h) (segV_imp e t)
theorem segV_len {H : Hp} : ∀ {ps : List Addr} {ts : List (List Int)}, SegV H ps ts → ps.length = ts.length
  | _, _, .nil => rfl
  | _, _, .cons _ t => congrArg Nat.succ (segV_len t)
theorem segV_snoc {H : Hp} {p : Addr} {t : List Int} (hp : H p = some (.tup (t.map V.int))) : ∀ {ps : List Addr} {ts : List (List Int)}, SegV H ps ts → SegV H (ps ++ [p]) (ts ++ [t])
  | _, _, .nil => .cons hp .nil
  | _, _, .cons h r => .cons h (segV_snoc hp r)
theorem segV_at {H : Hp} : ∀ {ps : List Addr} {ts : List (List Int)} {i : Nat} {p : Addr}, SegV H ps ts → ps[i]? = some p → ∃ t, ts[i]? = some t ∧ H p = some (.tup (t.map V.int))
  | _, _, i, p, .nil, e => by simp at e
  | _, _, 0, p, .cons h r, e => by
    obtain rfl := Option.some.inj e
    exact ⟨_, rfl, h⟩
  | _, _, i + 1, p, .cons h r, e => segV_at (i := i) r (by simpa using e)
/-- a layout: who is carried, who lies where -/
structure LayAt (H : Hp) (ca sh : Addr) (cs : List Int) (ss : List (List Int)) : Prop where
  c : H ca = some (.tup (cs.map V.int))
  s : ∃ qs : List Addr, H sh = some (.tup (qs.map V.ref)) ∧ SegV H qs ss
theorem LayAt.same {H H' : Hp} {ca sh : Addr} {cs : List Int} {ss : List (List Int)} (x : LayAt H ca sh cs ss) (e : Same H H') : LayAt H' ca sh cs ss := by
  obtain ⟨qs, h1, h2⟩ := x.s
  exact ⟨e _ _ x.c, qs, e _ _ h1, segV_imp (fun b xs q => e _ _ q) h2⟩
theorem cut_seg {xs : List V} {st k : Nat} : cutV xs (some (st : Int)) (some (((st : Nat) : Int) + (k : Nat))) = (xs.drop st).take k := by
  have e : ((st : Nat) : Int) + (k : Nat) = ((st + k : Nat) : Int) := by omega
  unfold cutV
  rw [e, HT.sIx_nat, HT.sIx_nat]
  by_cases h1 : st + k ≤ xs.length
  · rw [Nat.min_eq_left h1, Nat.min_eq_left (by omega)]
    congr 1
    omega
  · by_cases h2 : st ≤ xs.length
    · rw [Nat.min_eq_right (by omega), Nat.min_eq_left h2, List.take_of_length_le (by rw [List.length_drop]; omega), List.take_of_length_le (by rw [List.length_drop]; omega)]
    · rw [Nat.min_eq_right (by omega), Nat.min_eq_right (by omega), List.drop_of_length_le (by omega : xs.length ≤ st), List.drop_of_length_le (Nat.le_refl _), List.take_nil, List.take_nil]
section
variable {P : Program} {w : World} {K : PySem.W.Frag} {mg : Str → Option Value} {base : Heap}
theorem scNum : FnScope ["plan", "sizes", "routes"] ["plan"] (defScope sNumPlaces) := ⟨rfl, rfl, rfl, by decide +kernel, rfl, by decide +kernel, by decide +kernel⟩
theorem scSplit : FnScope ["plan", "contents", "sizes", "routes", "start", "carried", "shelves", "size"] ["plan", "contents"] (defScope sSplit) := ⟨rfl, rfl, rfl, by decide +kernel, rfl, by decide +kernel, by decide +kernel⟩
def spNum (K : PySem.W.Frag) : Sp := fun vs H Q _ => ∃ (p : Addr) (zs : List Int) (rs : List Ro), vs = [.ref p] ∧ PlanAt K H p zs rs ∧ (∀ z ∈ zs, 0 ≤ z) ∧ Q (.int (rs.length + sumN zs : Nat)) H
theorem ok_num (T : Bd P K mg) : FnOk P w K mg base CX0 1 T.aNumPlaces T.dNumPlaces ["plan"] (spNum K) := by
  refine T.NumPlaces.F.ok scNum (fun vs H Q E h => ?_) (fun cdv A outer s H vs Q E hr h => ?_)
  · obtain ⟨p, zs, rs, rfl, _⟩ := h
    rfl
  · obtain ⟨p, zs, rs, rfl, hp, hz, q⟩ := h
    obtain ⟨a, b, hp1, ha, hb⟩ := hp.ex
    obtain ⟨qs, hA, hP⟩ := hb.ex
    have hql := paired_len hP
    refine ⟨_, pss_cons (ps_asg (pv 0) (pg_tup rfl (pgs_cons (pg_name (i := 1) scNum.nd rfl (.inl rfl)) (pgs_cons (pg_name (i := 2) scNum.nd rfl (.inl rfl)) pgs_nil))))
      (pss_one (ps_ret (pe_op op_add (pe_callB call_len_seq (by rfl) T.bt.len b_len (pa_cons (pv 2) pa_nil)) (pe_callB (cr_sumT rfl) (by rfl) T.bt.sum b_sum (pa_cons (pv 1) pa_nil))))), ?_⟩
    refine ⟨.ref p, rfl, p, [.ref a, .ref b], rfl, hp1, rfl, _, _, rfl, _, _, rfl, rfl, ?_⟩
    refine ⟨.ref b, rfl, b, _, rfl, .inr hA, .ref a, rfl, a, zs, rfl, ha, _, _, rfl, rfl, ?_⟩
    rw [List.length_map, hql, sum_int hz]
    exact q
def spSplit (K : PySem.W.Frag) : Sp := fun vs H Q _ => ∃ (p c : Addr) (zs : List Int) (rs : List Ro) (cs : List Int), vs = [.ref p, .ref c] ∧ PlanAt K H p zs rs ∧ SqL K H c (cs.map V.int) ∧ (∀ z ∈ zs, 0 ≤ z ∧ z ≤ 9) ∧ zs.length ≤ 12 ∧ rs.length ≤ 6 ∧ cs.length ≤ 1000 ∧
  ∀ H' t ca sh, Same H H' → H' t = some (.tup [.ref ca, .ref sh]) → LayAt H' ca sh (cs.take rs.length) (segs cs rs.length zs) → Q (.ref t) H'
theorem ok_split (T : Bd P K mg) : FnOk P w K mg base CX0 1 T.aSplit T.dSplit ["plan", "contents"] (spSplit K) := by
  refine T.Split.F.ok scSplit (fun vs H Q E h => ?_) (fun cdv A outer s H vs Q E hr h => ?_)
  · obtain ⟨p, c, zs, rs, cs, rfl, _⟩ := h
    rfl
  · obtain ⟨p, c, zs, rs, cs, rfl, hp, hc, hz, lz, lr, lc, q⟩ := h
    obtain ⟨a, b, hp1, ha, hb⟩ := hp.ex
    obtain ⟨qs, hA, hP⟩ := hb.ex
    have hql := paired_len hP
    refine ⟨_, pss_cons (ps_asg (pv 0) (pg_tup rfl (pgs_cons (pg_name (i := 2) scSplit.nd rfl (.inl rfl)) (pgs_cons (pg_name (i := 3) scSplit.nd rfl (.inl rfl)) pgs_nil))))
      (pss_cons (ps_set (i := 4) scSplit.nd rfl (Or.inl rfl) (pe_callB call_len_seq (by rfl) T.bt.len b_len (pa_cons (pv 3) pa_nil)))
      (pss_cons (ps_set (i := 5) scSplit.nd rfl (Or.inl rfl) (pe_callTy call_tuple_of (by rfl) T.bt.tuple b_tuple (pa_cons (pe_slice sl_list (pv 1) po_none (po_some (pv 4))) pa_nil)))
      (pss_cons (ps_set (i := 6) scSplit.nd rfl (Or.inl rfl) (pe_lst pa_nil))
      (pss_cons (ps_for PassesOwn.never rfl (pi_tup (pv 2)) (pg_name (i := 7) scSplit.nd rfl (Or.inl rfl))
        (pss_cons (ps_expr (pe_bm PySem.F.plainAttrs_list PySem.F.slot_list_append PySem.F.type_list_append mt_append (pv 6) (pa_cons (pe_callTy call_tuple_of (by rfl) T.bt.tuple b_tuple (pa_cons (pe_slice sl_list (pv 1) (po_some (pv 4)) (po_some (pe_op op_add (pv 4) (pv 7)))) pa_nil)) pa_nil)))
        (pss_one (ps_aug (i := 4) scSplit.nd rfl (Or.inl rfl) (pv 7) ip_add))))
      (pss_one (ps_ret (pe_tup (pa_cons (pv 5) (pa_cons (pe_callTy call_tuple_of (by rfl) T.bt.tuple b_tuple (pa_cons (pv 6) pa_nil)) pa_nil))))))))), ?_⟩
    refine ⟨.ref p, rfl, p, [.ref a, .ref b], rfl, hp1, rfl, _, _, rfl, _, _, rfl, rfl, ?_⟩
    refine ⟨.ref b, rfl, b, _, rfl, .inr hA, ?_⟩
    rw [List.length_map, hql]
    refine ⟨.ref c, rfl, .int (rs.length : Nat), rfl, (rs.length : Nat), rfl, c, _, rfl, hc, fun p1 hp1 => ?_⟩
    rw [cut_to, ← List.map_take]
    have m1 : Same H (upd H p1 (.lst ((cs.take rs.length).map V.int))) := same_upd hp1
    refine ⟨p1, _, rfl, .inl ⟨.inl (.inl upd_same), fun ca hca => ?_⟩⟩
    have m2 := m1.trans (same_upd (o := .tup ((cs.take rs.length).map V.int)) hca)
    have kca : (upd (upd H p1 (.lst ((cs.take rs.length).map V.int))) ca (.tup ((cs.take rs.length).map V.int))) ca = some (.tup ((cs.take rs.length).map V.int)) := upd_same
    generalize upd (upd H p1 (.lst ((cs.take rs.length).map V.int))) ca (.tup ((cs.take rs.length).map V.int)) = H2 at m2 kca ⊢
    refine ⟨Nat.zero_le _, fun f hf => ?_⟩
    have nf : H f = none := Same.free m2 hf
    have m3 : Same H (upd H2 f (.lst [])) := m2.trans (same_upd hf)
    have kca3 : (upd H2 f (.lst [])) ca = some (.tup ((cs.take rs.length).map V.int)) := by rw [upd_ne (ne_of_none kca hf)]; exact kca
    refine ⟨.ref a, rfl, a, rfl, ⟨_, sqT_same m3 ha⟩, for_tup (xs := zs.map V.int) (fun i σ H' => (∃ y7, σ = [some (.ref p), some (.ref c), some (.ref a), some (.ref b), some (.int (rs.length + sumN (zs.take i) : Nat)), some (.ref ca), some (.ref f), y7]) ∧ Same H H' ∧ H' ca = some (.tup ((cs.take rs.length).map V.int)) ∧
        ∃ qs : List Addr, H' f = some (.lst (qs.map V.ref)) ∧ SegV H' qs (segs cs rs.length (zs.take i))) ⟨⟨none, rfl⟩, m3, kca3, [], upd_same, .nil⟩ (fun i σ H' _ h => sqT_same h.2.1 ha) (fun i x σ H' hx ⟨⟨y7, es⟩, sm, kc, qs2, kf, sv⟩ => ?_) (fun σ H' ⟨⟨y7, es⟩, sm, kc, qs2, kf, sv⟩ => ?_)⟩
    · subst es
      obtain ⟨z, hz1, rfl⟩ := iV_lt hx
      have hzz := hz z (List.mem_of_getElem? hz1)
      have il : i < zs.length := (List.getElem?_eq_some_iff.mp hz1).1
      have ez : z = (z.toNat : Nat) := (Int.toNat_of_nonneg hzz.1).symm
      refine ⟨.ref f, rfl, .inl ⟨rfl, _, .inl (.inl kf)⟩, .ref c, rfl, .int (rs.length + sumN (zs.take i) : Nat), rfl, (rs.length + sumN (zs.take i) : Nat), rfl, .int (rs.length + sumN (zs.take i) : Nat), rfl, .int z, rfl, (rs.length + sumN (zs.take i) : Nat), z, rfl, rfl, _, rfl, c, _, rfl, Same.seq sm hc, fun p4 hp4 => ?_⟩
      have ecut : cutV (cs.map V.int) (some ((rs.length + sumN (zs.take i) : Nat) : Int)) (some (((rs.length + sumN (zs.take i) : Nat) : Int) + z)) = ((cs.drop (rs.length + sumN (zs.take i))).take z.toNat).map V.int := by
        rw [show (((rs.length + sumN (zs.take i) : Nat) : Int) + z) = ((rs.length + sumN (zs.take i) : Nat) : Int) + (z.toNat : Nat) by omega, cut_seg, ← List.map_drop, ← List.map_take]
      rw [ecut]
      have m4 : Same H' (upd H' p4 (.lst (((cs.drop (rs.length + sumN (zs.take i))).take z.toNat).map V.int))) := same_upd hp4
      refine ⟨p4, _, rfl, .inl ⟨.inl (.inl upd_same), fun p5 hp5 => ?_⟩⟩
      have m5 := m4.trans (same_upd (o := .tup (((cs.drop (rs.length + sumN (zs.take i))).take z.toNat).map V.int)) hp5)
      have k5 : (upd (upd H' p4 (.lst (((cs.drop (rs.length + sumN (zs.take i))).take z.toNat).map V.int))) p5 (.tup (((cs.drop (rs.length + sumN (zs.take i))).take z.toNat).map V.int))) p5 = some (.tup (((cs.drop (rs.length + sumN (zs.take i))).take z.toNat).map V.int)) := upd_same
      generalize upd (upd H' p4 (.lst (((cs.drop (rs.length + sumN (zs.take i))).take z.toNat).map V.int))) p5 (.tup (((cs.drop (rs.length + sumN (zs.take i))).take z.toNat).map V.int)) = H5 at m5 k5 ⊢
      have kf5 := m5 _ _ kf
      have hql2 : qs2.length = i := by
        rw [segV_len sv, segs_len, List.length_take]
        omega
      have ek : zs.take (i + 1) = zs.take i ++ [z] := by rw [List.take_add_one, hz1]; rfl
      refine ⟨f, _, _, rfl, rfl, kf5, ?_, .int (rs.length + sumN (zs.take i) : Nat), rfl, .int z, rfl, (rs.length + sumN (zs.take i) : Nat), z, rfl, rfl, ⟨some (.int z), ?_⟩, same_of (sm.trans m5) nf, ?_, qs2 ++ [p5], ?_, ?_⟩
      · rw [List.length_map]
        exact small1000 (by omega)
      · rw [ek, sumN_snoc]
        have : (((rs.length + sumN (zs.take i) : Nat) : Int) + z) = ((rs.length + (sumN (zs.take i) + z.toNat) : Nat) : Int) := by omega
        show [_, _, _, _, some (V.int (((rs.length + sumN (zs.take i) : Nat) : Int) + z)), _, _, _] = _
        rw [this]
      · rw [upd_ne (fun e => by rw [e, kf] at kc; cases kc)]
        exact m5 _ _ kc
      · rw [upd_same, List.map_append]
        rfl
      · rw [ek, segs_snoc]
        refine segV_imp (fun b xs hb => ?_) (segV_snoc k5 (segV_imp (fun b xs hb => m5 _ _ hb) sv))
        rw [upd_ne (fun e => by rw [e, kf5] at hb; cases hb)]
        exact hb
    · subst es
      rw [List.length_map, List.take_length] at sv
      refine ⟨.ref ca, rfl, .ref f, rfl, f, _, rfl, .inl ⟨.inl (.inl kf), fun sh hsh => ⟨(by show 2 ≤ sizeLine; decide), fun t ht => ?_⟩⟩⟩
      have m6 : Same H' (upd (upd H' sh (.tup (qs2.map V.ref))) t (.tup [.ref ca, .ref sh])) := (same_upd hsh).trans (same_upd ht)
      refine q _ t ca sh (sm.trans m6) upd_same ⟨m6 _ _ kc, qs2, ?_, segV_imp (fun b xs hb => m6 _ _ hb) sv⟩
      have : (upd H' sh (.tup (qs2.map V.ref))) sh = some (.tup (qs2.map V.ref)) := upd_same
      rw [upd_ne (ne_of_none this ht)]
      exact this
def spInitial (K : PySem.W.Frag) (C : Addr) : Sp := fun vs H Q E => ∃ (p : Addr) (zs : List Int) (rs : List Ro), vs = [.ref p] ∧ PlanAt K H p zs rs ∧ Small zs rs ∧
  (bad zs rs = none → ∀ H' t ca sh, Same H H' → H' t = some (.tup [.int 0, .ref ca, .ref sh]) → LayAt H' ca sh ((parc (rs.length + sumN zs)).take rs.length) (segs (parc (rs.length + sumN zs)) rs.length zs) → Q (.ref t) H') ∧ BadE C zs rs H E
theorem sumN_le {zs : List Int} (h : ∀ z ∈ zs, 0 ≤ z ∧ z ≤ 9) : sumN zs ≤ 9 * zs.length := by
  unfold sumN
  induction zs with
  | nil => exact Nat.le_refl _
  | cons z zs ih =>
    have h1 := h z (List.mem_cons_self ..)
    have h2 := ih fun x hx => h x (List.mem_cons_of_mem _ hx)
    rw [List.map_cons, List.sum_cons, List.length_cons]
    omega
end
end Sv


set_option maxHeartbeats 8000000
namespace Sv
open PySem PySem.Spec PyProof.Rows L2 LamX NdefX
section
variable {P : Program} {w : World} {K : PySem.W.Frag} {mg : Str → Option Value} {base : Heap}
/-! ### _law_alike, of two values of the same data -/
theorem scAlike : FnScope ["_law_found", "_law_due", "_law_k"] ["_law_found", "_law_due"] (defScope sAlike) := ⟨rfl, rfl, rfl, by decide +kernel, rfl, by decide +kernel, by decide +kernel⟩
def tyN : PyData → String
  | .none => "NoneType"
  | .bool _ => "bool"
  | .int _ => "int"
  | .str _ => "str"
  | .list _ => "list"
  | .tuple _ => "tuple"
  | .dict _ => "dict"
theorem tyx_lst {H : Hp} {a : Addr} {xs : List V} (h : SqL K H a xs) : TyX K H (.ref a) (.type "list") := by
  rcases h with (h | ⟨o, h⟩) | ⟨o, its, n, h1, h2, _⟩
  · exact .base (.lst h)
  · exact .base (.frz h)
  · exact .kList h1 h2
theorem dp_ty {H : Hp} {v : V} {d : PyData} (h : Dp K H v d) : TyX K H v (.type (tyN d)) := by
  cases h with
  | non => exact .base .non
  | bl b => exact .base (.bl b)
  | int i => exact .base (.int i)
  | str x => exact .base (.str x)
  | lst hs _ => exact tyx_lst hs
  | tup hs _ => exact tyx_tup hs
mutual
theorem dp_same {H H' : Hp} (e : Same H H') : ∀ (d : PyData) (v : V), Dp K H v d → Dp K H' v d
  | .none, _, h => by cases h; exact .non
  | .bool b, _, h => by cases h; exact .bl b
  | .int i, _, h => by cases h; exact .int i
  | .str x, _, h => by cases h; exact .str x
  | .list ds, _, h => by
    cases h with
    | lst hs ha => exact .lst (e.seq hs) (dpAll_same e ds _ ha)
  | .tuple ds, _, h => by
    cases h with
    | tup hs ha => exact .tup (sqT_same e hs) (dpAll_same e ds _ ha)
  | .dict _, _, h => by cases h
theorem dpAll_same {H H' : Hp} (e : Same H H') : ∀ (ds : List PyData) (vs : List V), DpAll K H vs ds → DpAll K H' vs ds
  | [], _, h => by cases h; exact .nil
  | d :: ds, _, h => by
    cases h with
    | cons h1 h2 => exact .cons (dp_same e d _ h1) (dpAll_same e ds _ h2)
end
theorem dpAll_len {H : Hp} : ∀ {vs : List V} {ds : List PyData}, DpAll K H vs ds → vs.length = ds.length
  | [], _, h => by cases h; rfl
  | v :: vs, _, h => by
    cases h with
    | cons h1 h2 => exact congrArg Nat.succ (dpAll_len h2)
theorem dpAll_at {H : Hp} : ∀ {vs : List V} {ds : List PyData} {i : Nat} {d : PyData}, DpAll K H vs ds → ds[i]? = some d → ∃ v, vs[i]? = some v ∧ Dp K H v d
  | [], _, i, d, h, e => by cases h; simp at e
  | v :: vs, _, 0, d, h, e => by
    cases h with
    | cons h1 h2 =>
      obtain rfl := Option.some.inj e
      exact ⟨v, rfl, h1⟩
  | v :: vs, _, i + 1, d, h, e => by
    cases h with
    | cons h1 h2 =>
      obtain ⟨x, h3, h4⟩ := dpAll_at (vs := vs) (i := i) h2 (by simpa using e)
      exact ⟨x, by simpa using h3, h4⟩
mutual
/-- how deep, and no list too long -/
def okD : Nat → PyData → Bool
  | 0, .list _ => false
  | 0, .tuple _ => false
  | n + 1, .list ds => decide (ds.length ≤ 1000) && okDs n ds
  | n + 1, .tuple ds => decide (ds.length ≤ 1000) && okDs n ds
  | _, .dict _ => false
  | _, _ => true
def okDs : Nat → List PyData → Bool
  | _, [] => true
  | n, d :: ds => okD n d && okDs n ds
end
theorem okDs_at : ∀ {n : Nat} {ds : List PyData} {i : Nat} {d : PyData}, okDs n ds = true → ds[i]? = some d → okD n d = true
  | n, [], i, d, _, e => by simp at e
  | n, x :: ds, 0, d, h, e => by
    obtain rfl := Option.some.inj e
    rw [okDs, Bool.and_eq_true] at h
    exact h.1
  | n, x :: ds, i + 1, d, h, e => by
    rw [okDs, Bool.and_eq_true] at h
    exact okDs_at (n := n) (ds := ds) (i := i) h.2 e
def spAlike (K : PySem.W.Frag) (n : Nat) : Sp := fun vs H Q _ => ∃ (v1 v2 : V) (d : PyData), vs = [v1, v2] ∧ Dp K H v1 d ∧ Dp K H v2 d ∧ okD n d = true ∧ ∀ H', Same H H' → Q (.bl true) H'
theorem kit_false {K : PySem.W.Frag} {a b : String} (h : kitB a b = some false) : PySem.W.kitOne K (.type a) (.type b) = some false := kit_ty h
theorem alike_step {f : Addr} {fd : FuncData} (F : Df K mg "_law_alike" sAlike ["_law_found", "_law_due"] f fd) (B : Bt mg) (n : Nat) (spS : Sp) (GS : FnOk P w K mg base CX0 n f fd ["_law_found", "_law_due"] spS)
    (hS : ∀ m, n = m + 1 → ∀ vs H Q E, spAlike K m vs H Q E → spS vs H Q E) : FnOk P w K mg base CX0 (n + 1) f fd ["_law_found", "_law_due"] (spAlike K n) := by
  refine F.F.ok scAlike (fun vs H Q E h => ?_) (fun cdv A outer s H vs Q E hr h => ?_)
  · obtain ⟨v1, v2, d, rfl, _⟩ := h
    rfl
  · obtain ⟨v1, v2, d, rfl, h1, h2, hok, q⟩ := h
    refine ⟨_, pss_cons (ps_if (pt_val (pe_callB call_isi (by rfl) B.isinstance b_isinstance (pa_cons (pv 1) (pa_cons (pe_ty (by rfl) B.dict b_dict) pa_nil)))) pss_never pss_nil)
      (pss_cons (ps_if (pt_val (pe_callB call_isiT (by rfl) B.isinstance b_isinstance (pa_cons (pv 1) (pa_cons (pe_tup (pa_cons (pe_ty (by rfl) B.tuple b_tuple) (pa_cons (pe_ty (by rfl) B.list b_list) pa_nil))) pa_nil))))
        (pss_cons (ps_if (pw_or (pt_not (pt_val (pe_callB call_isiT (by rfl) B.isinstance b_isinstance (pa_cons (pv 0) (pa_cons (pe_tup (pa_cons (pe_ty (by rfl) B.tuple b_tuple) (pa_cons (pe_ty (by rfl) B.list b_list) pa_nil))) pa_nil)))))
            (pw_or1 (pt_cmpR op_ne (pe_callB call_isi (by rfl) B.isinstance b_isinstance (pa_cons (pv 0) (pa_cons (pe_ty (by rfl) B.list b_list) pa_nil))) (pe_callB call_isi (by rfl) B.isinstance b_isinstance (pa_cons (pv 1) (pa_cons (pe_ty (by rfl) B.list b_list) pa_nil))) (nomark _)))).pt pss_never pss_nil)
        (pss_cons (ps_if (pt_cmpR op_ne (pe_callB call_len_seq (by rfl) B.len b_len (pa_cons (pv 0) pa_nil)) (pe_callB call_len_seq (by rfl) B.len b_len (pa_cons (pv 1) pa_nil)) (nomark _)) pss_never pss_nil)
        (pss_one (ps_ret (pe_cmpR (op_eqD hr.units)
          (pe_lc (own := [("_law_k", 2)]) (g := gName 2) (tt := tNot (tB (tCall spS [] E0 (tCons (tOp (rIx K) (tVar 0) (tVar 2)) (tCons (tOp (rIx K) (tVar 1) (tVar 2)) tNil))))) (te := tVar 2) rfl scAlike.nd
            (pi_range1 (by rfl) B.range (pa_cons (pe_callB call_len_seq (by rfl) B.len b_len (pa_cons (pv 1) pa_nil)) pa_nil)) (blkOk_by (N := ["_law_found", "_law_due", "_law_k"]) (sc := defScope sAlike) (by decide +kernel))
            (fun _ _ _ _ _ => pg_name (i := 2) scAlike.nd rfl (Or.inl rfl))
            (fun _ _ _ _ _ => pts_one (pt_not (pt_val (pe_call GS hr (by rfl) F.g F.F.kp F.b .nil pass0 (pa_cons (pe_ix ix_seq (pv 0) (pv 2) (fun _ _ => rfl)) (pa_cons (pe_ix ix_seq (pv 1) (pv 2) (fun _ _ => rfl)) pa_nil))))))
            (fun _ _ _ _ _ => pv 2)) (pe_lst pa_nil) (nomark _)))))) pss_nil)
      (pss_cons (ps_if (pw_or (pt_cmpR op_isN (pv 1) pe_non (nomark _)) (pw_or1 (pt_val (pe_callB call_isi (by rfl) B.isinstance b_isinstance (pa_cons (pv 1) (pa_cons (pe_ty (by rfl) B.str b_str) pa_nil)))))).pt
        (pss_one (ps_ret (pe_and (pe_cmpR op_eq (pv 0) (pv 1) (nomark _)) (pe_one (pe_cmpR op_eq (pe_callB call_isi (by rfl) B.isinstance b_isinstance (pa_cons (pv 0) (pa_cons (pe_ty (by rfl) B.str b_str) pa_nil))) (pe_callB call_isi (by rfl) B.isinstance b_isinstance (pa_cons (pv 1) (pa_cons (pe_ty (by rfl) B.str b_str) pa_nil))) (nomark _)))))) pss_nil)
      (pss_one (ps_ret (pe_and (pe_callB call_isi (by rfl) B.isinstance b_isinstance (pa_cons (pv 0) (pa_cons (pe_ty (by rfl) B.int b_int) pa_nil))) (pe_and (pe_cmpR op_eq (pe_callB call_isi (by rfl) B.isinstance b_isinstance (pa_cons (pv 0) (pa_cons (pe_ty (by rfl) B.bool b_bool) pa_nil))) (pe_callB call_isi (by rfl) B.isinstance b_isinstance (pa_cons (pv 1) (pa_cons (pe_ty (by rfl) B.bool b_bool) pa_nil))) (nomark _)) (pe_one (pe_cmpR op_eq (pv 0) (pv 1) (nomark _))))))))), ?_⟩
    have tupcs : Paired ClsV [V.ty "tuple", V.ty "list"] [Value.type "tuple", Value.type "list"] := .cons (.ty "tuple") (.cons (.ty "list") .nil)
    cases d with
    | none =>
      cases h1
      cases h2
      refine ⟨.non, rfl, .non, .ty "dict", _, _, false, rfl, .ty "dict", .base .non, kit_ty (by decide +kernel), false, rfl, iteF ?_⟩
      refine ⟨.non, rfl, (by show 2 ≤ sizeLine; decide), fun p hp => ?_⟩
      refine ⟨.non, p, _, _, _, false, rfl, upd_same, tupcs, .base .non, kitAny_cons (b := false) (kit_ty (by decide +kernel)) (fun _ => kitAny_cons (b := false) (kit_ty (by decide +kernel)) (fun _ => kitAny_nil) (fun z => by cases z)) (fun z => by cases z), false, rfl, iteF ?_⟩
      refine ⟨.non, rfl, rfl, _, rfl, iteT (iteT ?_)⟩
      refine ⟨.non, rfl, .non, rfl, rfl, true, (by rw [decide_eq_true rfl]), iteT ?_⟩
      refine ⟨.non, rfl, .non, .ty "str", _, _, false, rfl, .ty "str", .base .non, kit_ty (by decide +kernel), ?_⟩
      refine ⟨.non, rfl, .non, .ty "str", _, _, false, rfl, .ty "str", .base .non, kit_ty (by decide +kernel), rfl, ?_⟩
      exact q _ (same_upd hp)
    | bool b =>
      cases h1
      cases h2
      refine ⟨.bl b, rfl, .bl b, .ty "dict", _, _, false, rfl, .ty "dict", .base (.bl b), kit_ty (by decide +kernel), false, rfl, iteF ?_⟩
      refine ⟨.bl b, rfl, (by show 2 ≤ sizeLine; decide), fun p hp => ?_⟩
      refine ⟨.bl b, p, _, _, _, false, rfl, upd_same, tupcs, .base (.bl b), kitAny_cons (b := false) (kit_ty (by decide +kernel)) (fun _ => kitAny_cons (b := false) (kit_ty (by decide +kernel)) (fun _ => kitAny_nil) (fun z => by cases z)) (fun z => by cases z), false, rfl, iteF ?_⟩
      refine ⟨.bl b, rfl, rfl, _, rfl, iteF ?_⟩
      refine ⟨.bl b, rfl, .bl b, .ty "str", _, _, false, rfl, .ty "str", .base (.bl b), kit_ty (by decide +kernel), _, rfl, iteF ?_⟩
      refine ⟨.bl b, rfl, .bl b, .ty "int", _, _, true, rfl, .ty "int", .base (.bl b), kit_ty (by decide +kernel), true, rfl, iteT ?_⟩
      refine ⟨.bl b, rfl, .bl b, .ty "bool", _, _, true, rfl, .ty "bool", .base (.bl b), kit_ty (by decide +kernel), ?_⟩
      refine ⟨.bl b, rfl, .bl b, .ty "bool", _, _, true, rfl, .ty "bool", .base (.bl b), kit_ty (by decide +kernel), rfl, true, rfl, iteT ?_⟩
      refine ⟨.bl b, rfl, .bl b, rfl, rfl, ?_⟩
      show Q (.bl (decide (V.bl b = V.bl b))) _
      rw [decide_eq_true rfl]
      exact q _ (same_upd hp)
    | int i =>
      cases h1
      cases h2
      refine ⟨.int i, rfl, .int i, .ty "dict", _, _, false, rfl, .ty "dict", .base (.int i), kit_ty (by decide +kernel), false, rfl, iteF ?_⟩
      refine ⟨.int i, rfl, (by show 2 ≤ sizeLine; decide), fun p hp => ?_⟩
      refine ⟨.int i, p, _, _, _, false, rfl, upd_same, tupcs, .base (.int i), kitAny_cons (b := false) (kit_ty (by decide +kernel)) (fun _ => kitAny_cons (b := false) (kit_ty (by decide +kernel)) (fun _ => kitAny_nil) (fun z => by cases z)) (fun z => by cases z), false, rfl, iteF ?_⟩
      refine ⟨.int i, rfl, rfl, _, rfl, iteF ?_⟩
      refine ⟨.int i, rfl, .int i, .ty "str", _, _, false, rfl, .ty "str", .base (.int i), kit_ty (by decide +kernel), _, rfl, iteF ?_⟩
      refine ⟨.int i, rfl, .int i, .ty "int", _, _, true, rfl, .ty "int", .base (.int i), kit_ty (by decide +kernel), true, rfl, iteT ?_⟩
      refine ⟨.int i, rfl, .int i, .ty "bool", _, _, false, rfl, .ty "bool", .base (.int i), kit_ty (by decide +kernel), ?_⟩
      refine ⟨.int i, rfl, .int i, .ty "bool", _, _, false, rfl, .ty "bool", .base (.int i), kit_ty (by decide +kernel), rfl, true, rfl, iteT ?_⟩
      refine ⟨.int i, rfl, .int i, rfl, rfl, ?_⟩
      show Q (.bl (decide (V.int i = V.int i))) _
      rw [decide_eq_true rfl]
      exact q _ (same_upd hp)
    | str x =>
      cases h1
      cases h2
      refine ⟨.str x, rfl, .str x, .ty "dict", _, _, false, rfl, .ty "dict", .base (.str x), kit_ty (by decide +kernel), false, rfl, iteF ?_⟩
      refine ⟨.str x, rfl, (by show 2 ≤ sizeLine; decide), fun p hp => ?_⟩
      refine ⟨.str x, p, _, _, _, false, rfl, upd_same, tupcs, .base (.str x), kitAny_cons (b := false) (kit_ty (by decide +kernel)) (fun _ => kitAny_cons (b := false) (kit_ty (by decide +kernel)) (fun _ => kitAny_nil) (fun z => by cases z)) (fun z => by cases z), false, rfl, iteF ?_⟩
      refine ⟨.str x, rfl, rfl, _, rfl, iteF ?_⟩
      refine ⟨.str x, rfl, .str x, .ty "str", _, _, true, rfl, .ty "str", .base (.str x), kit_ty (by decide +kernel), _, rfl, iteT ?_⟩
      refine ⟨.str x, rfl, .str x, rfl, rfl, true, (by rw [decide_eq_true rfl]), iteT ?_⟩
      refine ⟨.str x, rfl, .str x, .ty "str", _, _, true, rfl, .ty "str", .base (.str x), kit_ty (by decide +kernel), ?_⟩
      refine ⟨.str x, rfl, .str x, .ty "str", _, _, true, rfl, .ty "str", .base (.str x), kit_ty (by decide +kernel), rfl, ?_⟩
      exact q _ (same_upd hp)
    | list ds =>
      cases n with
      | zero => rw [okD] at hok; cases hok
      | succ m =>
      rw [okD, Bool.and_eq_true] at hok
      have hdl : ds.length ≤ 1000 := of_decide_eq_true hok.1
      cases h1 with
      | @lst a1 xs1 _ hs1 ha1 =>
      cases h2 with
      | @lst a2 xs2 _ hs2 ha2 =>
      have l1 := dpAll_len ha1
      have l2 := dpAll_len ha2
      refine ⟨.ref a2, rfl, .ref a2, .ty "dict", _, _, false, rfl, .ty "dict", tyx_lst hs2, kit_ty (by decide +kernel), false, rfl, iteF ?_⟩
      refine ⟨.ref a2, rfl, (by show 2 ≤ sizeLine; decide), fun p hp => ?_⟩
      have sm1 : Same H (upd H p (.tup [V.ty "tuple", V.ty "list"])) := same_upd hp
      refine ⟨.ref a2, p, _, _, _, true, rfl, upd_same, tupcs, tyx_lst (Same.seq sm1 hs2), kitAny_cons (b := false) (kit_ty (by decide +kernel)) (fun _ => kitAny_cons (b := true) (kit_ty (by decide +kernel)) (fun z => by cases z) (fun _ => rfl)) (fun z => by cases z), true, rfl, iteT ?_⟩
      refine ⟨.ref a1, rfl, (by show 2 ≤ sizeLine; decide), fun p2 hp2 => ?_⟩
      have sm2 : Same H (upd (upd H p (.tup [V.ty "tuple", V.ty "list"])) p2 (.tup [V.ty "tuple", V.ty "list"])) := same_of sm1 (Same.free sm1 hp2)
      refine ⟨.ref a1, p2, _, _, _, true, rfl, upd_same, tupcs, tyx_lst (Same.seq sm2 hs1), kitAny_cons (b := false) (kit_ty (by decide +kernel)) (fun _ => kitAny_cons (b := true) (kit_ty (by decide +kernel)) (fun z => by cases z) (fun _ => rfl)) (fun z => by cases z), true, rfl, iteF ?_⟩
      refine ⟨.ref a1, rfl, .ref a1, .ty "list", _, _, true, rfl, .ty "list", tyx_lst (Same.seq sm2 hs1), kit_ty (by decide +kernel), ?_⟩
      refine ⟨.ref a2, rfl, .ref a2, .ty "list", _, _, true, rfl, .ty "list", tyx_lst (Same.seq sm2 hs2), kit_ty (by decide +kernel), rfl, false, rfl, iteF ?_⟩
      refine ⟨.ref a1, rfl, a1, xs1, rfl, .inl (Same.seq sm2 hs1), .ref a2, rfl, a2, xs2, rfl, .inl (Same.seq sm2 hs2), rfl, _, rfl, ?_⟩
      rw [l1, l2, decide_eq_true rfl]
      refine iteF ?_
      have b62 : (1000 : Int) < 2 ^ 62 := by decide
      refine ⟨.ref a2, rfl, a2, xs2, rfl, .inl (Same.seq sm2 hs2), (xs2.length : Nat), rfl, by omega, by omega, fun D hD => ?_⟩
      have smD : Same H (upd (upd (upd H p (.tup [V.ty "tuple", V.ty "list"])) p2 (.tup [V.ty "tuple", V.ty "list"])) D (.lst [])) := same_of sm2 (Same.free sm2 hD)
      refine lc_range (lo := 0) (n := (xs2.length : Int).toNat) (fun i H' => Same H H' ∧ H' D = some (.lst [])) ⟨smD, upd_same⟩ (fun i H' hi ⟨sm, hd⟩ => ?_) (fun H' ⟨sm, hd⟩ => ?_)
      · have hi2 : i < ds.length := by
          rw [Int.toNat_natCast] at hi
          omega
        obtain ⟨w1, g1, e1⟩ := dpAll_at ha1 (List.getElem?_eq_getElem hi2)
        obtain ⟨w2, g2, e2⟩ := dpAll_at ha2 (List.getElem?_eq_getElem hi2)
        have ei : (0 : Int) + (i : Nat) = (i : Nat) := by omega
        rw [ei]
        refine ⟨rfl, .ref a1, rfl, .int (i : Nat), rfl, .inl ⟨a1, xs1, (i : Nat), w1, rfl, rfl, (Same.seq sm hs1), atI_nat g1, ?_⟩⟩
        refine ⟨.ref a2, rfl, .int (i : Nat), rfl, .inl ⟨a2, xs2, (i : Nat), w2, rfl, rfl, (Same.seq sm hs2), atI_nat g2, ?_⟩⟩
        refine hS m rfl _ _ _ _ ⟨w1, w2, _, rfl, dp_same sm _ _ e1, dp_same sm _ _ e2, okDs_at hok.2 (List.getElem?_eq_getElem hi2), fun H3 sm3 => ⟨true, rfl, iteF ⟨sm.trans sm3, sm3 _ _ hd⟩⟩⟩
      · refine ⟨Nat.zero_le _, fun z hz => ?_⟩
        refine ⟨.list [], .list [], .lst (.inl (.inl ?_)) .nil, .lst (.inl (.inl upd_same)) .nil, rfl, rfl, q _ (same_of sm (Same.free sm hz))⟩
        rw [upd_ne (ne_of_none hd hz)]
        exact hd
    | tuple ds =>
      cases n with
      | zero => rw [okD] at hok; cases hok
      | succ m =>
      rw [okD, Bool.and_eq_true] at hok
      have hdl : ds.length ≤ 1000 := of_decide_eq_true hok.1
      cases h1 with
      | @tup a1 xs1 _ hs1 ha1 =>
      cases h2 with
      | @tup a2 xs2 _ hs2 ha2 =>
      have l1 := dpAll_len ha1
      have l2 := dpAll_len ha2
      refine ⟨.ref a2, rfl, .ref a2, .ty "dict", _, _, false, rfl, .ty "dict", tyx_tup hs2, kit_ty (by decide +kernel), false, rfl, iteF ?_⟩
      refine ⟨.ref a2, rfl, (by show 2 ≤ sizeLine; decide), fun p hp => ?_⟩
      have sm1 : Same H (upd H p (.tup [V.ty "tuple", V.ty "list"])) := same_upd hp
      refine ⟨.ref a2, p, _, _, _, true, rfl, upd_same, tupcs, tyx_tup (sqT_same sm1 hs2), kitAny_cons (b := true) (kit_ty (by decide +kernel)) (fun z => by cases z) (fun _ => rfl), true, rfl, iteT ?_⟩
      refine ⟨.ref a1, rfl, (by show 2 ≤ sizeLine; decide), fun p2 hp2 => ?_⟩
      have sm2 : Same H (upd (upd H p (.tup [V.ty "tuple", V.ty "list"])) p2 (.tup [V.ty "tuple", V.ty "list"])) := same_of sm1 (Same.free sm1 hp2)
      refine ⟨.ref a1, p2, _, _, _, true, rfl, upd_same, tupcs, tyx_tup (sqT_same sm2 hs1), kitAny_cons (b := true) (kit_ty (by decide +kernel)) (fun z => by cases z) (fun _ => rfl), true, rfl, iteF ?_⟩
      refine ⟨.ref a1, rfl, .ref a1, .ty "list", _, _, false, rfl, .ty "list", tyx_tup (sqT_same sm2 hs1), kit_ty (by decide +kernel), ?_⟩
      refine ⟨.ref a2, rfl, .ref a2, .ty "list", _, _, false, rfl, .ty "list", tyx_tup (sqT_same sm2 hs2), kit_ty (by decide +kernel), rfl, false, rfl, iteF ?_⟩
      refine ⟨.ref a1, rfl, a1, xs1, rfl, .inr (sqT_same sm2 hs1), .ref a2, rfl, a2, xs2, rfl, .inr (sqT_same sm2 hs2), rfl, _, rfl, ?_⟩
      rw [l1, l2, decide_eq_true rfl]
      refine iteF ?_
      have b62 : (1000 : Int) < 2 ^ 62 := by decide
      refine ⟨.ref a2, rfl, a2, xs2, rfl, .inr (sqT_same sm2 hs2), (xs2.length : Nat), rfl, by omega, by omega, fun D hD => ?_⟩
      have smD : Same H (upd (upd (upd H p (.tup [V.ty "tuple", V.ty "list"])) p2 (.tup [V.ty "tuple", V.ty "list"])) D (.lst [])) := same_of sm2 (Same.free sm2 hD)
      refine lc_range (lo := 0) (n := (xs2.length : Int).toNat) (fun i H' => Same H H' ∧ H' D = some (.lst [])) ⟨smD, upd_same⟩ (fun i H' hi ⟨sm, hd⟩ => ?_) (fun H' ⟨sm, hd⟩ => ?_)
      · have hi2 : i < ds.length := by
          rw [Int.toNat_natCast] at hi
          omega
        obtain ⟨w1, g1, e1⟩ := dpAll_at ha1 (List.getElem?_eq_getElem hi2)
        obtain ⟨w2, g2, e2⟩ := dpAll_at ha2 (List.getElem?_eq_getElem hi2)
        have ei : (0 : Int) + (i : Nat) = (i : Nat) := by omega
        rw [ei]
        refine ⟨rfl, .ref a1, rfl, .int (i : Nat), rfl, .inr <| .inl ⟨a1, xs1, (i : Nat), w1, rfl, rfl, (sqT_same sm hs1), atI_nat g1, ?_⟩⟩
        refine ⟨.ref a2, rfl, .int (i : Nat), rfl, .inr <| .inl ⟨a2, xs2, (i : Nat), w2, rfl, rfl, (sqT_same sm hs2), atI_nat g2, ?_⟩⟩
        refine hS m rfl _ _ _ _ ⟨w1, w2, _, rfl, dp_same sm _ _ e1, dp_same sm _ _ e2, okDs_at hok.2 (List.getElem?_eq_getElem hi2), fun H3 sm3 => ⟨true, rfl, iteF ⟨sm.trans sm3, sm3 _ _ hd⟩⟩⟩
      · refine ⟨Nat.zero_le _, fun z hz => ?_⟩
        refine ⟨.list [], .list [], .lst (.inl (.inl ?_)) .nil, .lst (.inl (.inl upd_same)) .nil, rfl, rfl, q _ (same_of sm (Same.free sm hz))⟩
        rw [upd_ne (ne_of_none hd hz)]
        exact hd
    | dict _ => cases h1
theorem ok_alike {f : Addr} {fd : FuncData} (F : Df K mg "_law_alike" sAlike ["_law_found", "_law_due"] f fd) (B : Bt mg) : ∀ n, FnOk P w K mg base CX0 (n + 1) f fd ["_law_found", "_law_due"] (spAlike K n)
  | 0 => alike_step F B 0 (fun _ _ _ _ => False) ⟨fun _ _ _ _ h => h.elim, fun _ _ _ _ _ _ _ _ _ _ _ _ _ h => h.elim⟩ (fun m e => by omega)
  | n + 1 => alike_step F B (n + 1) (spAlike K n) (ok_alike F B n) (fun m e vs H Q E h => by
    have : m = n := by omega
    subst this
    exact h)
end
end Sv


set_option maxHeartbeats 8000000
namespace Sv
open PySem PySem.Spec PyProof.Rows L2 LamX NdefX
/-! ### _law_error -/
/-- the exception's dict, if there is one -/
def Dd (d : Option Addr) (H : Hp) : Prop := d = none ∨ ∃ (dd : Addr) (fs : List (Str × V)), d = some dd ∧ H dd = some (.xd fs)
theorem Dd.same {d : Option Addr} {H H' : Hp} (h : Dd d H) (e : Same H H') : Dd d H' := by
  rcases h with h | ⟨dd, fs, h1, h2⟩
  · exact .inl h
  · exact .inr ⟨dd, fs, h1, e _ _ h2⟩
def rIsD (K : PySem.W.Frag) (D a : Addr) (d : Option Addr) : List V → Hp → VK → Prop := fun xs H Q => ∃ (c : V) (cv : Value) (b : Bool), xs = [.ref a, c] ∧ (∀ u, RelV c u → u = cv) ∧ PySem.W.kitOne K (.ref D) cv = some b ∧ Dd d H ∧ Q (.bl b) H
theorem call_isD {X : Cx} {a D : Addr} {d : Option Addr} {oe : Obj} {pn : List (Addr × Obj)} (C : ExcC X.K D) (hz : Zc (.ref D) d oe) (hf : ∃ vs, oe.data = .fields vs) : CallR (X.suite a ((a, oe) :: pn)) (.builtin "isinstance") (rIsD X.K D a d) := by
  intro pins s σ H xs us Q I r h
  obtain ⟨c, cv, b, rfl, hcv, e, hd, q⟩ := h
  cases r with
  | cons rx rr =>
    cases rr with
    | cons rt rr =>
      cases rr
      cases rx
      have ec := hcv _ rt
      subst ec
      obtain ⟨hget, _⟩ := I.pin (a, oe) (List.mem_append.mpr (.inl List.mem_cons_self))
      obtain ⟨vs, hv⟩ := hf
      have hcl : (PySem.W.clsIn X.K D).isSome = true := by
        obtain ⟨cdD, hcD, _⟩ := PySem.W.any_some C.hd
        rw [hcD]
        rfl
      obtain ⟨od, J⟩ : ∃ od, PySem.W.InstAt s.heap a oe D od := by
        rcases hd with rfl | ⟨dd, fs, rfl, hdd⟩
        · refine ⟨none, hget, hz.1, by unfold PySem.W.notCls; rw [hv] <;> rfl, by rw [hz.2]; trivial⟩
        · have hx : ObjOk X.prog X.w H s.heap dd (.xd fs) := I.hok dd _ hdd
          obtain ⟨mA, hns, hr⟩ := hx
          obtain ⟨od, ho, hl⟩ := lookIn_ns hns
          exact ⟨some od, hget, hz.1, by unfold PySem.W.notCls; rw [hv] <;> rfl, by rw [hz.2]; exact ho⟩
      exact PySem.W.kia_one (PySem.W.kitx_exc hcl C.hg C.hk C.hs C.ha C.hn C.ht C.hm) I.kIn J e (fun z => nomatch z) fun tk => ⟨.bl b, H, I.kept (t' := tk) fun _ _ z => z, rfl, q⟩
theorem scError : FnScope ["_law_call", "e", "_law_kinds", "_law_names", "_law_name"] ["_law_call"] (defScope sError) := ⟨rfl, rfl, rfl, by decide +kernel, rfl, by decide +kernel, by decide +kernel⟩
theorem b_VE : bootBuiltins "ValueError" = some (.type "ValueError") := by decide +kernel
theorem pa_one {X : Cx} {e : Expr} {te : TE} (h : PE X e te) (hs : starEach [e] X.env = (false, eval e X.env) :: starEach [] X.env := by rfl) : PA X [e] (tCons te tNil) := pa_cons h pa_nil hs
theorem pe_never {X : Cx} {e : Expr} : PE X e (fun _ _ _ => False) := ⟨fun _ _ _ _ _ _ h => h.elim⟩
/-- the classes' names at the top -/
structure ErG (mg : Str → Option Value) (CS C0 C1 C2 C3 C4 C5 C6 C7 C8 C9 C10 C11 C12 C13 C14 : Addr) : Prop where
  gS : mg "ShelfError" = some (.ref CS)
  g0 : mg "InvalidPlan" = some (.ref C0)
  g1 : mg "InvalidState" = some (.ref C1)
  g2 : mg "InvalidCount" = some (.ref C2)
  g3 : mg "UnknownPlace" = some (.ref C3)
  g4 : mg "UnknownParcel" = some (.ref C4)
  g5 : mg "UnknownShelf" = some (.ref C5)
  g6 : mg "UnknownCarrier" = some (.ref C6)
  g7 : mg "InvalidEffect" = some (.ref C7)
  g8 : mg "DifferentSizes" = some (.ref C8)
  g9 : mg "InvalidParcels" = some (.ref C9)
  g10 : mg "Contradiction" = some (.ref C10)
  g11 : mg "InvalidArrangement" = some (.ref C11)
  g12 : mg "ShelfFull" = some (.ref C12)
  g13 : mg "ParcelCarried" = some (.ref C13)
  g14 : mg "InvalidSwap" = some (.ref C14)
  gV : mg "ValueError" = none
def kl (b0 b1 b2 b3 b4 b5 b6 b7 b8 b9 b10 b11 b12 b13 b14 : Bool) : List V := [.bl b0, .bl b1, .bl b2, .bl b3, .bl b4, .bl b5, .bl b6, .bl b7, .bl b8, .bl b9, .bl b10, .bl b11, .bl b12, .bl b13, .bl b14]
def nmL : List V := [.str "plan", .str "state", .str "count", .str "place", .str "parcel", .str "shelf", .str "carrier", .str "effect", .str "sizes", .str "parcels", .str "contradiction", .str "arrangement", .str "full", .str "carried", .str "swap"]
/-- how the class D answers, and its name -/
structure ErK (K : PySem.W.Frag) (CS C0 C1 C2 C3 C4 C5 C6 C7 C8 C9 C10 C11 C12 C13 C14 D : Addr) (nm : Str) (b0 b1 b2 b3 b4 b5 b6 b7 b8 b9 b10 b11 b12 b13 b14 : Bool) (j : Nat) : Prop where
  exc : ExcC K D
  ex : PySem.W.exmOne K (.ref D) (.ref CS) = some true
  ve : PySem.W.kitOne K (.ref D) (.type "ValueError") = some true
  k0 : PySem.W.kitOne K (.ref D) (.ref C0) = some b0
  k1 : PySem.W.kitOne K (.ref D) (.ref C1) = some b1
  k2 : PySem.W.kitOne K (.ref D) (.ref C2) = some b2
  k3 : PySem.W.kitOne K (.ref D) (.ref C3) = some b3
  k4 : PySem.W.kitOne K (.ref D) (.ref C4) = some b4
  k5 : PySem.W.kitOne K (.ref D) (.ref C5) = some b5
  k6 : PySem.W.kitOne K (.ref D) (.ref C6) = some b6
  k7 : PySem.W.kitOne K (.ref D) (.ref C7) = some b7
  k8 : PySem.W.kitOne K (.ref D) (.ref C8) = some b8
  k9 : PySem.W.kitOne K (.ref D) (.ref C9) = some b9
  k10 : PySem.W.kitOne K (.ref D) (.ref C10) = some b10
  k11 : PySem.W.kitOne K (.ref D) (.ref C11) = some b11
  k12 : PySem.W.kitOne K (.ref D) (.ref C12) = some b12
  k13 : PySem.W.kitOne K (.ref D) (.ref C13) = some b13
  k14 : PySem.W.kitOne K (.ref D) (.ref C14) = some b14
  cnt : ((kl b0 b1 b2 b3 b4 b5 b6 b7 b8 b9 b10 b11 b12 b13 b14).countP fun z => eqV z (.bl true)) = 1
  at_ : (kl b0 b1 b2 b3 b4 b5 b6 b7 b8 b9 b10 b11 b12 b13 b14)[j]? = some (.bl true)
  be : ∀ (m : Nat) (z : V), m < j → (kl b0 b1 b2 b3 b4 b5 b6 b7 b8 b9 b10 b11 b12 b13 b14)[m]? = some z → eqV z (.bl true) = false
  tag : nmL[j]? = some (.str nm)
def NewS (H : Hp) (t : List V) (Q : VK) : Prop := ∀ H' p, Same H H' → H p = none → H' p = some (.tup t) → Q (.ref p) H'
theorem NewS.imp {H H1 : Hp} {t : List V} {Q : VK} (h : NewS H t Q) (e : Same H H1) : NewS H1 t Q := fun H' p sm hp hq => h H' p (e.trans sm) (Same.free e hp) hq
/-- what is wanted of the errors and of the value -/
def ErrE (K : PySem.W.Frag) (CS C0 C1 C2 C3 C4 C5 C6 C7 C8 C9 C10 C11 C12 C13 C14 : Addr) (Q : VK) : XK := fun cls d H' => ∃ (D : Addr) (nm : Str) (b0 b1 b2 b3 b4 b5 b6 b7 b8 b9 b10 b11 b12 b13 b14 : Bool) (j : Nat), cls = .ref D ∧ Dd d H' ∧ ErK K CS C0 C1 C2 C3 C4 C5 C6 C7 C8 C9 C10 C11 C12 C13 C14 D nm b0 b1 b2 b3 b4 b5 b6 b7 b8 b9 b10 b11 b12 b13 b14 j ∧
  ((nm ≠ "plan" ∧ nm ≠ "swap" ∧ NewS H' [.str nm] Q) ∨ (nm = "plan" ∧ D = C0 ∧ ∃ (dd : Addr) (fs : List (Str × V)) (x y : V), d = some dd ∧ H' dd = some (.xd fs) ∧ fs.lookup ("part" : Str) = some x ∧ fs.lookup ("index" : Str) = some y ∧ NewS H' [.str "plan", x, y] Q))
def OkQ (Q : VK) : VK := fun _ H' => NewS H' [.str "none"] Q
def KnErr (P : Program) (w : World) (K : PySem.W.Frag) (mg : Str → Option Value) (base : Heap) (k : Nat) (CS C0 C1 C2 C3 C4 C5 C6 C7 C8 C9 C10 C11 C12 C13 C14 : Addr) : List Addr → Shared → Hp → V → VK → Prop := fun fs s H v Q =>
  ∃ (f : Addr) (L : LF) (fr : List Str) (dvs : List V) (ws : List (Option V)) (tl : List (Option V) → XK → Hp → VK → Prop), v = .ref f ∧ LamAt P w K mg base k fs s H f L fr dvs ws tl ∧ tl ws (ErrE K CS C0 C1 C2 C3 C4 C5 C6 C7 C8 C9 C10 C11 C12 C13 C14 Q) H (OkQ Q)
section
variable {P : Program} {w : World} {K : PySem.W.Frag} {mg : Str → Option Value} {base : Heap}
theorem lst_same {H H' : Hp} {D : Addr} {xs : List V} {o : HO} (sm : Same H H') (hD : H D = none) : Same H (upd H' D o) := same_of sm hD
theorem ok_error {CS C0 C1 C2 C3 C4 C5 C6 C7 C8 C9 C10 C11 C12 C13 C14 : Addr} {f : Addr} {fd : FuncData} {k : Nat} (F : Df K mg "_law_error" sError ["_law_call"] f fd) (B : Bt mg) (G : ErG mg CS C0 C1 C2 C3 C4 C5 C6 C7 C8 C9 C10 C11 C12 C13 C14) (XF : XfC K C0) (xp : PySem.W.findIn K (.ref C0) "part" = some none) (xi : PySem.W.findIn K (.ref C0) "index" = some none) : FnSt P w K mg base (k + 1) f (KnErr P w K mg base k CS C0 C1 C2 C3 C4 C5 C6 C7 C8 C9 C10 C11 C12 C13 C14) := by
  refine fnst_of F.F scError F.b fun cdv A outer s H v Q hr e0 hK => ?_
  obtain ⟨fl, L, fr, dvs, ws, tl, rfl, LA, ht⟩ := hK
  refine ⟨_, pss_cons (ps_try_as (i := 1) (n := "e") (Wout := fun _ _ _ _ => False)
      (tb := fun W D σ H1 => σ[0]? = some (some (.ref fl)) ∧ H1 fl = some (LamO fl L) ∧ H1 L.c = some (CodeO L.c L.qual) ∧ DflAt H1 L.dV dvs ∧ ∃ (E' : XK) (Q' : VK), (∀ cls d H', E' cls d H' → W cls d σ H') ∧ (∀ v H', Q' v H' → D.nx σ H') ∧ tl ws E' H1 Q')
      (ts := fun a cls d D σ H1 => (∃ x0, σ = [some x0, some (.ref a), none, none, none]) ∧ ErrE K CS C0 C1 C2 C3 C4 C5 C6 C7 C8 C9 C10 C11 C12 C13 C14 D.rt cls d H1)
      rfl rfl scError.nd rfl rfl ⟨rfl, by decide, .inl G.gS⟩ L2.takes0 (fun W pn xe tk _ => ⟨fun pins s1 σ H1 D I h => ?_⟩) (fun a oe cls d pn hz hf => ⟨fun pins s1 σ H1 D I h => ?_⟩))
    (pss_one (ps_ret (pe_tup (pa_cons pe_str pa_nil)))), ?_⟩
  · -- the call
    refine (pss_one (ps_expr (pe_actL (CXg := CX0) (Eg := E0) (Ng := ["_law_call", "e", "_law_kinds", "_law_names", "_law_name"]) (qg := "_law_error") (sg := defScope sError) (g := f) (cdg := cdv) (pn := pn) (xe := xe) (i := 0) LA tk hr rfl (.inl rfl)))).run pins s1 σ H1 D I ?_
    obtain ⟨h1, h2, h3, h4, E', Q', h5, h6, h7⟩ := h
    exact ⟨h1, h2, h3, h4, E', Q', h5, h6, h7⟩
  · -- the suite
    obtain ⟨⟨x0, rfl⟩, D0, nm, b0, b1, b2, b3, b4, b5, b6, b7, b8, b9, b10, b11, b12, b13, b14, j, rfl, hDd, R, hQ⟩ := h
    refine (pss_cons (ps_set (i := 2) scError.nd rfl (Or.inl rfl) (pe_lst (pa_cons (pe_callB (call_isD R.exc hz hf) (by rfl) B.isinstance b_isinstance (pa_cons (pv 1) (pa_cons (pe_glob (v := .ref C0) (by rfl) G.g0 rfl) pa_nil))) (pa_cons (pe_callB (call_isD R.exc hz hf) (by rfl) B.isinstance b_isinstance (pa_cons (pv 1) (pa_cons (pe_glob (v := .ref C1) (by rfl) G.g1 rfl) pa_nil))) (pa_cons (pe_callB (call_isD R.exc hz hf) (by rfl) B.isinstance b_isinstance (pa_cons (pv 1) (pa_cons (pe_glob (v := .ref C2) (by rfl) G.g2 rfl) pa_nil))) pa_nil)))))
      (pss_cons (ps_expr (pe_bm PySem.F.plainAttrs_list PySem.F.slot_list_extend PySem.F.type_list_extend mt_extend (pv 2) <| pa_one (pe_lst (pa_cons (pe_callB (call_isD R.exc hz hf) (by rfl) B.isinstance b_isinstance (pa_cons (pv 1) (pa_cons (pe_glob (v := .ref C3) (by rfl) G.g3 rfl) pa_nil))) (pa_cons (pe_callB (call_isD R.exc hz hf) (by rfl) B.isinstance b_isinstance (pa_cons (pv 1) (pa_cons (pe_glob (v := .ref C4) (by rfl) G.g4 rfl) pa_nil))) (pa_cons (pe_callB (call_isD R.exc hz hf) (by rfl) B.isinstance b_isinstance (pa_cons (pv 1) (pa_cons (pe_glob (v := .ref C5) (by rfl) G.g5 rfl) pa_nil))) pa_nil))))))
      (pss_cons (ps_expr (pe_bm PySem.F.plainAttrs_list PySem.F.slot_list_extend PySem.F.type_list_extend mt_extend (pv 2) <| pa_one (pe_lst (pa_cons (pe_callB (call_isD R.exc hz hf) (by rfl) B.isinstance b_isinstance (pa_cons (pv 1) (pa_cons (pe_glob (v := .ref C6) (by rfl) G.g6 rfl) pa_nil))) (pa_cons (pe_callB (call_isD R.exc hz hf) (by rfl) B.isinstance b_isinstance (pa_cons (pv 1) (pa_cons (pe_glob (v := .ref C7) (by rfl) G.g7 rfl) pa_nil))) (pa_cons (pe_callB (call_isD R.exc hz hf) (by rfl) B.isinstance b_isinstance (pa_cons (pv 1) (pa_cons (pe_glob (v := .ref C8) (by rfl) G.g8 rfl) pa_nil))) pa_nil))))))
      (pss_cons (ps_expr (pe_bm PySem.F.plainAttrs_list PySem.F.slot_list_extend PySem.F.type_list_extend mt_extend (pv 2) <| pa_one (pe_lst (pa_cons (pe_callB (call_isD R.exc hz hf) (by rfl) B.isinstance b_isinstance (pa_cons (pv 1) (pa_cons (pe_glob (v := .ref C9) (by rfl) G.g9 rfl) pa_nil))) (pa_cons (pe_callB (call_isD R.exc hz hf) (by rfl) B.isinstance b_isinstance (pa_cons (pv 1) (pa_cons (pe_glob (v := .ref C10) (by rfl) G.g10 rfl) pa_nil))) pa_nil)))))
      (pss_cons (ps_expr (pe_bm PySem.F.plainAttrs_list PySem.F.slot_list_extend PySem.F.type_list_extend mt_extend (pv 2) <| pa_one (pe_lst (pa_cons (pe_callB (call_isD R.exc hz hf) (by rfl) B.isinstance b_isinstance (pa_cons (pv 1) (pa_cons (pe_glob (v := .ref C11) (by rfl) G.g11 rfl) pa_nil))) (pa_cons (pe_callB (call_isD R.exc hz hf) (by rfl) B.isinstance b_isinstance (pa_cons (pv 1) (pa_cons (pe_glob (v := .ref C12) (by rfl) G.g12 rfl) pa_nil))) (pa_cons (pe_callB (call_isD R.exc hz hf) (by rfl) B.isinstance b_isinstance (pa_cons (pv 1) (pa_cons (pe_glob (v := .ref C13) (by rfl) G.g13 rfl) pa_nil))) pa_nil))))))
      (pss_cons (ps_expr (pe_bm PySem.F.plainAttrs_list PySem.F.slot_list_append PySem.F.type_list_append mt_append (pv 2) (pa_cons (pe_callB (call_isD R.exc hz hf) (by rfl) B.isinstance b_isinstance (pa_cons (pv 1) (pa_cons (pe_glob (v := .ref C14) (by rfl) G.g14 rfl) pa_nil))) pa_nil)))
      (pss_cons (ps_if (pw_or (pt_cmpR op_ne (pe_bm PySem.F.plainAttrs_list PySem.F.slot_list_count PySem.F.type_list_count mt_countV (pv 2) (pa_cons pe_bl pa_nil)) pe_int (nomark _))
          (pw_or1 (pt_not (pt_val (pe_callB (call_isD R.exc hz hf) (by rfl) B.isinstance b_isinstance (pa_cons (pv 1) (pa_cons (pe_ty (by rfl) G.gV b_VE) pa_nil))))))).pt pss_never pss_nil)
      (pss_cons (ps_set (i := 3) scError.nd rfl (Or.inl rfl) (pe_lst (pa_cons pe_str (pa_cons pe_str (pa_cons pe_str (pa_cons pe_str (pa_cons pe_str (pa_cons pe_str (pa_cons pe_str (pa_cons pe_str (pa_cons pe_str (pa_cons pe_str pa_nil))))))))))))
      (pss_cons (ps_set (i := 4) scError.nd rfl (Or.inl rfl) (pe_ix ix_list (pe_op op_cat (pv 3) (pe_lst (pa_cons pe_str (pa_cons pe_str (pa_cons pe_str (pa_cons pe_str (pa_cons pe_str pa_nil))))))) (pe_bm PySem.F.plainAttrs_list PySem.F.slot_list_index PySem.F.type_list_index mt_index (pv 2) (pa_cons pe_bl pa_nil)) (fun _ _ => rfl)))
      (pss_cons (ps_if (pt_cmpR op_eq (pv 4) pe_str (nomark _)) (pss_one (ps_ret (pe_tup (pa_cons (pv 4) (pa_cons (pe_xf XF xp hz hf (pv 1)) (pa_cons (pe_xf XF xi hz hf (pv 1)) pa_nil)))))) pss_nil)
      (pss_one (ps_ret (pe_ifExp (pt_cmpR op_eq (pv 4) pe_str (nomark _)) pe_never (pe_tup (pa_cons (pv 4) pa_nil))))))))))))))).run pins s1 _ H1 D I ?_
    refine ⟨.ref a, rfl, .ref C0, .ref C0, b0, rfl, fun u h => h, R.k0, hDd, .ref a, rfl, .ref C1, .ref C1, b1, rfl, fun u h => h, R.k1, hDd, .ref a, rfl, .ref C2, .ref C2, b2, rfl, fun u h => h, R.k2, hDd, (by show 3 ≤ sizeLine; decide), fun p hp => ?_⟩
    obtain ⟨H2, eH2⟩ : ∃ H', H' = upd H1 p (.lst [.bl b0, .bl b1, .bl b2]) := ⟨_, rfl⟩
    have sm2 : Same H1 H2 := by rw [eH2]; exact same_upd hp
    have hk2 : H2 p = some (.lst [.bl b0, .bl b1, .bl b2]) := by rw [eH2]; exact upd_same
    rw [← eH2]
    -- extend
    refine ⟨.ref p, rfl, .inl ⟨rfl, _, .inl (.inl hk2)⟩, .ref a, rfl, .ref C3, .ref C3, b3, rfl, fun u h => h, R.k3, (hDd.same sm2), .ref a, rfl, .ref C4, .ref C4, b4, rfl, fun u h => h, R.k4, (hDd.same sm2), .ref a, rfl, .ref C5, .ref C5, b5, rfl, fun u h => h, R.k5, (hDd.same sm2), (by show 3 ≤ sizeLine; decide), fun q2 hq2 => ?_⟩
    have pq2 : p ≠ q2 := ne_of_none hk2 hq2
    refine ⟨p, q2, _, _, rfl, rfl, by rw [upd_ne pq2]; exact hk2, upd_same, (by show 3 + 3 ≤ sizeLine; decide), ?_⟩
    obtain ⟨H3, eH3⟩ : ∃ H', H' = upd (upd H2 q2 (.lst [.bl b3, .bl b4, .bl b5])) p (.lst ([.bl b0, .bl b1, .bl b2] ++ [.bl b3, .bl b4, .bl b5])) := ⟨_, rfl⟩
    have sm3 : Same H1 H3 := by rw [eH3]; exact same_of (same_of sm2 (Same.free sm2 hq2)) hp
    have hk3 : H3 p = some (.lst [.bl b0, .bl b1, .bl b2, .bl b3, .bl b4, .bl b5]) := by rw [eH3]; exact upd_same
    rw [← eH3]
    -- extend
    refine ⟨.ref p, rfl, .inl ⟨rfl, _, .inl (.inl hk3)⟩, .ref a, rfl, .ref C6, .ref C6, b6, rfl, fun u h => h, R.k6, (hDd.same sm3), .ref a, rfl, .ref C7, .ref C7, b7, rfl, fun u h => h, R.k7, (hDd.same sm3), .ref a, rfl, .ref C8, .ref C8, b8, rfl, fun u h => h, R.k8, (hDd.same sm3), (by show 3 ≤ sizeLine; decide), fun q3 hq3 => ?_⟩
    have pq3 : p ≠ q3 := ne_of_none hk3 hq3
    refine ⟨p, q3, _, _, rfl, rfl, by rw [upd_ne pq3]; exact hk3, upd_same, (by show 6 + 3 ≤ sizeLine; decide), ?_⟩
    obtain ⟨H4, eH4⟩ : ∃ H', H' = upd (upd H3 q3 (.lst [.bl b6, .bl b7, .bl b8])) p (.lst ([.bl b0, .bl b1, .bl b2, .bl b3, .bl b4, .bl b5] ++ [.bl b6, .bl b7, .bl b8])) := ⟨_, rfl⟩
    have sm4 : Same H1 H4 := by rw [eH4]; exact same_of (same_of sm3 (Same.free sm3 hq3)) hp
    have hk4 : H4 p = some (.lst [.bl b0, .bl b1, .bl b2, .bl b3, .bl b4, .bl b5, .bl b6, .bl b7, .bl b8]) := by rw [eH4]; exact upd_same
    rw [← eH4]
    -- extend
    refine ⟨.ref p, rfl, .inl ⟨rfl, _, .inl (.inl hk4)⟩, .ref a, rfl, .ref C9, .ref C9, b9, rfl, fun u h => h, R.k9, (hDd.same sm4), .ref a, rfl, .ref C10, .ref C10, b10, rfl, fun u h => h, R.k10, (hDd.same sm4), (by show 2 ≤ sizeLine; decide), fun q4 hq4 => ?_⟩
    have pq4 : p ≠ q4 := ne_of_none hk4 hq4
    refine ⟨p, q4, _, _, rfl, rfl, by rw [upd_ne pq4]; exact hk4, upd_same, (by show 9 + 2 ≤ sizeLine; decide), ?_⟩
    obtain ⟨H5, eH5⟩ : ∃ H', H' = upd (upd H4 q4 (.lst [.bl b9, .bl b10])) p (.lst ([.bl b0, .bl b1, .bl b2, .bl b3, .bl b4, .bl b5, .bl b6, .bl b7, .bl b8] ++ [.bl b9, .bl b10])) := ⟨_, rfl⟩
    have sm5 : Same H1 H5 := by rw [eH5]; exact same_of (same_of sm4 (Same.free sm4 hq4)) hp
    have hk5 : H5 p = some (.lst [.bl b0, .bl b1, .bl b2, .bl b3, .bl b4, .bl b5, .bl b6, .bl b7, .bl b8, .bl b9, .bl b10]) := by rw [eH5]; exact upd_same
    rw [← eH5]
    -- extend
    refine ⟨.ref p, rfl, .inl ⟨rfl, _, .inl (.inl hk5)⟩, .ref a, rfl, .ref C11, .ref C11, b11, rfl, fun u h => h, R.k11, (hDd.same sm5), .ref a, rfl, .ref C12, .ref C12, b12, rfl, fun u h => h, R.k12, (hDd.same sm5), .ref a, rfl, .ref C13, .ref C13, b13, rfl, fun u h => h, R.k13, (hDd.same sm5), (by show 3 ≤ sizeLine; decide), fun q5 hq5 => ?_⟩
    have pq5 : p ≠ q5 := ne_of_none hk5 hq5
    refine ⟨p, q5, _, _, rfl, rfl, by rw [upd_ne pq5]; exact hk5, upd_same, (by show 11 + 3 ≤ sizeLine; decide), ?_⟩
    obtain ⟨H6, eH6⟩ : ∃ H', H' = upd (upd H5 q5 (.lst [.bl b11, .bl b12, .bl b13])) p (.lst ([.bl b0, .bl b1, .bl b2, .bl b3, .bl b4, .bl b5, .bl b6, .bl b7, .bl b8, .bl b9, .bl b10] ++ [.bl b11, .bl b12, .bl b13])) := ⟨_, rfl⟩
    have sm6 : Same H1 H6 := by rw [eH6]; exact same_of (same_of sm5 (Same.free sm5 hq5)) hp
    have hk6 : H6 p = some (.lst [.bl b0, .bl b1, .bl b2, .bl b3, .bl b4, .bl b5, .bl b6, .bl b7, .bl b8, .bl b9, .bl b10, .bl b11, .bl b12, .bl b13]) := by rw [eH6]; exact upd_same
    rw [← eH6]
    -- append
    refine ⟨.ref p, rfl, .inl ⟨rfl, _, .inl (.inl hk6)⟩, .ref a, rfl, .ref C14, .ref C14, b14, rfl, fun u h => h, R.k14, (hDd.same sm6), p, _, _, rfl, rfl, hk6, (by show 14 < sizeLine; decide), ?_⟩
    obtain ⟨H7, eH7⟩ : ∃ H', H' = upd H6 p (.lst ([.bl b0, .bl b1, .bl b2, .bl b3, .bl b4, .bl b5, .bl b6, .bl b7, .bl b8, .bl b9, .bl b10, .bl b11, .bl b12, .bl b13] ++ [.bl b14])) := ⟨_, rfl⟩
    have sm7 : Same H1 H7 := by rw [eH7]; exact same_of sm6 hp
    have hk7 : H7 p = some (.lst (kl b0 b1 b2 b3 b4 b5 b6 b7 b8 b9 b10 b11 b12 b13 b14)) := by rw [eH7]; exact upd_same
    rw [← eH7]
    -- the count
    refine ⟨.ref p, rfl, .inl ⟨rfl, _, .inl (.inl hk7)⟩, p, kl b0 b1 b2 b3 b4 b5 b6 b7 b8 b9 b10 b11 b12 b13 b14, .bl true, rfl, rfl, .inl (.inl hk7), rfl, rfl, rfl, _, rfl, ?_⟩
    rw [R.cnt]
    refine iteF ⟨.ref a, rfl, .ty "ValueError", .type "ValueError", true, rfl, fun u h => h, R.ve, (hDd.same sm7), true, rfl, iteF ?_⟩
    -- the names
    refine ⟨(by show 10 ≤ sizeLine; decide), fun q hq => ?_⟩
    refine ⟨.ref q, rfl, (by show 5 ≤ sizeLine; decide), fun r hr2 => ?_⟩
    have qr : q ≠ r := ne_of_none upd_same hr2
    refine ⟨q, r, _, _, rfl, rfl, by rw [upd_ne qr]; exact upd_same, upd_same, (by show 10 + 5 ≤ sizeLine; decide), fun u hu => ?_⟩
    obtain ⟨H8, eH8⟩ : ∃ H', H' = upd (upd (upd H7 q (.lst [V.str "plan", V.str "state", V.str "count", V.str "place", V.str "parcel", V.str "shelf", V.str "carrier", V.str "effect", V.str "sizes", V.str "parcels"])) r (.lst [V.str "contradiction", V.str "arrangement", V.str "full", V.str "carried", V.str "swap"])) u (.lst ([V.str "plan", V.str "state", V.str "count", V.str "place", V.str "parcel", V.str "shelf", V.str "carrier", V.str "effect", V.str "sizes", V.str "parcels"] ++ [V.str "contradiction", V.str "arrangement", V.str "full", V.str "carried", V.str "swap"])) := ⟨_, rfl⟩
    have sm8' : Same H7 H8 := by rw [eH8]; exact same_of (same_of (same_upd hq) (Same.free (same_upd hq) hr2)) (Same.free (same_of (same_upd hq) (Same.free (same_upd hq) hr2)) hu)
    have sm8 : Same H1 H8 := sm7.trans sm8'
    have hu8 : H8 u = some (.lst nmL) := by rw [eH8]; exact upd_same
    have hk8 := sm8' _ _ hk7
    rw [← eH8]
    refine ⟨.ref p, rfl, .inl ⟨rfl, _, .inl (.inl hk8)⟩, p, kl b0 b1 b2 b3 b4 b5 b6 b7 b8 b9 b10 b11 b12 b13 b14, .bl true, j, .bl true, rfl, rfl, .inl (.inl hk8), rfl, rfl, R.at_, rfl, R.be, u, nmL, (j : Nat), .str nm, rfl, rfl, .inl (.inl hu8), atI_nat R.tag, ?_⟩
    rcases hQ with ⟨n1, n2, hQ⟩ | ⟨n1, rfl, dd, fs, x, y, rfl, hx, lp, li, hQ⟩
    · refine ⟨.str nm, rfl, rfl, _, rfl, ?_⟩
      rw [decide_eq_false fun z => n1 (V.str.inj z)]
      refine iteF ⟨.str nm, rfl, rfl, _, rfl, ?_⟩
      rw [decide_eq_false fun z => n2 (V.str.inj z)]
      exact iteF ⟨.str nm, rfl, (by show 1 ≤ sizeLine; decide), fun t ht => hQ _ t (same_of sm8 (Same.free sm8 ht)) (Same.free sm8 ht) upd_same⟩
    · subst n1
      refine ⟨.str "plan", rfl, rfl, _, rfl, ?_⟩
      rw [decide_eq_true rfl]
      refine iteT ⟨.str "plan", rfl, .ref a, rfl, rfl, rfl, dd, fs, x, rfl, sm8 _ _ hx, lp, .ref a, rfl, rfl, rfl, dd, fs, y, rfl, sm8 _ _ hx, li, (by show 3 ≤ sizeLine; decide), fun t ht => hQ _ t (same_of sm8 (Same.free sm8 ht)) (Same.free sm8 ht) upd_same⟩
  · refine ⟨rfl, LA.fn, LA.code, LA.dfl, _, _, fun cls d H' h => ?_, fun v H' h => ?_, ht⟩
    · obtain ⟨D0, nm, b0, b1, b2, b3, b4, b5, b6, b7, b8, b9, b10, b11, b12, b13, b14, j, rfl, hd, R, hq⟩ := h
      exact ⟨true, R.ex, fun _ a _ => ⟨⟨_, rfl⟩, D0, nm, b0, b1, b2, b3, b4, b5, b6, b7, b8, b9, b10, b11, b12, b13, b14, j, rfl, hd, R, hq⟩, fun z => by cases z⟩
    · exact ⟨(by show 1 ≤ sizeLine; decide), fun t ht2 => h _ t (same_upd ht2) ht2 upd_same⟩
end
end Sv

set_option maxHeartbeats 8000000
namespace Sv
open PySem PySem.Spec PyProof.Rows L2
@[irreducible] def qNext : Sp := spNext
theorem go_next {H : Hp} {h l : Addr} {lim : Int} {Q : VK} {E : XK} (LH : LawH H h l) (p1 : 0 < lim) (p2 : lim < 2 ^ 64) (q : ∀ (r : Nat) H', (r : Int) < lim → LawH H' h l → SameX h l H H' → Q (.int (r : Nat)) H') : qNext [.ref h, .int lim] H Q E := by
  unfold qNext
  exact ⟨h, l, lim, rfl, LH, p1, p2, fun r H' r0 r1 L k => by
    obtain ⟨n, rfl⟩ : ∃ n : Nat, r = (n : Int) := ⟨r.toNat, (Int.toNat_of_nonneg r0).symm⟩
    exact q n H' r1 L k⟩
/-- h and l stand, what was tracked but them is kept, and x is kept, too -/
structure St (h l : Addr) (H H' : Hp) : Prop where
  law : LawH H' h l
  k : SameX h l H H'
theorem St.next {h l : Addr} {H H1 H2 : Hp} (a : St h l H H1) (L : LawH H2 h l) (x : SameX h l H1 H2) : St h l H H2 := ⟨L, a.k.trans x⟩
theorem St.same {h l : Addr} {H H1 H2 : Hp} (a : St h l H H1) (e : Same H1 H2) : St h l H H2 := ⟨a.law.same e, fun b o h1 h2 q => e b o (a.k b o h1 h2 q)⟩
theorem LawH.nh {H : Hp} {h l f : Addr} (x : LawH H h l) (hf : H f = none) : f ≠ h ∧ f ≠ l := by
  obtain ⟨m, i, cs, e1, e2, _⟩ := x.ex
  exact ⟨(ne_of_none e1 hf).symm, (ne_of_none e2 hf).symm⟩
theorem LawH.upd {H : Hp} {h l f : Addr} {o : HO} (x : LawH H h l) (h1 : f ≠ h) (h2 : f ≠ l) : LawH (L2.upd H f o) h l := by
  obtain ⟨m, i, cs, e1, e2, e3⟩ := x.ex
  exact ⟨m, i, cs, by rw [upd_ne (Ne.symm h1)]; exact e1, by rw [upd_ne (Ne.symm h2)]; exact e2, e3⟩
theorem St.upd {h l f : Addr} {H H1 : Hp} {o : HO} (a : St h l H H1) (hf : H f = none) (h1 : f ≠ h) (h2 : f ≠ l) : St h l H (L2.upd H1 f o) := by
  refine ⟨a.law.upd h1 h2, fun b u b1 b2 q => ?_⟩
  rw [upd_ne (ne_of_none q hf)]
  exact a.k b u b1 b2 q
theorem St.none {h l f : Addr} {H H1 : Hp} (a : St h l H H1) (hf : H1 f = Option.none) : H f = Option.none := by
  cases q : H f with
  | none => rfl
  | some o =>
    obtain ⟨n1, n2⟩ := a.law.nh hf
    rw [a.k f o n1 n2 q] at hf
    cases hf
theorem St.trans {h l : Addr} {H H1 H2 : Hp} (a : St h l H H1) (b : St h l H1 H2) : St h l H H2 := ⟨b.law, a.k.trans b.k⟩
theorem St.refl {h l : Addr} {H : Hp} (x : LawH H h l) : St h l H H := ⟨x, fun _ _ _ _ q => q⟩
theorem sqT_x {K : PySem.W.Frag} {H H1 : Hp} {h l a : Addr} {xs : List V} (L : LawH H h l) (e : SameX h l H H1) (s : SqT K H a xs) : SqT K H1 a xs := by
  obtain ⟨m, i, cs, e1, e2, _⟩ := L.ex
  rcases s with (s | ⟨o, s⟩) | s
  · exact .inl (.inl (e _ _ (fun z => by rw [z, e1] at s; cases s) (fun z => by rw [z, e2] at s; cases s) s))
  · exact .inl (.inr ⟨o, e _ _ (fun z => by rw [z, e1] at s; cases s) (fun z => by rw [z, e2] at s; cases s) s⟩)
  · exact .inr s
theorem paired_x {K : PySem.W.Frag} {H H' : Hp} {h l : Addr} (L : LawH H h l) (e : SameX h l H H') : ∀ {qs : List Addr} {rs : List Ro}, Paired (fun q r => SqT K H q (rV r)) qs rs → Paired (fun q r => SqT K H' q (rV r)) qs rs
  | _, _, .nil => .nil
  | _, _, .cons h t => .cons (sqT_x L e h) (paired_x L e t)
theorem RtAt.x {K : PySem.W.Frag} {H H' : Hp} {h l b : Addr} {rs : List Ro} (x : RtAt K H b rs) (L : LawH H h l) (e : SameX h l H H') : RtAt K H' b rs := by
  obtain ⟨qs, h1, h2⟩ := x.ex
  exact ⟨qs, sqT_x L e h1, paired_x L e h2⟩
theorem PlanAt.x {K : PySem.W.Frag} {H H' : Hp} {h l p : Addr} {zs : List Int} {rs : List Ro} (x : PlanAt K H p zs rs) (L : LawH H h l) (e : SameX h l H H') : PlanAt K H' p zs rs := by
  obtain ⟨a, b, h1, h2, h3⟩ := x.ex
  exact ⟨a, b, sqT_x L e h1, sqT_x L e h2, h3.x L e⟩
theorem paired_imp {K : PySem.W.Frag} {H H' : Hp} (e : ∀ a xs, SqT K H a xs → SqT K H' a xs) : ∀ {qs : List Addr} {rs : List Ro}, Paired (fun q r => SqT K H q (rV r)) qs rs → Paired (fun q r => SqT K H' q (rV r)) qs rs
  | _, _, .nil => .nil
  | _, _, .cons h t => .cons (e _ _ h) (paired_imp e t)
theorem paired_snoc {K : PySem.W.Frag} {H : Hp} {q : Addr} {r : Ro} (h : SqT K H q (rV r)) : ∀ {qs : List Addr} {rs : List Ro}, Paired (fun q r => SqT K H q (rV r)) qs rs → Paired (fun q r => SqT K H q (rV r)) (qs ++ [q]) (rs ++ [r])
  | _, _, .nil => .cons h .nil
  | _, _, .cons g t => .cons g (paired_snoc h t)
theorem sqT_lst {K : PySem.W.Frag} {H : Hp} {f a : Addr} {xs ys : List V} {o : HO} (hf : H f = some (.lst ys)) (s : SqT K H a xs) : SqT K (upd H f o) a xs := by
  rcases s with (s | ⟨u, s⟩) | s
  · exact .inl (.inl (by rw [upd_ne (fun z => by rw [z, hf] at s; cases s)]; exact s))
  · exact .inl (.inr ⟨u, by rw [upd_ne (fun z => by rw [z, hf] at s; cases s)]; exact s⟩)
  · exact .inr s
section
variable {P : Program} {w : World} {K : PySem.W.Frag} {mg : Str → Option Value} {base : Heap}
def nPla : List Str := ["_law_h", "_law_shelves", "_law_carriers", "_law_sizes", "_law_shelf", "_law_routes", "_law_carrier", "_law_entries", "_law_k"]
theorem scPlan : FnScope nPla ["_law_h", "_law_shelves", "_law_carriers"] (defScope sPlan) := ⟨rfl, rfl, rfl, by decide +kernel, rfl, by decide +kernel, by decide +kernel⟩
/-- a valid plan, its entries too -/
structure Good2 (zs : List Int) (rs : List Ro) : Prop where
  z1 : 1 ≤ zs.length ∧ zs.length ≤ 12
  z2 : ∀ z ∈ zs, 0 ≤ z ∧ z ≤ 9
  r1 : 1 ≤ rs.length ∧ rs.length ≤ 6
  r2 : ∀ r ∈ rs, 1 ≤ r.length ∧ r.length ≤ 6
def spPlan (K : PySem.W.Frag) : Sp := fun vs H Q _ => ∃ (h l : Addr), vs = [.ref h, .int 12, .int 6] ∧ LawH H h l ∧ ∀ H' p zs rs, St h l H H' → PlanAt K H' p zs rs → Good2 zs rs → Q (.ref p) H'
theorem ok_plan {f fN : Addr} {fd dN : FuncData} (F : Df K mg "_law_plan" sPlan ["_law_h", "_law_shelves", "_law_carriers"] f fd) (FN : Df K mg "_law_next" sNext ["_law_h", "_law_limit"] fN dN) (B : Bt mg) : FnOk P w K mg base CX0 2 f fd ["_law_h", "_law_shelves", "_law_carriers"] (spPlan K) := by
  have GN : FnOk P w K mg base CX0 1 fN dN ["_law_h", "_law_limit"] qNext := by unfold qNext; exact ok_next FN.F B
  refine F.F.ok scPlan (fun vs H Q E h => ?_) (fun cdv A outer s H vs Q E hr h => ?_)
  · obtain ⟨h, l, rfl, _⟩ := h
    rfl
  · obtain ⟨h, l, rfl, LH, q⟩ := h
    refine ⟨_, pss_cons (ps_set (i := 3) scPlan.nd rfl (Or.inl rfl) (pe_lst pa_nil))
      (pss_cons (ps_for PassesOwn.never rfl (pi_range1 (by rfl) B.range (pa_cons (pe_op op_add pe_int (pe_call (E := E0) GN hr (by rfl) FN.g FN.F.kp FN.b .nil pass0 (pa_cons (pv 0) (pa_cons (pv 1) pa_nil)))) pa_nil)) (pg_name (i := 4) scPlan.nd rfl (Or.inl rfl))
        (pss_one (ps_expr (pe_bm PySem.F.plainAttrs_list PySem.F.slot_list_append PySem.F.type_list_append mt_append (pv 3) (pa_cons (pe_ix ix_list (pe_lst (pa_cons (pe_call (E := E0) GN hr (by rfl) FN.g FN.F.kp FN.b .nil pass0 (pa_cons (pv 0) (pa_cons pe_int pa_nil))) (pa_cons (pe_call (E := E0) GN hr (by rfl) FN.g FN.F.kp FN.b .nil pass0 (pa_cons (pv 0) (pa_cons pe_int pa_nil))) pa_nil)))
          (pe_op op_fdiv (pe_call (E := E0) GN hr (by rfl) FN.g FN.F.kp FN.b .nil pass0 (pa_cons (pv 0) (pa_cons pe_int pa_nil))) pe_int) (fun _ _ => rfl)) pa_nil)))))
      (pss_cons (ps_set (i := 5) scPlan.nd rfl (Or.inl rfl) (pe_lst pa_nil))
      (pss_cons (ps_for PassesOwn.never rfl (pi_range1 (by rfl) B.range (pa_cons (pe_op op_add pe_int (pe_call (E := E0) GN hr (by rfl) FN.g FN.F.kp FN.b .nil pass0 (pa_cons (pv 0) (pa_cons (pv 2) pa_nil)))) pa_nil)) (pg_name (i := 6) scPlan.nd rfl (Or.inl rfl))
        (pss_cons (ps_set (i := 7) scPlan.nd rfl (Or.inl rfl) (pe_lst pa_nil))
        (pss_cons (ps_for PassesOwn.never rfl (pi_range1 (by rfl) B.range (pa_cons (pe_op op_add pe_int (pe_call (E := E0) GN hr (by rfl) FN.g FN.F.kp FN.b .nil pass0 (pa_cons (pv 0) (pa_cons (pe_ix ix_list (pe_lst (pa_cons pe_int (pa_cons pe_int pa_nil))) (pe_call (E := E0) GN hr (by rfl) FN.g FN.F.kp FN.b .nil pass0 (pa_cons (pv 0) (pa_cons pe_int pa_nil))) (fun _ _ => rfl)) pa_nil)))) pa_nil)) (pg_name (i := 8) scPlan.nd rfl (Or.inl rfl))
          (pss_one (ps_expr (pe_bm PySem.F.plainAttrs_list PySem.F.slot_list_append PySem.F.type_list_append mt_append (pv 7) (pa_cons (pe_ifExp (pt_cmpR op_eq (pe_call (E := E0) GN hr (by rfl) FN.g FN.F.kp FN.b .nil pass0 (pa_cons (pv 0) (pa_cons pe_int pa_nil))) pe_int (nomark _)) pe_non
            (pe_call (E := E0) GN hr (by rfl) FN.g FN.F.kp FN.b .nil pass0 (pa_cons (pv 0) (pa_cons (pe_callB call_len_seq (by rfl) B.len b_len (pa_cons (pv 3) pa_nil)) pa_nil)))) pa_nil)))))
        (pss_one (ps_expr (pe_bm PySem.F.plainAttrs_list PySem.F.slot_list_append PySem.F.type_list_append mt_append (pv 5) (pa_cons (pe_callTy call_tuple_of (by rfl) B.tuple b_tuple (pa_cons (pv 7) pa_nil)) pa_nil)))))))
      (pss_one (ps_ret (pe_tup (pa_cons (pe_callTy call_tuple_of (by rfl) B.tuple b_tuple (pa_cons (pv 3) pa_nil)) (pa_cons (pe_callTy call_tuple_of (by rfl) B.tuple b_tuple (pa_cons (pv 5) pa_nil)) pa_nil)))))))), ?_⟩
    refine ⟨Nat.zero_le _, fun fs hfs => ?_⟩
    obtain ⟨fh, fl⟩ := LH.nh hfs
    have S1 := (St.refl LH).upd (o := .lst []) hfs fh fl
    have k1 : (upd H fs (.lst [])) fs = some (.lst []) := upd_same
    generalize upd H fs (.lst []) = H1 at S1 k1 ⊢
    -- the sizes
    refine ⟨.ref h, rfl, .int 12, rfl, ?_⟩
    show qNext _ _ _ _
    refine go_next S1.law (by decide) (by decide) fun n1 H2 hn1 L2 x2 => ⟨1, n1, rfl, rfl, _, rfl, by omega, by omega, ?_⟩
    refine for_range (lo := 0) (n := ((1 : Int) + (n1 : Nat)).toNat) (fun i σ H' => (∃ y4, σ = [some (.ref h), some (.int 12), some (.int 6), some (.ref fs), y4, none, none, none, none]) ∧ St h l H H' ∧ ∃ zs : List Int, zs.length = i ∧ (∀ z ∈ zs, 0 ≤ z ∧ z ≤ 9) ∧ H' fs = some (.lst (zs.map V.int)))
      ⟨⟨none, rfl⟩, S1.next L2 x2, [], rfl, fun z hz => (List.not_mem_nil hz).elim, x2 _ _ fh fl k1⟩ (fun i σ H' hi ⟨⟨y4, es⟩, S, zs, zl, hz, kf⟩ => ?_) (fun σ H' ⟨⟨y4, es⟩, S, zs, zl, hz, kf⟩ => ?_)
    · subst es
      have hi12 : i < 12 := by omega
      refine ⟨.ref fs, rfl, .inl ⟨rfl, _, .inl (.inl kf)⟩, .ref h, rfl, ?_⟩
      show qNext _ _ _ _
      refine go_next S.law (by decide) (by decide) fun a H3 ha L3 x3 => ⟨.ref h, rfl, ?_⟩
      have S3 := S.next L3 x3
      show qNext _ _ _ _
      refine go_next S3.law (by decide) (by decide) fun b H4 hb L4 x4 => ⟨(by show 2 ≤ sizeLine; decide), fun D hD => ⟨.ref h, rfl, ?_⟩⟩
      have S4 := S3.next L4 x4
      obtain ⟨Dh, Dl⟩ := L4.nh hD
      have S5 := S4.same (same_upd (o := .lst [.int (a : Nat), .int (b : Nat)]) hD)
      have kD : (upd H4 D (.lst [.int (a : Nat), .int (b : Nat)])) D = some (.lst [.int (a : Nat), .int (b : Nat)]) := upd_same
      have kf5 := (same_upd (o := .lst [.int (a : Nat), .int (b : Nat)]) hD) _ _ (x4 _ _ fh fl (x3 _ _ fh fl kf))
      generalize upd H4 D (.lst [.int (a : Nat), .int (b : Nat)]) = H5 at S5 kD kf5 ⊢
      show qNext _ _ _ _
      refine go_next S5.law (by decide) (by decide) fun c H6 hc L6 x6 => ⟨c, 4, rfl, rfl, ⟨by decide, by decide⟩, ?_⟩
      have S6 := S5.next L6 x6
      have kD6 := x6 _ _ Dh Dl kD
      have kf6 := x6 _ _ fh fl kf5
      obtain ⟨z, hz0, hat⟩ : ∃ z : Int, (0 ≤ z ∧ z ≤ 9) ∧ atI [V.int (a : Nat), V.int (b : Nat)] ((c : Int) / 4) = some (.int z) := by
        have : c = 0 ∨ c = 1 ∨ c = 2 ∨ c = 3 ∨ c = 4 := by omega
        rcases this with rfl | rfl | rfl | rfl | rfl
        · exact ⟨a, ⟨by omega, by omega⟩, rfl⟩
        · exact ⟨a, ⟨by omega, by omega⟩, rfl⟩
        · exact ⟨a, ⟨by omega, by omega⟩, rfl⟩
        · exact ⟨a, ⟨by omega, by omega⟩, rfl⟩
        · exact ⟨b, ⟨by omega, by omega⟩, rfl⟩
      refine ⟨D, _, _, _, rfl, rfl, .inl (.inl kD6), hat, fs, _, _, rfl, rfl, kf6, ?_, ⟨_, rfl⟩, S6.upd hfs fh fl, zs ++ [z], by rw [List.length_append, zl]; rfl, fun y hy => ?_, ?_⟩
      · rw [List.length_map]
        exact small1000 (by omega)
      · rcases List.mem_append.mp hy with hy | hy
        · exact hz y hy
        · rw [List.mem_singleton.mp hy]
          exact hz0
      · rw [upd_same, List.map_append]
        rfl
    subst es
    have zl12 : 1 ≤ zs.length ∧ zs.length ≤ 12 := by rw [zl]; omega
    -- the routes
    refine ⟨Nat.zero_le _, fun fr hfr => ?_⟩
    obtain ⟨rh, rl⟩ := S.law.nh hfr
    have nfr := S.none hfr
    have S7 := S.same (same_upd (o := .lst []) hfr)
    have kr : (upd H' fr (.lst [])) fr = some (.lst []) := upd_same
    have kf7 := (same_upd (o := .lst []) hfr) _ _ kf
    generalize upd H' fr (.lst []) = H7 at S7 kr kf7 ⊢
    refine ⟨.ref h, rfl, .int 6, rfl, ?_⟩
    show qNext _ _ _ _
    refine go_next S7.law (by decide) (by decide) fun n2 H8 hn2 L8 x8 => ⟨1, n2, rfl, rfl, _, rfl, by omega, by omega, ?_⟩
    refine for_range (lo := 0) (n := ((1 : Int) + (n2 : Nat)).toNat) (fun i σ H' => (∃ y4 y6 y7 y8, σ = [some (.ref h), some (.int 12), some (.int 6), some (.ref fs), y4, some (.ref fr), y6, y7, y8]) ∧ St h l H H' ∧ H' fs = some (.lst (zs.map V.int)) ∧
        ∃ (qs : List Addr) (rs : List Ro), rs.length = i ∧ H' fr = some (.lst (qs.map V.ref)) ∧ Paired (fun q r => SqT K H' q (rV r)) qs rs ∧ ∀ r ∈ rs, 1 ≤ r.length ∧ r.length ≤ 6)
      ⟨⟨_, _, _, _, rfl⟩, S7.next L8 x8, x8 _ _ fh fl kf7, [], [], rfl, x8 _ _ rh rl kr, .nil, fun r hr => (List.not_mem_nil hr).elim⟩ (fun i σ H9 hi ⟨⟨y4, y6, y7, y8, es⟩, S9, kf9, qs, rs, rl9, kr9, hP, hR⟩ => ?_) (fun σ H9 ⟨⟨y4, y6, y7, y8, es⟩, S9, kf9, qs, rs, rl9, kr9, hP, hR⟩ => ?_)
    · subst es
      have hi6 : i < 6 := by omega
      refine ⟨Nat.zero_le _, fun fe hfe => ?_⟩
      obtain ⟨eh, el⟩ := S9.law.nh hfe
      have ef : fe ≠ fs := (ne_of_none kf9 hfe).symm
      have er : fe ≠ fr := (ne_of_none kr9 hfe).symm
      have T10 := (St.refl S9.law).upd (o := .lst []) hfe eh el
      have ke : (upd H9 fe (.lst [])) fe = some (.lst []) := upd_same
      generalize upd H9 fe (.lst []) = H10 at T10 ke ⊢
      refine ⟨.ref h, rfl, (by show 2 ≤ sizeLine; decide), fun D hD => ⟨.ref h, rfl, ?_⟩⟩
      obtain ⟨Dh, Dl⟩ := T10.law.nh hD
      have T11 := T10.same (same_upd (o := .lst [.int 3, .int 6]) hD)
      have kD : (upd H10 D (.lst [.int 3, .int 6])) D = some (.lst [.int 3, .int 6]) := upd_same
      have ke11 := (same_upd (o := .lst [.int 3, .int 6]) hD) _ _ ke
      generalize upd H10 D (.lst [.int 3, .int 6]) = H11 at T11 kD ke11 ⊢
      show qNext _ _ _ _
      refine go_next T11.law (by decide) (by decide) fun u H12 hu L12 x12 => ?_
      have T12 := T11.next L12 x12
      obtain ⟨lim, l1, l2, hat⟩ : ∃ lim : Int, 0 < lim ∧ lim ≤ 6 ∧ atI [V.int 3, V.int 6] (u : Nat) = some (.int lim) := by
        have : u = 0 ∨ u = 1 := by omega
        rcases this with rfl | rfl
        · exact ⟨3, by decide, by decide, rfl⟩
        · exact ⟨6, by decide, by decide, rfl⟩
      refine ⟨D, _, _, _, rfl, rfl, .inl (.inl (x12 _ _ Dh Dl kD)), hat, ?_⟩
      show qNext _ _ _ _
      have p64 : (1000 : Int) < 2 ^ 64 := by decide
      refine go_next T12.law l1 (by omega) fun n3 H13 hn3 L13 x13 => ⟨1, n3, rfl, rfl, _, rfl, by omega, by omega, ?_⟩
      have T13 := T12.next L13 x13
      have ke13 := x13 _ _ eh el (x12 _ _ eh el ke11)
      refine for_range (lo := 0) (n := ((1 : Int) + (n3 : Nat)).toNat) (fun j σ H' => (∃ y8, σ = [some (.ref h), some (.int 12), some (.int 6), some (.ref fs), y4, some (.ref fr), some (.int (0 + (i : Nat))), some (.ref fe), y8]) ∧ St h l H9 H' ∧ ∃ r : Ro, r.length = j ∧ H' fe = some (.lst (rV r)))
        ⟨⟨_, rfl⟩, T13, [], rfl, ke13⟩ (fun j σ H14 hj ⟨⟨y8, es⟩, T14, r, rlen, ke14⟩ => ?_) (fun σ H14 ⟨⟨y8, es⟩, T14, r, rlen, ke14⟩ => ?_)
      · subst es
        have hj6 : j < 6 := by omega
        refine ⟨.ref fe, rfl, .inl ⟨rfl, _, .inl (.inl ke14)⟩, .ref h, rfl, ?_⟩
        show qNext _ _ _ _
        refine go_next T14.law (by decide) (by decide) fun v H15 hv L15 x15 => ⟨rfl, _, rfl, ?_⟩
        have T15 := T14.next L15 x15
        have ke15 := x15 _ _ eh el ke14
        by_cases hv0 : v = 0
        · rw [decide_eq_true (by rw [hv0]; rfl)]
          refine iteT ⟨fe, _, _, rfl, rfl, ke15, ?_, ⟨_, rfl⟩, T15.upd hfe eh el, r ++ [none], by rw [List.length_append, rlen]; rfl, ?_⟩
          · rw [rV_len]
            exact small1000 (by omega)
          · rw [upd_same]
            unfold rV
            rw [List.map_append]
            rfl
        · rw [decide_eq_false fun z => hv0 (by have := V.int.inj z; omega)]
          have kf15 := T15.k _ _ fh fl kf9
          refine iteF ⟨.ref h, rfl, .ref fs, rfl, fs, _, rfl, .inl (.inl (.inl kf15)), ?_⟩
          rw [List.length_map]
          show qNext _ _ _ _
          refine go_next T15.law (by omega) (by omega) fun e H16 he L16 x16 => ?_
          have T16 := T15.next L16 x16
          refine ⟨fe, _, _, rfl, rfl, x16 _ _ eh el ke15, ?_, ⟨_, rfl⟩, T16.upd hfe eh el, r ++ [some (e : Int)], by rw [List.length_append, rlen]; rfl, ?_⟩
          · rw [rV_len]
            exact small1000 (by omega)
          · rw [upd_same]
            unfold rV
            rw [List.map_append]
            rfl
      · subst es
        have kr14 := T14.k _ _ rh rl kr9
        refine ⟨.ref fr, rfl, .inl ⟨rfl, _, .inl (.inl kr14)⟩, .ref fe, rfl, fe, _, rfl, .inl ⟨.inl (.inl ke14), fun t ht => ?_⟩⟩
        have U15 := T14.same (same_upd (o := .tup (rV r)) ht)
        have kt : (upd H14 t (.tup (rV r))) t = some (.tup (rV r)) := upd_same
        generalize upd H14 t (.tup (rV r)) = H15 at U15 kt ⊢
        have kr15 := U15.k _ _ rh rl kr9
        have kf15 := U15.k _ _ fh fl kf9
        have hql : qs.length = i := by rw [paired_len hP, rl9]
        refine ⟨fr, _, _, rfl, rfl, kr15, ?_, ⟨_, _, _, _, rfl⟩, (S9.trans U15).upd nfr rh rl, ?_, qs ++ [t], rs ++ [r], by rw [List.length_append, rl9]; rfl, ?_, ?_, fun x hx => ?_⟩
        · rw [List.length_map]
          exact small1000 (by omega)
        · rw [upd_ne (ne_of_none kf hfr)]
          exact kf15
        · rw [upd_same, List.map_append]
          rfl
        · exact paired_snoc (sqT_lst kr15 (.inl (.inl kt))) (paired_imp (fun a xs s => sqT_lst kr15 (sqT_x S9.law U15.k s)) hP)
        · rcases List.mem_append.mp hx with hx | hx
          · exact hR x hx
          · rw [List.mem_singleton.mp hx, rlen]
            omega
    subst es
    refine ⟨.ref fs, rfl, fs, _, rfl, .inl ⟨.inl (.inl kf9), fun a ha => ?_⟩⟩
    have ma : Same H9 (upd H9 a (.tup (zs.map V.int))) := same_upd ha
    have ka : (upd H9 a (.tup (zs.map V.int))) a = some (.tup (zs.map V.int)) := upd_same
    generalize upd H9 a (.tup (zs.map V.int)) = Ha at ma ka ⊢
    refine ⟨.ref fr, rfl, fr, _, rfl, .inl ⟨.inl (.inl (ma _ _ kr9)), fun b hb => ?_⟩⟩
    have mb : Same Ha (upd Ha b (.tup (qs.map V.ref))) := same_upd hb
    have kb : (upd Ha b (.tup (qs.map V.ref))) b = some (.tup (qs.map V.ref)) := upd_same
    generalize upd Ha b (.tup (qs.map V.ref)) = Hb at mb kb ⊢
    refine ⟨(by show 2 ≤ sizeLine; decide), fun p hp => ?_⟩
    have mp : Same Hb (upd Hb p (.tup [.ref a, .ref b])) := same_upd hp
    refine q _ p zs rs (((S9.same ma).same mb).same mp) ⟨a, b, .inl (.inl upd_same), .inl (.inl (mp _ _ (mb _ _ ka))), qs, .inl (.inl (mp _ _ kb)), paired_same ((ma.trans mb).trans mp) hP⟩ ⟨zl12, hz, ?_, hR⟩
    rw [rl9]
    omega
end
end Sv


set_option maxHeartbeats 8000000
namespace Sv
open PySem PySem.Spec PyProof.Rows L2
/-! ### lists of ints as data -/
def dIs (l : List Int) : List PyData := l.map PyData.int
theorem dpAll_is {K : PySem.W.Frag} {H : Hp} : ∀ l : List Int, DpAll K H (l.map V.int) (dIs l)
  | [] => .nil
  | x :: l => .cons (.int x) (dpAll_is l)
theorem eqv_dIs : ∀ a b : List Int, PyData.eqvAll (dIs a) (dIs b) = decide (a = b)
  | [], [] => by show PyData.eqvAll [] [] = _; rw [PyData.eqvAll]; rfl
  | [], y :: b => by show PyData.eqvAll [] (.int y :: dIs b) = _; rw [PyData.eqvAll]; rfl
  | x :: a, [] => by show PyData.eqvAll (.int x :: dIs a) [] = _; rw [PyData.eqvAll]; rfl
  | x :: a, y :: b => by
    show PyData.eqvAll (.int x :: dIs a) (.int y :: dIs b) = _
    rw [PyData.eqvAll, PyData.eqv, eqv_dIs a b]
    by_cases h1 : x = y
    · subst h1
      by_cases h2 : a = b
      · subst h2
        simp
      · simp [h2]
    · have : (x == y) = false := by simpa using h1
      rw [this]
      simp [h1]
theorem can_dIs : ∀ l : List Int, PyData.canLayAll0 (dIs l) = true
  | [] => by show PyData.canLayAll0 [] = true; rw [PyData.canLayAll0]
  | x :: l => by
    show PyData.canLayAll0 (.int x :: dIs l) = true
    rw [PyData.canLayAll0, can_dIs l, PyData.canLay0]
    rfl
theorem dep_dIs : ∀ l : List Int, PyData.depthAll (dIs l) ≤ 1
  | [] => by show PyData.depthAll [] ≤ 1; rw [PyData.depthAll]; omega
  | x :: l => by
    show PyData.depthAll (.int x :: dIs l) ≤ 1
    rw [PyData.depthAll]
    have h1 := dep_dIs l
    have h2 : PyData.depth (.int x) ≤ 1 := by
      simp only [PyData.depth]
      omega
    omega
theorem shaped_dIs (l : List Int) : SeqAt.shaped (.list (dIs l)) = true := by
  unfold SeqAt.shaped
  rw [Bool.and_eq_true]
  refine ⟨?_, decide_eq_true ?_⟩
  · rw [PyData.canLay0]
    exact can_dIs l
  · have h := dep_dIs l
    rw [PyData.depth]
    omega
theorem neI_go {K : PySem.W.Frag} {H : Hp} {x y : Addr} {a b : List Int} {Q : VK} (hx : SqL K H x (a.map V.int)) (hy : SqL K H y (b.map V.int)) (q : Q (.bl (!decide (a = b))) H) : qNe K (.ref x) (.ref y) H Q := by
  unfold qNe
  refine ⟨.list (dIs a), .list (dIs b), .lst hx (dpAll_is a), .lst hy (dpAll_is b), shaped_dIs a, shaped_dIs b, ?_⟩
  rw [PyData.eqv, eqv_dIs]
  exact q
section
variable {P : Program} {w : World} {K : PySem.W.Frag} {mg : Str → Option Value} {base : Heap}
def rLn (K : PySem.W.Frag) : List V → Hp → VK → Prop := fun xs H Q => ∃ p ys, xs = [.ref p] ∧ (SqL K H p ys ∨ SqT K H p ys) ∧ Q (.int ys.length) H
theorem pts_pw {X : Cx} {c : Expr} {t : TT} (h : PW X c t) : PTs X [c] t := pts_one h.pt
def nFb : List Str := ["_law_plan_here", "_law_sizes", "_law_routes", "_law_k", "_law_bad", "_law_entry"]
theorem scFirstBad : FnScope nFb ["_law_plan_here"] (defScope sFirstBad) := ⟨rfl, rfl, rfl, by decide +kernel, rfl, by decide +kernel, by decide +kernel⟩
def spFirstBad (K : PySem.W.Frag) : Sp := fun vs H Q _ => ∃ (p : Addr) (zs : List Int) (rs : List Ro), vs = [.ref p] ∧ PlanAt K H p zs rs ∧ Small zs rs ∧ (bad zs rs = none → ∀ H', Same H H' → Q .non H') ∧ (∀ part i, bad zs rs = some (part, i) → NewS H [.str part, .int i] Q)
theorem bad_s {zs : List Int} {rs : List Ro} {i : Int} (h : badS zs = some i) : bad zs rs = some (("sizes" : Str), i) := by
  unfold bad
  rw [h]
theorem bad_r {zs : List Int} {rs : List Ro} {i : Int} (h1 : badS zs = none) (h : badR zs.length rs = some i) : bad zs rs = some (("routes" : Str), i) := by
  unfold bad
  rw [h1]
  simp only [h, Option.map_some]
theorem bad_n {zs : List Int} {rs : List Ro} (h1 : badS zs = none) (h : badR zs.length rs = none) : bad zs rs = none := by
  unfold bad
  rw [h1]
  simp only [h, Option.map_none]
/-- the bad entries of a route -/
def be (n : Int) (r : Ro) : List Int := r.filterMap fun e => match e with
  | none => none
  | some z => if 0 ≤ z ∧ z < n then none else some z
theorem be_nil {n : Int} {r : Ro} : be n r = [] ↔ ∀ e ∈ r, okE n e = true := by
  unfold be
  rw [List.filterMap_eq_nil_iff]
  refine ⟨fun h e he => ?_, fun h e he => ?_⟩
  · have := h e he
    cases e with
    | none => rfl
    | some z =>
      by_cases hz : 0 ≤ z ∧ z < n
      · exact decide_eq_true ⟨hz.1, by omega⟩
      · have this : (if 0 ≤ z ∧ z < n then none else some z) = none := this
        rw [if_neg hz] at this
        cases this
  · have := h e he
    cases e with
    | none => rfl
    | some z =>
      have hz : 0 ≤ z ∧ z ≤ n - 1 := of_decide_eq_true this
      show (if 0 ≤ z ∧ z < n then none else some z) = none
      rw [if_pos ⟨hz.1, by omega⟩]
theorem be_none {n : Int} {r : Ro} {i : Nat} (h : r[i]? = some none) : be n (r.take (i + 1)) = be n (r.take i) := by
  unfold be
  rw [List.take_add_one, h, List.filterMap_append]
  simp
theorem be_in {n : Int} {r : Ro} {i : Nat} {z : Int} (h : r[i]? = some (some z)) (hz : 0 ≤ z ∧ z < n) : be n (r.take (i + 1)) = be n (r.take i) := by
  unfold be
  rw [List.take_add_one, h, List.filterMap_append]
  simp [hz]
theorem be_out {n : Int} {r : Ro} {i : Nat} {z : Int} (h : r[i]? = some (some z)) (hz : ¬ (0 ≤ z ∧ z < n)) : be n (r.take (i + 1)) = be n (r.take i) ++ [z] := by
  unfold be
  rw [List.take_add_one, h, List.filterMap_append]
  show _ ++ [some z].filterMap _ = _
  rw [List.filterMap_cons_some (b := z) (by show (if 0 ≤ z ∧ z < n then none else some z) = some z; rw [if_neg hz])]
  rfl
theorem be_len (n : Int) (r : Ro) : (be n r).length ≤ r.length := List.length_filterMap_le _ _
theorem okR_iff {n : Int} {r : Ro} : okR n r = true ↔ (1 ≤ r.length ∧ r.length ≤ 6) ∧ be n r = [] := by
  unfold okR
  rw [Bool.and_eq_true, decide_eq_true_eq, List.all_eq_true, be_nil]
theorem ok_firstBad {f : Addr} {fd : FuncData} (F : Df K mg "_law_first_bad" sFirstBad ["_law_plan_here"] f fd) (B : Bt mg) : FnOk P w K mg base CX0 1 f fd ["_law_plan_here"] (spFirstBad K) := by
  refine F.F.ok scFirstBad (fun vs H Q E h => ?_) (fun cdv A outer s H vs Q E hr h => ?_)
  · obtain ⟨p, zs, rs, rfl, _⟩ := h
    rfl
  · obtain ⟨p, zs, rs, rfl, hp, ⟨sz1, sz2, sz3⟩, q1, q2⟩ := h
    obtain ⟨a, b, hp1, ha, hb⟩ := hp.ex
    obtain ⟨qs, hA, hP⟩ := hb.ex
    have hql := paired_len hP
    refine ⟨_, pss_cons (ps_asg (pv 0) (pg_tup rfl (pgs_cons (pg_name (i := 1) scFirstBad.nd rfl (.inr rfl)) (pgs_cons (pg_name (i := 2) scFirstBad.nd rfl (.inl rfl)) pgs_nil))))
      (pss_cons (ps_if (pt_not (pt_chain op_le op_le pe_int (pe_callB call_len_seq (by rfl) B.len b_len (pa_cons (pv 1) pa_nil)) pe_int)) (pss_one (ps_ret (pe_tup (pa_cons pe_str (pa_cons (pe_un un_neg pe_int) pa_nil))))) pss_nil)
      (pss_cons (ps_for PassesOwn.never rfl (pi_range1 (by rfl) B.range (pa_cons (pe_callB call_len_seq (by rfl) B.len b_len (pa_cons (pv 1) pa_nil)) pa_nil)) (pg_name (i := 3) scFirstBad.nd rfl (Or.inl rfl))
        (pss_one (ps_if (pt_not (pt_chain op_le op_le pe_int (pe_ix ix_tup (pv 1) (pv 3) (fun _ _ => rfl)) pe_int)) (pss_one (ps_ret (pe_tup (pa_cons pe_str (pa_cons (pv 3) pa_nil))))) pss_nil)))
      (pss_cons (ps_if (pt_not (pt_chain op_le op_le pe_int (pe_callB call_len_seq (by rfl) B.len b_len (pa_cons (pv 2) pa_nil)) pe_int)) (pss_one (ps_ret (pe_tup (pa_cons pe_str (pa_cons (pe_un un_neg pe_int) pa_nil))))) pss_nil)
      (pss_cons (ps_for PassesOwn.never rfl (pi_range1 (by rfl) B.range (pa_cons (pe_callB call_len_seq (by rfl) B.len b_len (pa_cons (pv 2) pa_nil)) pa_nil)) (pg_name (i := 3) scFirstBad.nd rfl (Or.inl rfl))
        (pss_cons (ps_setLc (i := 4) (own := [("_law_entry", 5)]) (g := gName 5) (tt := tAnd (tTest (tOp (fun x y H Q => y = .non ∧ Q (.bl (!decide (x = .non))) H) (tVar 5) (tC .non))) (tNot (tTest (tChain (rI0 fun i j => .bl (decide (i ≤ j))) (rI0 fun i j => .bl (decide (i < j))) (tC (.int 0)) (tVar 5) (tCB (rLn K) (tCons (tVar 1) tNil)))))) (te := tVar 5) rfl scFirstBad.nd rfl rfl (sw_true rfl rfl rfl (by decide +kernel)) (pi_tup (pe_ix ix_tup (pv 2) (pv 3) (fun _ _ => rfl))) (blkOk_by (N := nFb) (sc := defScope sFirstBad) (by decide +kernel))
            (fun _ _ _ _ _ => pg_name (i := 5) scFirstBad.nd rfl (Or.inl rfl))
            (fun _ _ _ _ _ => pts_pw (pw_and (pt_cmpR op_notN (pv 5) pe_non (nomark _)) (pw_and1 (pt_not (pt_chain op_le op_lt pe_int (pv 5) (pe_callB call_len_seq (by rfl) B.len b_len (pa_cons (pv 1) pa_nil))))))) (fun _ _ _ _ _ => pv 5))
        (pss_one (ps_if (pw_or (pt_cmpR (op_neQ hr.units) (pv 4) (pe_lst pa_nil) (nomark _)) (pw_or1 (pt_not (pt_chain op_le op_le pe_int (pe_callB call_len_seq (by rfl) B.len b_len (pa_cons (pe_ix ix_tup (pv 2) (pv 3) (fun _ _ => rfl)) pa_nil)) pe_int)))).pt (pss_one (ps_ret (pe_tup (pa_cons pe_str (pa_cons (pv 3) pa_nil))))) pss_nil))))
      (pss_one (ps_ret pe_non)))))), ?_⟩
    have ei : ∀ i : Nat, (0 : Int) + (i : Nat) = (i : Nat) := fun i => by omega
    refine ⟨.ref p, rfl, p, _, rfl, hp1, rfl, _, _, rfl, _, _, rfl, rfl, ?_⟩
    have no : ¬ (1 ≤ zs.length ∧ zs.length ≤ 12) → bad zs rs = some (("sizes" : Str), -1) := fun hz => bad_s (by unfold badS; rw [if_neg hz])
    have fin : ∀ {part : Str} {i : Int} {H1 : Hp}, bad zs rs = some (part, i) → Same H H1 → (2 ≤ sizeLine ∧ ∀ q, H1 q = none → Q (.ref q) (upd H1 q (.tup [.str part, .int i]))) := fun e sm => ⟨by decide, fun q hq => q2 _ _ e _ _ (same_of sm (Same.free sm hq)) (Same.free sm hq) upd_same⟩
    refine ⟨.ref a, rfl, a, _, rfl, .inr ha, 1, _, rfl, rfl, _, rfl, ?_⟩
    rw [List.length_map]
    by_cases c1 : (1 : Int) ≤ (zs.length : Nat)
    case neg =>
      rw [decide_eq_false c1]
      exact iteF ⟨false, rfl, iteT ⟨1, rfl, fin (no fun z => c1 (by omega)) fun _ _ h => h⟩⟩
    rw [decide_eq_true c1]
    refine iteT ⟨_, _, rfl, rfl, _, rfl, ?_⟩
    by_cases c2 : ((zs.length : Nat) : Int) ≤ 12
    case neg =>
      rw [decide_eq_false c2]
      exact iteT ⟨1, rfl, fin (no fun z => c2 (by omega)) fun _ _ h => h⟩
    rw [decide_eq_true c2]
    have hz : 1 ≤ zs.length ∧ zs.length ≤ 12 := ⟨by omega, by omega⟩
    have eb : badS zs = (fst okZ zs 0).map fun (k : Nat) => (k : Int) := by unfold badS; rw [if_pos hz]
    refine iteF ⟨.ref a, rfl, a, _, rfl, .inr ha, _, rfl, by omega, by rw [List.length_map]; omega, ?_⟩
    rw [List.length_map]
    refine for_range (lo := 0) (n := ((zs.length : Nat) : Int).toNat) (fun i σ H' => (∃ y3, σ = [some (.ref p), some (.ref a), some (.ref b), y3, none, none]) ∧ Same H H' ∧ ∀ (j : Nat) (z : Int), j < i → zs[j]? = some z → okZ z = true)
      ⟨⟨none, rfl⟩, fun _ _ h => h, fun j z hj => by omega⟩ (fun i σ H' hi ⟨⟨y3, es⟩, sm, hok⟩ => ?_) (fun σ H' ⟨⟨y3, es⟩, sm, hok⟩ => ?_)
    · subst es
      rw [Int.toNat_natCast] at hi
      rw [ei]
      obtain ⟨z, hz1⟩ : ∃ z, zs[i]? = some z := ⟨zs[i], List.getElem?_eq_getElem hi⟩
      refine ⟨.ref a, rfl, .int (i : Nat), rfl, a, zs.map V.int, (i : Nat), .int z, rfl, rfl, sqT_same sm ha, atI_nat (by rw [List.getElem?_map, hz1]; rfl), 0, z, rfl, rfl, _, rfl, ?_⟩
      by_cases d1 : (0 : Int) ≤ z
      · rw [decide_eq_true d1]
        refine iteT ⟨_, _, rfl, rfl, _, rfl, ?_⟩
        by_cases d2 : z ≤ 9
        · rw [decide_eq_true d2]
          refine iteF ⟨⟨_, rfl⟩, sm, fun j z' hj hz' => ?_⟩
          by_cases hji : j = i
          · rw [hji, hz1] at hz'
            rw [← Option.some.inj hz']
            exact decide_eq_true ⟨d1, d2⟩
          · exact hok j z' (by omega) hz'
        · rw [decide_eq_false d2]
          refine iteT ⟨.int (i : Nat), rfl, fin (bad_s ?_) sm⟩
          rw [eb, fst_some (i := i) (x := z) hok hz1 (decide_eq_false fun w => d2 w.2)]
          rfl
      · rw [decide_eq_false d1]
        refine iteF ⟨false, rfl, iteT ⟨.int (i : Nat), rfl, fin (bad_s ?_) sm⟩⟩
        rw [eb, fst_some (i := i) (x := z) hok hz1 (decide_eq_false fun w => d1 w.1)]
        rfl
    rw [Int.toNat_natCast] at hok
    have bS : badS zs = none := by
      rw [eb, fst_none fun j z hz' => hok j z (List.getElem?_eq_some_iff.mp hz').1 hz']
      rfl
    subst es
    have no2 : ¬ (1 ≤ rs.length ∧ rs.length ≤ 6) → bad zs rs = some (("routes" : Str), -1) := fun hz => bad_r bS (by unfold badR; rw [if_neg hz])
    refine ⟨.ref b, rfl, b, _, rfl, .inr (sqT_same sm hA), 1, _, rfl, rfl, _, rfl, ?_⟩
    rw [List.length_map, hql]
    by_cases c3 : (1 : Int) ≤ (rs.length : Nat)
    case neg =>
      rw [decide_eq_false c3]
      exact iteF ⟨false, rfl, iteT ⟨1, rfl, fin (no2 fun z => c3 (by omega)) sm⟩⟩
    rw [decide_eq_true c3]
    refine iteT ⟨_, _, rfl, rfl, _, rfl, ?_⟩
    by_cases c4 : ((rs.length : Nat) : Int) ≤ 6
    case neg =>
      rw [decide_eq_false c4]
      exact iteT ⟨1, rfl, fin (no2 fun z => c4 (by omega)) sm⟩
    rw [decide_eq_true c4]
    have hr2 : 1 ≤ rs.length ∧ rs.length ≤ 6 := ⟨by omega, by omega⟩
    have eb2 : badR zs.length rs = (fst (okR zs.length) rs 0).map fun (k : Nat) => (k : Int) := by unfold badR; rw [if_pos hr2]
    refine iteF ⟨.ref b, rfl, b, _, rfl, .inr (sqT_same sm hA), _, rfl, by omega, by rw [List.length_map, hql]; omega, ?_⟩
    rw [List.length_map, hql]
    refine for_range (lo := 0) (n := ((rs.length : Nat) : Int).toNat) (fun i σ H' => (∃ y3 y4, σ = [some (.ref p), some (.ref a), some (.ref b), y3, y4, none]) ∧ Same H H' ∧ ∀ (j : Nat) (r : Ro), j < i → rs[j]? = some r → okR zs.length r = true)
      ⟨⟨y3, none, rfl⟩, sm, fun j z hj => by omega⟩ (fun i σ H' hi ⟨⟨y3, y4, es⟩, sm, hok2⟩ => ?_) (fun σ H' ⟨⟨y3, y4, es⟩, sm, hok2⟩ => ?_)
    · subst es
      rw [Int.toNat_natCast] at hi
      rw [ei]
      obtain ⟨r, hr1⟩ : ∃ r, rs[i]? = some r := ⟨rs[i], List.getElem?_eq_getElem hi⟩
      obtain ⟨qa, hqa⟩ : ∃ q, qs[i]? = some q := ⟨qs[i]'(by omega), List.getElem?_eq_getElem (by omega)⟩
      obtain ⟨r', hr', hqr⟩ := paired_at hP hqa
      obtain rfl : r' = r := Option.some.inj (hr'.symm.trans hr1)
      have lr := sz3 r' (List.mem_of_getElem? hr1)
      have hqi : atI (qs.map V.ref) ((i : Nat) : Int) = some (.ref qa) := atI_nat (by rw [List.getElem?_map, hqa]; rfl)
      refine ⟨.ref b, rfl, .int (i : Nat), rfl, b, qs.map V.ref, (i : Nat), .ref qa, rfl, rfl, sqT_same sm hA, hqi, qa, rfl, ⟨_, sqT_same sm hqr⟩, fun D hD => ?_⟩
      refine lc_tup (xs := rV r') (fun k H2 => Same H' H2 ∧ H2 D = some (.lst ((be zs.length (r'.take k)).map V.int))) ⟨same_upd hD, upd_same⟩ (fun k H2 _ h => sqT_same (sm.trans h.1) hqr) (fun k x H2 hx ⟨sm2, hd⟩ => ?_) (fun H2 ⟨sm2, hd⟩ => ?_)
      · obtain ⟨e, he, rfl⟩ := rV_lt hx
        have sm3 : Same H H2 := sm.trans sm2
        cases e with
        | none =>
          refine ⟨rfl, .non, rfl, rfl, _, rfl, ?_⟩
          refine iteF (iteF ⟨sm2, ?_⟩)
          rw [be_none he]
          exact hd
        | some z =>
          refine ⟨rfl, .int z, rfl, rfl, _, rfl, ?_⟩
          refine iteT ⟨.int z, rfl, 0, z, rfl, rfl, _, rfl, ?_⟩
          have push : ¬ (0 ≤ z ∧ z < (zs.length : Nat)) → ∃ acc, H2 D = some (.lst acc) ∧ acc.length < sizeLine ∧ Same H' (upd H2 D (.lst (acc ++ [.int z]))) ∧ (upd H2 D (.lst (acc ++ [.int z]))) D = some (.lst ((be zs.length (r'.take (k + 1))).map V.int)) := fun hz => by
            refine ⟨_, hd, ?_, same_of sm2 hD, ?_⟩
            · rw [List.length_map]
              have h1 := be_len zs.length (r'.take k)
              rw [List.length_take] at h1
              exact small1000 (by omega)
            · rw [be_out he hz, List.map_append]
              exact upd_same
          by_cases d1 : (0 : Int) ≤ z
          · rw [decide_eq_true d1]
            refine iteT ⟨.ref a, rfl, a, zs.map V.int, rfl, .inr (sqT_same sm3 ha), z, _, rfl, rfl, _, rfl, ?_⟩
            rw [List.length_map]
            by_cases d2 : z < (zs.length : Nat)
            · rw [decide_eq_true d2]
              refine iteF ⟨sm2, ?_⟩
              rw [be_in he ⟨d1, d2⟩]
              exact hd
            · rw [decide_eq_false d2]
              obtain ⟨acc, g1, g2, g3, g4⟩ := push fun w => d2 w.2
              exact iteT ⟨.int z, rfl, acc, g1, g2, g3, g4⟩
          · rw [decide_eq_false d1]
            obtain ⟨acc, g1, g2, g3, g4⟩ := push fun w => d1 w.1
            exact iteF ⟨false, rfl, iteT ⟨.int z, rfl, acc, g1, g2, g3, g4⟩⟩
      · rw [rV_len, List.take_length] at hd
        have sm3 : Same H H2 := sm.trans sm2
        have bl := be_len zs.length r'
        refine ⟨.ref D, rfl, (by show 0 ≤ sizeLine; decide), fun t ht => ?_⟩
        have tD : D ≠ t := ne_of_none hd ht
        have sm4 : Same H (upd H2 t (.lst [])) := same_of sm3 (Same.free sm3 ht)
        refine neI_go (a := be zs.length r') (b := []) (.inl (.inl (by rw [upd_ne tD]; exact hd))) (.inl (.inl upd_same)) ⟨_, rfl, ?_⟩
        have bad_now : okR zs.length r' = false → bad zs rs = some (("routes" : Str), ((i : Nat) : Int)) := fun hf => bad_r bS (by
          rw [eb2, fst_some (i := i) (x := r') hok2 hr1 hf]
          rfl)
        by_cases hbe : be zs.length r' = []
        · rw [decide_eq_true hbe]
          refine iteF ⟨.ref b, rfl, .int (i : Nat), rfl, b, qs.map V.ref, (i : Nat), .ref qa, rfl, rfl, sqT_same sm4 hA, hqi, qa, rV r', rfl, .inr (sqT_same sm4 hqr), 1, _, rfl, rfl, _, rfl, ?_⟩
          rw [rV_len]
          by_cases d1 : (1 : Int) ≤ (r'.length : Nat)
          · rw [decide_eq_true d1]
            refine iteT ⟨_, _, rfl, rfl, _, rfl, ?_⟩
            by_cases d2 : ((r'.length : Nat) : Int) ≤ 6
            · rw [decide_eq_true d2]
              refine iteF ⟨⟨_, _, rfl⟩, sm4, fun j z' hj hz' => ?_⟩
              by_cases hji : j = i
              · rw [hji, hr1] at hz'
                rw [← Option.some.inj hz']
                exact okR_iff.mpr ⟨⟨by omega, by omega⟩, hbe⟩
              · exact hok2 j z' (by omega) hz'
            · rw [decide_eq_false d2]
              refine iteT ⟨.int (i : Nat), rfl, fin (bad_now ?_) sm4⟩
              exact Bool.eq_false_iff.mpr fun w => d2 (by have := (okR_iff.mp w).1; omega)
          · rw [decide_eq_false d1]
            refine iteF ⟨false, rfl, iteT ⟨.int (i : Nat), rfl, fin (bad_now ?_) sm4⟩⟩
            exact Bool.eq_false_iff.mpr fun w => d1 (by have := (okR_iff.mp w).1; omega)
        · rw [decide_eq_false hbe]
          refine iteT ⟨.int (i : Nat), rfl, fin (bad_now ?_) sm4⟩
          exact Bool.eq_false_iff.mpr fun w => hbe (okR_iff.mp w).2
    rw [Int.toNat_natCast] at hok2
    refine q1 (bad_n bS ?_) H' sm
    rw [eb2, fst_none fun j z hz' => hok2 j z (List.getElem?_eq_some_iff.mp hz').1 hz']
    rfl
end
end Sv


set_option maxHeartbeats 8000000
namespace Sv
open PySem PySem.Spec PyProof.Rows L2
section
variable {P : Program} {w : World} {K : PySem.W.Frag} {mg : Str → Option Value} {base : Heap}
def nMe : List Str := ["_law_plan_here", "_law_number", "_law_found", "_law_carrier", "_law_shelf"]
theorem scMeetings : FnScope nMe ["_law_plan_here", "_law_number"] (defScope sMeetings) := ⟨rfl, rfl, rfl, by decide +kernel, rfl, by decide +kernel, by decide +kernel⟩
def spMeetings (K : PySem.W.Frag) : Sp := fun vs H Q _ => ∃ (p : Addr) (zs : List Int) (rs : List Ro) (n : Int), vs = [.ref p, .int n] ∧ PlanAt K H p zs rs ∧ rs.length ≤ 1000 ∧ (∀ r ∈ rs, r ≠ [] ∧ r.length ≤ 1000) ∧ NewTL H (meets rs (n - 1)) Q
theorem ok_meetings {f : Addr} {fd : FuncData} (F : Df K mg "_law_meetings" sMeetings ["_law_plan_here", "_law_number"] f fd) (B : Bt mg) : FnOk P w K mg base CX0 1 f fd ["_law_plan_here", "_law_number"] (spMeetings K) := by
  refine F.F.ok scMeetings (fun vs H Q E h => ?_) (fun cdv A outer s H vs Q E hr h => ?_)
  · obtain ⟨p, zs, rs, n, rfl, _⟩ := h
    rfl
  · obtain ⟨p, zs, rs, n, rfl, hp, hl, hrs, q⟩ := h
    obtain ⟨a, b, hp1, ha, hb⟩ := hp.ex
    obtain ⟨qs, hA, hP⟩ := hb.ex
    have hql := paired_len hP
    refine ⟨_, pss_cons (ps_set (i := 2) scMeetings.nd rfl (Or.inl rfl) (pe_lst pa_nil))
      (pss_cons (ps_for PassesOwn.never rfl (pi_range1 (by rfl) B.range (pa_cons (pe_callB call_len_seq (by rfl) B.len b_len (pa_cons (pe_ix ix_tup (pv 0) pe_int (fun _ _ => rfl)) pa_nil)) pa_nil)) (pg_name (i := 3) scMeetings.nd rfl (.inl rfl))
        (pss_cons (ps_set (i := 4) scMeetings.nd rfl (Or.inl rfl) (pe_ix ix_tup (pe_ix ix_tup (pe_ix ix_tup (pv 0) pe_int (fun _ _ => rfl)) (pv 3) (fun _ _ => rfl)) (pe_op op_mod (pe_op op_sub (pv 1) pe_int) (pe_callB call_len_seq (by rfl) B.len b_len (pa_cons (pe_ix ix_tup (pe_ix ix_tup (pv 0) pe_int (fun _ _ => rfl)) (pv 3) (fun _ _ => rfl)) pa_nil))) (fun _ _ => rfl)))
        (pss_one (ps_if (pt_cmpR op_notN (pv 4) pe_non (nomark _)) (pss_one (ps_expr (pe_bm PySem.F.plainAttrs_list PySem.F.slot_list_append PySem.F.type_list_append mt_append (pv 2) (pa_cons (pe_tup (pa_cons (pv 3) (pa_cons (pv 4) pa_nil))) pa_nil)))) pss_nil))))
      (pss_one (ps_ret (pv 2)))), ?_⟩
    refine ⟨Nat.zero_le _, fun f hf => ?_⟩
    have sm0 : Same H (upd H f (.lst [])) := same_upd hf
    refine ⟨.ref p, rfl, p, _, 1, .ref b, rfl, rfl, sqT_same sm0 hp1, rfl, b, _, rfl, .inr (sqT_same sm0 hA), _, rfl, by omega, by rw [List.length_map, hql]; omega, ?_⟩
    rw [List.length_map, hql]
    refine for_range (lo := 0) (n := ((rs.length : Nat) : Int).toNat) (fun i σ H' => (∃ y3 y4, σ = [some (.ref p), some (.int n), some (.ref f), y3, y4]) ∧ Same H H' ∧ TL H' f (meetN rs (n - 1) i)) ⟨⟨none, none, rfl⟩, sm0, [], upd_same, .nil⟩
      (fun i σ H' hi ⟨⟨y3, y4, es⟩, sm, tl⟩ => ?_) (fun σ H' ⟨⟨y3, y4, es⟩, sm, tl⟩ => ?_)
    · subst es
      rw [Int.toNat_natCast] at hi
      have ei : (0 : Int) + (i : Nat) = (i : Nat) := by omega
      rw [ei]
      obtain ⟨qa, hqa⟩ : ∃ q, qs[i]? = some q := ⟨qs[i]'(by omega), List.getElem?_eq_getElem (by omega)⟩
      obtain ⟨r, hr1, hqr⟩ := paired_at hP hqa
      obtain ⟨rne, rl⟩ := hrs r (List.mem_of_getElem? hr1)
      obtain ⟨eg, em⟩ := ent_get rne (n - 1)
      have hrl : 0 < r.length := List.length_pos_iff.mpr rne
      obtain ⟨ps, hff, htv⟩ := tl.ex
      have pl : ps.length ≤ i := by rw [tupsV_len htv]; exact meetN_len _ _ _
      have hqi : atI (qs.map V.ref) ((i : Nat) : Int) = some (.ref qa) := atI_nat (by rw [List.getElem?_map, hqa]; rfl)
      have eg2 : (rV r)[((n - 1) % (r.length : Int)).toNat]? = some (eV (ent r (n - 1))) := rV_get eg
      have hmod : (n - 1) % (((rV r).length : Nat) : Int) = (((n - 1) % (r.length : Int)).toNat : Nat) := by rw [rV_len]; exact em
      have hpos : (0 : Int) < (((rV r).length : Nat) : Int) := by rw [rV_len]; omega
      have k1 := sqT_same sm hp1
      have k2 := sqT_same sm hA
      have k3 := sqT_same sm hqr
      refine ⟨.ref p, rfl, p, _, 1, .ref b, rfl, rfl, k1, rfl, .int (i : Nat), rfl, b, _, (i : Nat), .ref qa, rfl, rfl, k2, hqi, .int n, rfl, n, 1, rfl, rfl, ?_⟩
      refine ⟨.ref p, rfl, p, _, 1, .ref b, rfl, rfl, k1, rfl, .int (i : Nat), rfl, b, _, (i : Nat), .ref qa, rfl, rfl, k2, hqi, qa, rV r, rfl, .inr k3, n - 1, _, rfl, rfl, hpos, qa, rV r, _, eV (ent r (n - 1)), rfl, rfl, k3, ?_, ?_⟩
      · show atI (rV r) ((n - 1) % (((rV r).length : Nat) : Int)) = _
        rw [hmod]
        exact atI_nat eg2
      cases he : ent r (n - 1) with
      | none =>
        refine ⟨.non, rfl, rfl, false, rfl, iteF ⟨⟨_, _, rfl⟩, sm, ?_⟩⟩
        rw [meetN_none hr1 he]
        exact tl
      | some z =>
        refine ⟨.int z, rfl, rfl, true, rfl, iteT ⟨.ref f, rfl, .inl ⟨rfl, _, .inl (.inl hff)⟩, .int (i : Nat), rfl, .int z, rfl, (by show 2 ≤ sizeLine; decide), fun t ht => ?_⟩⟩
        have fp : f ≠ t := ne_of_none hff ht
        have hf2 : (upd H' t (.tup [.int (i : Nat), .int z])) f = some (.lst (ps.map V.ref)) := by rw [upd_ne fp]; exact hff
        refine ⟨f, _, _, rfl, rfl, hf2, ?_, ⟨_, _, rfl⟩, same_of (same_of sm (Same.free sm ht)) hf, ?_⟩
        · rw [List.length_map]
          exact small1000 (by omega)
        · rw [meetN_some hr1 he]
          exact (tl.same (same_upd ht)).push hf2 upd_same
    · subst es
      rw [Int.toNat_natCast] at tl
      exact ⟨.ref f, rfl, q _ _ sm hf tl⟩
end
/-! ### pieces of tuples -/
@[irreducible] def qRep (K : PySem.W.Frag) : R2 := rRepT K
theorem op_repQ {X : Cx} : OpR X (binaryOp .Mult) (qRep X.K) := by
  unfold qRep
  exact op_repT
theorem rep_go {K : PySem.W.Frag} {H : Hp} {a : Addr} {xs : List V} {k : Int} {Q : VK} (hA : SqT K H a xs) (h0 : xs ≠ []) (h1 : 2 ≤ k) (h2 : k ≤ 1000) (hl : xs.length ≤ 1000) (q : ∀ H' p, Same H H' → SqT K H' p (List.replicate k.toNat xs).flatten → Q (.ref p) H') : qRep K (.ref a) (.int k) H Q := by
  unfold qRep
  exact ⟨a, k, xs, rfl, rfl, hA, h0, h1, h2, hl, fun p hp => q _ p (same_upd hp) (.inl (.inl upd_same))⟩
theorem cut_ex (n : Nat) (lo hi : Option Int) : ∃ a b : Nat, ∀ xs : List V, xs.length = n → cutV xs lo hi = (xs.drop a).take b := ⟨_, _, fun xs h => by unfold cutV; rw [h]⟩
theorem flat_map {α β : Type} (f : α → β) (k : Nat) (l : List α) : (List.replicate k (l.map f)).flatten = ((List.replicate k l).flatten).map f := by
  induction k with
  | zero => rfl
  | succ k ih => rw [List.replicate_succ, List.replicate_succ, List.flatten_cons, List.flatten_cons, ih, List.map_append]
theorem flat_len {α : Type} (k : Nat) (l : List α) : (List.replicate k l).flatten.length = k * l.length := by
  induction k with
  | zero => simp
  | succ k ih => rw [List.replicate_succ, List.flatten_cons, List.length_append, ih, Nat.succ_mul]; omega
theorem flat_mem {α : Type} {k : Nat} {l : List α} {x : α} (h : x ∈ (List.replicate k l).flatten) : x ∈ l := by
  obtain ⟨y, hy, hx⟩ := List.mem_flatten.mp h
  rw [(List.mem_replicate.mp hy).2] at hx
  exact hx
section
variable {K : PySem.W.Frag} {H : Hp}
theorem paired_app : ∀ {qs qs2 : List Addr} {rs rs2 : List Ro}, Paired (fun q r => SqT K H q (rV r)) qs rs → Paired (fun q r => SqT K H q (rV r)) qs2 rs2 → Paired (fun q r => SqT K H q (rV r)) (qs ++ qs2) (rs ++ rs2)
  | _, _, _, _, .nil, h => h
  | _, _, _, _, .cons h t, h2 => .cons h (paired_app t h2)
theorem paired_take : ∀ {qs : List Addr} {rs : List Ro} (k : Nat), Paired (fun q r => SqT K H q (rV r)) qs rs → Paired (fun q r => SqT K H q (rV r)) (qs.take k) (rs.take k)
  | _, _, _, .nil => by simp only [List.take_nil]; exact .nil
  | _, _, 0, .cons h t => .nil
  | _, _, k + 1, .cons h t => .cons h (paired_take k t)
theorem paired_drop : ∀ {qs : List Addr} {rs : List Ro} (k : Nat), Paired (fun q r => SqT K H q (rV r)) qs rs → Paired (fun q r => SqT K H q (rV r)) (qs.drop k) (rs.drop k)
  | _, _, _, .nil => by simp only [List.drop_nil]; exact .nil
  | _, _, 0, .cons h t => .cons h t
  | _, _, k + 1, .cons h t => paired_drop k t
theorem paired_rep {qs : List Addr} {rs : List Ro} (h : Paired (fun q r => SqT K H q (rV r)) qs rs) : ∀ k : Nat, Paired (fun q r => SqT K H q (rV r)) (List.replicate k qs).flatten (List.replicate k rs).flatten
  | 0 => .nil
  | k + 1 => by
    rw [List.replicate_succ, List.replicate_succ, List.flatten_cons, List.flatten_cons]
    exact paired_app h (paired_rep h k)
end
end Sv


set_option maxHeartbeats 8000000
namespace Sv
open PySem PySem.Spec PyProof.Rows L2
section
variable {P : Program} {w : World} {K : PySem.W.Frag} {mg : Str → Option Value} {base : Heap}
/-- the parts of a plan -/
structure Pk (K : PySem.W.Frag) (H : Hp) (a b : Addr) (zs : List Int) (qs : List Addr) (rs : List Ro) : Prop where
  a : SqT K H a (zs.map V.int)
  b : SqT K H b (qs.map V.ref)
  p : Paired (fun q r => SqT K H q (rV r)) qs rs
theorem Pk.same {H H' : Hp} {a b : Addr} {zs : List Int} {qs : List Addr} {rs : List Ro} (x : Pk K H a b zs qs rs) (e : Same H H') : Pk K H' a b zs qs rs := ⟨sqT_same e x.a, sqT_same e x.b, paired_same e x.p⟩
theorem Pk.x {H H' : Hp} {h l a b : Addr} {zs : List Int} {qs : List Addr} {rs : List Ro} (x : Pk K H a b zs qs rs) (L : LawH H h l) (e : SameX h l H H') : Pk K H' a b zs qs rs := ⟨sqT_x L e x.a, sqT_x L e x.b, paired_x L e x.p⟩
theorem sl_goI {α : Type} {f : α → V} {H : Hp} {a : Addr} {l : List α} {lo hi : Option Int} {Q : VK} (hA : SqT K H a (l.map f)) (q : ∀ H' p x y, Same H H' → SqT K H' p (((l.drop x).take y).map f) → Q (.ref p) H') : qSl K (.ref a) lo hi H Q := by
  obtain ⟨x, y, e⟩ := cut_ex l.length lo hi
  refine sl_go hA fun H' p sm hp => q H' p x y sm ?_
  rw [e _ (List.length_map _), ← List.map_drop, ← List.map_take] at hp
  exact hp
def nSpo : List Str := ["_law_h", "_law_plan_here", "_law_sizes", "_law_routes", "_law_k", "_law_j", "_law_kind", "_law_odd", "_law_entry", "_law_route"]
theorem scSpoilt : FnScope nSpo ["_law_h", "_law_plan_here"] (defScope sSpoilt) := ⟨rfl, rfl, rfl, by decide +kernel, rfl, by decide +kernel, by decide +kernel⟩
def spSpoilt (K : PySem.W.Frag) : Sp := fun vs H Q _ => ∃ (h l p : Addr) (zs : List Int) (rs : List Ro), vs = [.ref h, .ref p] ∧ LawH H h l ∧ PlanAt K H p zs rs ∧ Good2 zs rs ∧ ∀ H' p' zs' rs', St h l H H' → PlanAt K H' p' zs' rs' → Small zs' rs' → Q (.ref p') H'
theorem ok_spoilt {f fN : Addr} {fd dN : FuncData} (F : Df K mg "_law_spoilt" sSpoilt ["_law_h", "_law_plan_here"] f fd) (FN : Df K mg "_law_next" sNext ["_law_h", "_law_limit"] fN dN) (B : Bt mg) : FnOk P w K mg base CX0 2 f fd ["_law_h", "_law_plan_here"] (spSpoilt K) := by
  have GN : FnOk P w K mg base CX0 1 fN dN ["_law_h", "_law_limit"] qNext := by unfold qNext; exact ok_next FN.F B
  refine F.F.ok scSpoilt (fun vs H Q E h => ?_) (fun cdv A outer s H vs Q E hr h => ?_)
  · obtain ⟨h, l, p, zs, rs, rfl, _⟩ := h
    rfl
  · obtain ⟨h, l, p, zs, rs, rfl, LH, hp, gd, q⟩ := h
    obtain ⟨a, b, hp1, ha, hb⟩ := hp.ex
    obtain ⟨qs, hA, hP⟩ := hb.ex
    have hql := paired_len hP
    refine ⟨_, pss_cons (ps_asg (pv 1) (pg_tup rfl (pgs_cons (pg_name (i := 2) scSpoilt.nd rfl (.inl rfl)) (pgs_cons (pg_name (i := 3) scSpoilt.nd rfl (.inl rfl)) pgs_nil))))
      (pss_cons (ps_par3 (i := 4) (j := 5) (l := 6) rfl scSpoilt.nd rfl rfl rfl (by decide) (by decide) (by decide) rfl rfl rfl (pa_cons (pe_call (E := E0) GN hr (by rfl) FN.g FN.F.kp FN.b .nil pass0 (pa_cons (pv 0) (pa_cons (pe_callB call_len_seq (by rfl) B.len b_len (pa_cons (pv 2) pa_nil)) pa_nil)))
          (pa_cons (pe_call (E := E0) GN hr (by rfl) FN.g FN.F.kp FN.b .nil pass0 (pa_cons (pv 0) (pa_cons (pe_callB call_len_seq (by rfl) B.len b_len (pa_cons (pv 3) pa_nil)) pa_nil)))
          (pa_cons (pe_call (E := E0) GN hr (by rfl) FN.g FN.F.kp FN.b .nil pass0 (pa_cons (pv 0) (pa_cons pe_int pa_nil))) pa_nil))) (by rfl))
      (pss_cons (ps_set (i := 7) scSpoilt.nd rfl (Or.inl rfl) (pe_ix ix_list (pe_lst (pa_cons (pe_un un_neg pe_int) (pa_cons pe_int (pa_cons pe_int (pa_cons pe_int pa_nil))))) (pe_call (E := E0) GN hr (by rfl) FN.g FN.F.kp FN.b .nil pass0 (pa_cons (pv 0) (pa_cons pe_int pa_nil))) (fun _ _ => rfl)))
      (pss_cons (ps_if (pt_cmpR op_eq (pv 6) pe_int (nomark _)) (pss_one (ps_ret (pe_tup (pa_cons (pe_op op_catQ (pe_op op_catQ (pe_slice sl_tupQ (pv 2) po_none (po_some (pv 4))) (pe_tup (pa_cons (pv 7) pa_nil))) (pe_slice sl_tupQ (pv 2) (po_some (pe_op op_add (pv 4) pe_int)) po_none)) (pa_cons (pv 3) pa_nil))))) pss_nil)
      (pss_cons (ps_if (pt_cmpR op_eq (pv 6) pe_int (nomark _)) (pss_one (ps_ret (pe_ifExp (pt_cmpR op_gt (pe_callB call_len_seq (by rfl) B.len b_len (pa_cons (pv 2) pa_nil)) pe_int (nomark _))
          (pe_tup (pa_cons (pe_ix ix_list (pe_lst (pa_cons (pe_tup pa_nil) (pa_cons (pe_op op_repQ (pv 2) pe_int) pa_nil))) (pe_call (E := E0) GN hr (by rfl) FN.g FN.F.kp FN.b .nil pass0 (pa_cons (pv 0) (pa_cons pe_int pa_nil))) (fun _ _ => rfl)) (pa_cons (pv 3) pa_nil)))
          (pe_tup (pa_cons (pe_op op_repQ (pv 2) pe_int) (pa_cons (pv 3) pa_nil)))))) pss_nil)
      (pss_cons (ps_if (pt_cmpR op_eq (pv 6) pe_int (nomark _)) (pss_one (ps_ret (pe_tup (pa_cons (pv 2) (pa_cons (pe_ix ix_list (pe_lst (pa_cons (pe_tup pa_nil) (pa_cons (pe_op op_repQ (pv 3) pe_int) (pa_cons (pe_op op_repQ (pv 3) pe_int) pa_nil)))) (pe_call (E := E0) GN hr (by rfl) FN.g FN.F.kp FN.b .nil pass0 (pa_cons (pv 0) (pa_cons pe_int pa_nil))) (fun _ _ => rfl)) pa_nil))))) pss_nil)
      (pss_cons (ps_set (i := 8) scSpoilt.nd rfl (Or.inl rfl) (pe_ix ix_list (pe_lst (pa_cons (pe_un un_neg pe_int) (pa_cons (pe_callB call_len_seq (by rfl) B.len b_len (pa_cons (pv 2) pa_nil)) (pa_cons pe_non (pa_cons (pe_op op_sub (pe_callB call_len_seq (by rfl) B.len b_len (pa_cons (pv 2) pa_nil)) pe_int) pa_nil))))) (pe_call (E := E0) GN hr (by rfl) FN.g FN.F.kp FN.b .nil pass0 (pa_cons (pv 0) (pa_cons pe_int pa_nil))) (fun _ _ => rfl)))
      (pss_cons (ps_set (i := 9) scSpoilt.nd rfl (Or.inl rfl) (pe_ix ix_list (pe_lst (pa_cons (pe_tup pa_nil) (pa_cons (pe_op op_repQ (pe_ix ix_tup (pv 3) (pv 5) (fun _ _ => rfl)) pe_int) (pa_cons (pe_op op_catQ (pe_slice sl_tupQ (pe_ix ix_tup (pv 3) (pv 5) (fun _ _ => rfl)) po_none (po_some (pe_un un_neg pe_int))) (pe_tup (pa_cons (pv 8) pa_nil)))
          (pa_cons (pe_op op_catQ (pe_tup (pa_cons (pv 8) pa_nil)) (pe_ix ix_tup (pv 3) (pv 5) (fun _ _ => rfl))) pa_nil))))) (pe_call (E := E0) GN hr (by rfl) FN.g FN.F.kp FN.b .nil pass0 (pa_cons (pv 0) (pa_cons pe_int pa_nil))) (fun _ _ => rfl)))
      (pss_one (ps_ret (pe_tup (pa_cons (pv 2) (pa_cons (pe_op op_catQ (pe_op op_catQ (pe_slice sl_tupQ (pv 3) po_none (po_some (pv 5))) (pe_tup (pa_cons (pv 9) pa_nil))) (pe_slice sl_tupQ (pv 3) (po_some (pe_op op_add (pv 5) pe_int)) po_none)) pa_nil)))))))))))), ?_⟩
    have K0 : Pk K H a b zs qs rs := ⟨ha, hA, hP⟩
    refine ⟨.ref p, rfl, p, _, rfl, hp1, rfl, _, _, rfl, _, _, rfl, rfl, ?_⟩
    refine ⟨.ref h, rfl, .ref a, rfl, a, _, rfl, .inr K0.a, ?_⟩
    rw [List.length_map]
    have p64 : (1000 : Int) < 2 ^ 64 := by decide
    obtain ⟨⟨z1, z12⟩, _, ⟨r1, r6⟩, gr⟩ := gd
    show qNext _ _ _ _
    refine go_next LH (by omega) (by omega) fun n1 H1 hn1 L1 x1 => ?_
    have S1 := (St.refl LH).next L1 x1
    have K1 := K0.x LH x1
    refine ⟨.ref h, rfl, .ref b, rfl, b, _, rfl, .inr K1.b, ?_⟩
    rw [List.length_map, hql]
    show qNext _ _ _ _
    refine go_next L1 (by omega) (by omega) fun n2 H2 hn2 L2' x2 => ?_
    have S2 := S1.next L2' x2
    have K2 := K1.x L1 x2
    refine ⟨.ref h, rfl, ?_⟩
    show qNext _ _ _ _
    refine go_next L2' (by decide) (by decide) fun kd H3 hkd L3 x3 => ?_
    have S3 := S2.next L3 x3
    have K3 := K2.x L2' x3
    refine ⟨_, _, _, rfl, ?_⟩
    refine ⟨1, rfl, (by show 4 ≤ sizeLine; decide), fun D hD => ⟨.ref h, rfl, ?_⟩⟩
    obtain ⟨Dh, Dl⟩ := L3.nh hD
    have S4 := S3.same (same_upd (o := .lst [.int (-1), .int 10, .int 9, .int 99]) hD)
    have K4 := K3.same (same_upd (o := .lst [.int (-1), .int 10, .int 9, .int 99]) hD)
    have kD : (upd H3 D (.lst [.int (-1), .int 10, .int 9, .int 99])) D = some (.lst [.int (-1), .int 10, .int 9, .int 99]) := upd_same
    generalize (upd H3 D (.lst [.int (-1), .int 10, .int 9, .int 99])) = H4 at S4 K4 kD ⊢
    show qNext _ _ _ _
    refine go_next S4.law (by decide) (by decide) fun n4 H5 hn4 L5 x5 => ?_
    have S5 := S4.next L5 x5
    have K5 := K4.x S4.law x5
    have kD5 := x5 _ _ Dh Dl kD
    obtain ⟨o, hat⟩ : ∃ o : Int, atI [V.int (-1), V.int 10, V.int 9, V.int 99] (n4 : Nat) = some (.int o) := by
      have : n4 = 0 ∨ n4 = 1 ∨ n4 = 2 ∨ n4 = 3 := by omega
      rcases this with rfl | rfl | rfl | rfl
      · exact ⟨-1, rfl⟩
      · exact ⟨10, rfl⟩
      · exact ⟨9, rfl⟩
      · exact ⟨99, rfl⟩
    refine ⟨D, _, _, _, rfl, rfl, .inl (.inl kD5), hat, ?_⟩
    have e1 : (1 : Int) + 0 = 1 := rfl
    have fin : ∀ {H' : Hp} {x y : Addr} {zs' : List Int} {rs' : List Ro}, St h l H H' → SqT K H' x (zs'.map V.int) → RtAt K H' y rs' → Small zs' rs' → (2 ≤ sizeLine ∧ ∀ p, H' p = none → Q (.ref p) (upd H' p (.tup [.ref x, .ref y]))) := fun S hx hy sm => ⟨by decide, fun p hp => q _ p _ _ (S.same (same_upd hp)) ⟨_, _, .inl (.inl upd_same), sqT_same (same_upd hp) hx, hy.same (same_upd hp)⟩ sm⟩
    have b1000 : ∀ r ∈ rs, r.length ≤ 1000 := fun r hr => by have := gr r hr; omega
    -- one size is odd
    refine ⟨.int kd, rfl, rfl, _, rfl, ?_⟩
    by_cases d0 : kd = 0
    · rw [decide_eq_true (by rw [d0]; rfl)]
      refine iteT ⟨.ref a, rfl, .int (n1 : Nat), rfl, n1, rfl, sl_goI K5.a fun H6 t1 u1 v1 s6 h6 => ?_⟩
      refine ⟨.int o, rfl, (by show 1 ≤ sizeLine; decide), fun t2 ht2 => ?_⟩
      have s7 : Same H6 (upd H6 t2 (.tup [.int o])) := same_upd ht2
      have h7 : SqT K (upd H6 t2 (.tup [.int o])) t2 ([o].map V.int) := .inl (.inl upd_same)
      generalize (upd H6 t2 (.tup [.int o])) = H7 at s7 h7 ⊢
      refine cat_go (sqT_same s7 h6) h7 ?_ fun H8 t3 s8 h8 => ?_
      · rw [List.length_map, List.length_take, List.length_drop]
        show _ + 1 ≤ 1000
        omega
      have s58 := (s6.trans s7).trans s8
      refine ⟨.ref a, rfl, .int (n1 : Nat), rfl, n1, 1, rfl, rfl, (n1 : Int) + 1, rfl, sl_goI (K5.same s58).a fun H9 t4 u2 v2 s9 h9 => ?_⟩
      refine cat_go (sqT_same s9 h8) h9 ?_ fun H10 t5 s10 h10 => ?_
      · rw [List.length_append, List.length_map, List.length_map, List.length_map, List.length_take, List.length_drop, List.length_take, List.length_drop]
        show _ + 1 + _ ≤ 1000
        omega
      have s5a := (s58.trans s9).trans s10
      rw [← List.map_append, ← List.map_append] at h10
      refine ⟨.ref b, rfl, fin (S5.same s5a) h10 ⟨qs, (K5.same s5a).b, (K5.same s5a).p⟩ ⟨?_, by omega, b1000⟩⟩
      rw [List.length_append, List.length_append, List.length_take, List.length_drop, List.length_take, List.length_drop]
      show _ + 1 + _ ≤ 1000
      omega
    rw [decide_eq_false fun z => d0 (by have := V.int.inj z; omega)]
    refine iteF ?_
    -- too few or too many sizes
    refine ⟨.int kd, rfl, rfl, _, rfl, ?_⟩
    have zne : zs.map V.int ≠ [] := fun z => by have := congrArg List.length z; rw [List.length_map] at this; simp at this; rw [this] at z1; simp at z1
    by_cases d1 : kd = 1
    · rw [decide_eq_true (by rw [d1]; rfl)]
      refine iteT ?_
      refine ⟨.ref a, rfl, a, _, rfl, .inr K5.a, _, _, rfl, rfl, _, rfl, ?_⟩
      rw [List.length_map]
      by_cases c : (1 : Int) < (zs.length : Nat)
      · rw [decide_eq_true c]
        refine iteT ⟨(by show 0 ≤ sizeLine; decide), fun t1 ht1 => ?_⟩
        have S6 := S5.same (same_upd (o := .tup []) ht1)
        have K6 := K5.same (same_upd (o := .tup []) ht1)
        have k1 : SqT K (upd H5 t1 (.tup [])) t1 (([] : List Int).map V.int) := .inl (.inl upd_same)
        generalize (upd H5 t1 (.tup [])) = H6 at S6 K6 k1 ⊢
        refine ⟨.ref a, rfl, rep_go K6.a zne (by decide) (by decide) (by rw [List.length_map]; omega) fun H7 t2 s7 h7 => ?_⟩
        rw [flat_map] at h7
        refine ⟨(by show 2 ≤ sizeLine; decide), fun D2 hD2 => ⟨.ref h, rfl, ?_⟩⟩
        have S7 := S6.same s7
        obtain ⟨Eh, El⟩ := S7.law.nh hD2
        have s8 := same_upd (o := .lst [.ref t1, .ref t2]) hD2
        have S8 := S7.same s8
        have kE : (upd H7 D2 (.lst [.ref t1, .ref t2])) D2 = some (.lst [.ref t1, .ref t2]) := upd_same
        generalize (upd H7 D2 (.lst [.ref t1, .ref t2])) = H8 at s8 S8 kE ⊢
        have K8 := (K6.same s7).same s8
        have k18 := sqT_same s8 (sqT_same s7 k1)
        have k28 := sqT_same s8 h7
        show qNext _ _ _ _
        refine go_next S8.law (by decide) (by decide) fun n5 H9 hn5 L9 x9 => ?_
        have S9 := S8.next L9 x9
        have K9 := K8.x S8.law x9
        have kE9 := x9 _ _ Eh El kE
        have : n5 = 0 ∨ n5 = 1 := by omega
        rcases this with rfl | rfl
        · refine ⟨D2, _, _, .ref t1, rfl, rfl, .inl (.inl kE9), rfl, .ref b, rfl, fin S9 (sqT_x S8.law x9 k18) ⟨qs, K9.b, K9.p⟩ ⟨by simp, by omega, b1000⟩⟩
        · refine ⟨D2, _, _, .ref t2, rfl, rfl, .inl (.inl kE9), rfl, .ref b, rfl, fin S9 (sqT_x S8.law x9 k28) ⟨qs, K9.b, K9.p⟩ ⟨?_, by omega, b1000⟩⟩
          rw [flat_len]
          have : (7 : Int).toNat = 7 := rfl
          rw [this]
          omega
      · rw [decide_eq_false c]
        refine iteF ⟨.ref a, rfl, rep_go K5.a zne (by decide) (by decide) (by rw [List.length_map]; omega) fun H7 t2 s7 h7 => ?_⟩
        rw [flat_map] at h7
        refine ⟨.ref b, rfl, fin (S5.same s7) h7 ⟨qs, (K5.same s7).b, (K5.same s7).p⟩ ⟨?_, by omega, b1000⟩⟩
        rw [flat_len]
        have : (13 : Int).toNat = 13 := rfl
        rw [this]
        omega
    rw [decide_eq_false fun z => d1 (by have := V.int.inj z; omega)]
    refine iteF ?_
    -- too few or too many routes
    refine ⟨.int kd, rfl, rfl, _, rfl, ?_⟩
    have qne : qs.map V.ref ≠ [] := fun z => by have := congrArg List.length z; rw [List.length_map, hql] at this; simp at this; rw [this] at r1; simp at r1
    by_cases d2 : kd = 2
    · rw [decide_eq_true (by rw [d2]; rfl)]
      refine iteT ⟨.ref a, rfl, (by show 0 ≤ sizeLine; decide), fun t1 ht1 => ?_⟩
      have S6 := S5.same (same_upd (o := .tup []) ht1)
      have K6 := K5.same (same_upd (o := .tup []) ht1)
      have k1 : SqT K (upd H5 t1 (.tup [])) t1 (([] : List Addr).map V.ref) := .inl (.inl upd_same)
      generalize (upd H5 t1 (.tup [])) = H6 at S6 K6 k1 ⊢
      refine ⟨.ref b, rfl, rep_go K6.b qne (by decide) (by decide) (by rw [List.length_map]; omega) fun H7 t2 s7 h7 => ?_⟩
      have K7 := K6.same s7
      refine ⟨.ref b, rfl, rep_go K7.b qne (by decide) (by decide) (by rw [List.length_map]; omega) fun H8 t3 s8 h8 => ?_⟩
      rw [flat_map] at h7 h8
      refine ⟨(by show 3 ≤ sizeLine; decide), fun D2 hD2 => ⟨.ref h, rfl, ?_⟩⟩
      have S8 := (S6.same s7).same s8
      obtain ⟨Eh, El⟩ := S8.law.nh hD2
      have s9 := same_upd (o := .lst [.ref t1, .ref t2, .ref t3]) hD2
      have S9 := S8.same s9
      have kE : (upd H8 D2 (.lst [.ref t1, .ref t2, .ref t3])) D2 = some (.lst [.ref t1, .ref t2, .ref t3]) := upd_same
      generalize (upd H8 D2 (.lst [.ref t1, .ref t2, .ref t3])) = H9 at s9 S9 kE ⊢
      have K9 := (K7.same s8).same s9
      have k19 := sqT_same s9 (sqT_same s8 (sqT_same s7 k1))
      have k29 := sqT_same s9 (sqT_same s8 h7)
      have k39 := sqT_same s9 h8
      show qNext _ _ _ _
      refine go_next S9.law (by decide) (by decide) fun n5 Ha hn5 La xa => ?_
      have Sa := S9.next La xa
      have Ka := K9.x S9.law xa
      have kEa := xa _ _ Eh El kE
      have : n5 = 0 ∨ n5 = 1 ∨ n5 = 2 := by omega
      rcases this with rfl | rfl | rfl
      · refine ⟨D2, _, _, .ref t1, rfl, rfl, .inl (.inl kEa), rfl, fin (rs' := []) Sa Ka.a ⟨[], sqT_x S9.law xa k19, .nil⟩ ⟨by omega, by simp, fun r hr => (List.not_mem_nil hr).elim⟩⟩
      · refine ⟨D2, _, _, .ref t2, rfl, rfl, .inl (.inl kEa), rfl, fin Sa Ka.a ⟨_, sqT_x S9.law xa k29, paired_rep Ka.p 7⟩ ⟨by omega, ?_, fun r hr => b1000 r (flat_mem hr)⟩⟩
        rw [flat_len]
        omega
      · refine ⟨D2, _, _, .ref t3, rfl, rfl, .inl (.inl kEa), rfl, fin Sa Ka.a ⟨_, sqT_x S9.law xa k39, paired_rep Ka.p 2⟩ ⟨by omega, ?_, fun r hr => b1000 r (flat_mem hr)⟩⟩
        rw [flat_len]
        omega
    rw [decide_eq_false fun z => d2 (by have := V.int.inj z; omega)]
    refine iteF ?_
    -- another route
    refine ⟨1, rfl, .ref a, rfl, a, _, rfl, .inr K5.a, .ref a, rfl, a, _, rfl, .inr K5.a, _, 1, rfl, rfl, (by show 4 ≤ sizeLine; decide), fun D2 hD2 => ⟨.ref h, rfl, ?_⟩⟩
    obtain ⟨Eh, El⟩ := S5.law.nh hD2
    have s6 := same_upd (o := .lst [.int (-1), .int ((zs.map V.int).length : Nat), .non, .int (((zs.map V.int).length : Nat) - 1)]) hD2
    have S6 := S5.same s6
    have K6 := K5.same s6
    have kE : (upd H5 D2 (.lst [.int (-1), .int ((zs.map V.int).length : Nat), .non, .int (((zs.map V.int).length : Nat) - 1)])) D2 = some (.lst [.int (-1), .int ((zs.map V.int).length : Nat), .non, .int (((zs.map V.int).length : Nat) - 1)]) := upd_same
    generalize (upd H5 D2 (.lst [.int (-1), .int ((zs.map V.int).length : Nat), .non, .int (((zs.map V.int).length : Nat) - 1)])) = H6 at s6 S6 K6 kE ⊢
    show qNext _ _ _ _
    refine go_next S6.law (by decide) (by decide) fun n5 H7 hn5 L7 x7 => ?_
    have S7 := S6.next L7 x7
    have K7 := K6.x S6.law x7
    have kE7 := x7 _ _ Eh El kE
    obtain ⟨e, hat2⟩ : ∃ e : Option Int, atI [V.int (-1), .int ((zs.map V.int).length : Nat), .non, .int (((zs.map V.int).length : Nat) - 1)] (n5 : Nat) = some (eV e) := by
      have : n5 = 0 ∨ n5 = 1 ∨ n5 = 2 ∨ n5 = 3 := by omega
      rcases this with rfl | rfl | rfl | rfl
      · exact ⟨some (-1), rfl⟩
      · exact ⟨some _, rfl⟩
      · exact ⟨none, rfl⟩
      · exact ⟨some _, rfl⟩
    refine ⟨D2, _, _, _, rfl, rfl, .inl (.inl kE7), hat2, ?_⟩
    obtain ⟨qj, hqj⟩ : ∃ q, qs[n2]? = some q := ⟨qs[n2]'(by omega), List.getElem?_eq_getElem (by omega)⟩
    obtain ⟨r, hr1, _⟩ := paired_at hP hqj
    have hrl := gr r (List.mem_of_getElem? hr1)
    have hqi : atI (qs.map V.ref) ((n2 : Nat) : Int) = some (.ref qj) := atI_nat (by rw [List.getElem?_map, hqj]; rfl)
    have rAt : ∀ {H' : Hp}, Pk K H' a b zs qs rs → SqT K H' qj (rV r) := fun k => by
      obtain ⟨r', h1, h2⟩ := paired_at k.p hqj
      obtain rfl : r' = r := Option.some.inj (h1.symm.trans hr1)
      exact h2
    have rne : rV r ≠ [] := fun z => by have := congrArg List.length z; rw [rV_len] at this; simp at this; rw [this] at hrl; simp at hrl
    -- the four routes
    refine ⟨(by show 0 ≤ sizeLine; decide), fun t1 ht1 => ?_⟩
    have s8 := same_upd (o := .tup []) ht1
    have k1 : SqT K (upd H7 t1 (.tup [])) t1 (rV []) := .inl (.inl upd_same)
    generalize (upd H7 t1 (.tup [])) = H8 at s8 k1 ⊢
    have K8 := K7.same s8
    refine ⟨.ref b, rfl, .int (n2 : Nat), rfl, b, _, (n2 : Nat), .ref qj, rfl, rfl, K8.b, hqi, rep_go (rAt K8) rne (by decide) (by decide) (by rw [rV_len]; omega) fun H9 t2 s9 h9 => ?_⟩
    have K9 := K8.same s9
    refine ⟨.ref b, rfl, .int (n2 : Nat), rfl, b, _, (n2 : Nat), .ref qj, rfl, rfl, K9.b, hqi, 1, rfl, -1, rfl, sl_goI (l := r) (f := eV) (rAt K9) fun Ha ta u1 v1 sa ha' => ?_⟩
    have Ka := K9.same sa
    refine ⟨eV e, rfl, (by show 1 ≤ sizeLine; decide), fun tb htb => ?_⟩
    have sb := same_upd (o := .tup [eV e]) htb
    have kb : SqT K (upd Ha tb (.tup [eV e])) tb ([e].map eV) := .inl (.inl upd_same)
    generalize (upd Ha tb (.tup [eV e])) = Hb at sb kb ⊢
    have Kb := Ka.same sb
    refine cat_go (sqT_same sb ha') kb ?_ fun Hc t3 sc hc => ?_
    · rw [List.length_map, List.length_take, List.length_drop]
      show _ + 1 ≤ 1000
      omega
    have Kc := Kb.same sc
    refine ⟨eV e, rfl, (by show 1 ≤ sizeLine; decide), fun td htd => ?_⟩
    have sd := same_upd (o := .tup [eV e]) htd
    have kd2 : SqT K (upd Hc td (.tup [eV e])) td ([e].map eV) := .inl (.inl upd_same)
    generalize (upd Hc td (.tup [eV e])) = Hd at sd kd2 ⊢
    have Kd := Kc.same sd
    refine ⟨.ref b, rfl, .int (n2 : Nat), rfl, b, _, (n2 : Nat), .ref qj, rfl, rfl, Kd.b, hqi, cat_go kd2 (rAt Kd) ?_ fun He t4 se he => ?_⟩
    · rw [rV_len]
      show 1 + _ ≤ 1000
      omega
    have Ke := Kd.same se
    have k1e : SqT K He t1 (rV []) := sqT_same se (sqT_same sd (sqT_same sc (sqT_same sb (sqT_same sa (sqT_same s9 k1)))))
    have k2e : SqT K He t2 (rV (List.replicate 7 r).flatten) := by
      have := sqT_same se (sqT_same sd (sqT_same sc (sqT_same sb (sqT_same sa h9))))
      have e7 : (7 : Int).toNat = 7 := rfl
      unfold rV at this ⊢
      rw [e7, flat_map] at this
      exact this
    have k3e : SqT K He t3 (rV ((r.drop u1).take v1 ++ [e])) := by
      have := sqT_same se (sqT_same sd hc)
      rw [← List.map_append] at this
      exact this
    have k4e : SqT K He t4 (rV ([e] ++ r)) := by
      unfold rV at he ⊢
      rw [List.map_append]
      exact he
    have S8 := (((((((S7.same s8).same s9).same sa).same sb).same sc).same sd).same se)
    refine ⟨(by show 4 ≤ sizeLine; decide), fun D3 hD3 => ⟨.ref h, rfl, ?_⟩⟩
    obtain ⟨Fh, Fl⟩ := S8.law.nh hD3
    have sf := same_upd (o := .lst [.ref t1, .ref t2, .ref t3, .ref t4]) hD3
    have kF : (upd He D3 (.lst [.ref t1, .ref t2, .ref t3, .ref t4])) D3 = some (.lst [.ref t1, .ref t2, .ref t3, .ref t4]) := upd_same
    generalize (upd He D3 (.lst [.ref t1, .ref t2, .ref t3, .ref t4])) = Hf at sf kF ⊢
    have Sf := S8.same sf
    have Kf := Ke.same sf
    show qNext _ _ _ _
    refine go_next Sf.law (by decide) (by decide) fun n6 Hg hn6 Lg xg => ?_
    have Sg := Sf.next Lg xg
    have Kg := Kf.x Sf.law xg
    have kFg := xg _ _ Fh Fl kF
    obtain ⟨tr, r2, hat3, htr, hr2⟩ : ∃ (tr : Addr) (r2 : Ro), atI [V.ref t1, .ref t2, .ref t3, .ref t4] (n6 : Nat) = some (.ref tr) ∧ SqT K Hg tr (rV r2) ∧ r2.length ≤ 1000 := by
      have : n6 = 0 ∨ n6 = 1 ∨ n6 = 2 ∨ n6 = 3 := by omega
      rcases this with rfl | rfl | rfl | rfl
      · exact ⟨t1, _, rfl, sqT_x Sf.law xg (sqT_same sf k1e), by simp⟩
      · exact ⟨t2, _, rfl, sqT_x Sf.law xg (sqT_same sf k2e), by rw [flat_len]; omega⟩
      · refine ⟨t3, _, rfl, sqT_x Sf.law xg (sqT_same sf k3e), ?_⟩
        rw [List.length_append, List.length_take, List.length_drop]
        show _ + 1 ≤ 1000
        omega
      · refine ⟨t4, _, rfl, sqT_x Sf.law xg (sqT_same sf k4e), ?_⟩
        rw [List.length_append]
        show 1 + _ ≤ 1000
        omega
    refine ⟨D3, _, _, _, rfl, rfl, .inl (.inl kFg), hat3, ?_⟩
    -- the routes with it
    refine ⟨.ref a, rfl, .ref b, rfl, .int (n2 : Nat), rfl, n2, rfl, sl_goI Kg.b fun Hh th u2 v2 sh hh => ?_⟩
    have Kh := Kg.same sh
    refine ⟨.ref tr, rfl, (by show 1 ≤ sizeLine; decide), fun ti hti => ?_⟩
    have si := same_upd (o := .tup [.ref tr]) hti
    have ki : SqT K (upd Hh ti (.tup [.ref tr])) ti ([tr].map V.ref) := .inl (.inl upd_same)
    generalize (upd Hh ti (.tup [.ref tr])) = Hi at si ki ⊢
    have Ki := Kh.same si
    refine cat_go (sqT_same si hh) ki ?_ fun Hj tj sj hj => ?_
    · rw [List.length_map, List.length_take, List.length_drop]
      show _ + 1 ≤ 1000
      omega
    have Kj := Ki.same sj
    refine ⟨.ref b, rfl, .int (n2 : Nat), rfl, n2, 1, rfl, rfl, (n2 : Int) + 1, rfl, sl_goI Kj.b fun Hk tk u3 v3 sk hk => ?_⟩
    refine cat_go (sqT_same sk hj) hk ?_ fun Hl tl sl hl => ?_
    · rw [List.length_append, List.length_map, List.length_map, List.length_map, List.length_take, List.length_drop, List.length_take, List.length_drop]
      show _ + 1 + _ ≤ 1000
      omega
    have Kl := (Kj.same sk).same sl
    rw [← List.map_append, ← List.map_append] at hl
    have smgl := (((sh.trans si).trans sj).trans sk).trans sl
    refine fin (rs' := ((rs.drop u2).take v2 ++ [r2]) ++ (rs.drop u3).take v3) (Sg.same smgl) Kl.a ⟨_, hl, paired_app (paired_app (paired_take _ (paired_drop _ Kl.p)) (.cons (sqT_same smgl htr) .nil)) (paired_take _ (paired_drop _ Kl.p))⟩ ⟨by omega, ?_, fun x hx => ?_⟩
    · rw [List.length_append, List.length_append, List.length_take, List.length_drop, List.length_take, List.length_drop]
      show _ + 1 + _ ≤ 1000
      omega
    · rcases List.mem_append.mp hx with hx | hx
      · rcases List.mem_append.mp hx with hx | hx
        · exact b1000 x (List.mem_of_mem_drop (List.mem_of_mem_take hx))
        · rw [List.mem_singleton.mp hx]
          exact hr2
      · exact b1000 x (List.mem_of_mem_drop (List.mem_of_mem_take hx))
end
end Sv


set_option maxHeartbeats 8000000
namespace Sv
open PySem PySem.Spec PyProof.Rows L2 LamX NdefX
/-! ### a function that makes lambdas and hands them to _law_error -/
section
variable {P : Program} {w : World} {K : PySem.W.Frag} {mg : Str → Option Value} {base : Heap}
/-- THE RULE for a def whose code object is known -/
theorem fun_okC {x qual : Str} {st : Stmt} {f c : Addr} {fd : FuncData} {N ps : List Str} {k : Nat} {sp : Sp} (F : Fun K x qual st f fd) (hc : fd.code = .ref c) (S : FnScope N ps (defScope st)) (len : ∀ vs H Q E, sp vs H Q E → vs.length = ps.length)
    (hbody : ∀ (A : Around) (outer : List Env) (s : Shared) (H : Hp) (vs : List V) (Q : VK) (E : XK), Room k (A.deeper (envOfC qual (defScope st) s.heap.objs.size f (.ref c))) → sp vs H Q E →
      ∃ t, PSs (cxOf CX0 P w K mg base N qual (defScope st) f (.ref c) A outer s H E).nox (defBody st) t ∧ t { nx := fun _ H' => Q .non H', rt := Q } (start N vs) H) : FnOk P w K mg base CX0 (k + 1) f fd ps sp := by
  obtain ⟨oc, od, kV, doc, pm, an, cdv, ct, osl, rfl, lk, hcd⟩ := F.ex
  obtain rfl : cdv = .ref c := hc
  refine fn_of lk hcd S len fun A outer s H vs Q E hr hsp => ?_
  obtain ⟨t, h, q⟩ := hbody A outer s H vs Q E hr hsp
  exact ⟨t, h.nox, q⟩
end
/-- the lambda at f, told by the maker's names js -/
def LamIs (X : Cx) (k : Nat) (H : Hp) (f : Addr) (js : List Nat) (tl : List (Option V) → XK → Hp → VK → Prop) : Prop :=
  ∃ (L : LF) (fr : List Str) (dvs : List V), H f = some (LamO f L) ∧ H L.c = some (CodeO L.c L.qual) ∧ DflAt H L.dV dvs ∧ LOk X.prog X.w X.K X.mg X.base k f L fr dvs tl ∧ (X.Ok → Caps X L.cl fr js)
theorem DflAt.ext {H H1 : Hp} {dV : Value} {dvs : List V} (d : DflAt H dV dvs) (e : ExtN H H1) : DflAt H1 dV dvs := by
  rcases d with ⟨a, b⟩ | ⟨a, T, b, c⟩
  · exact .inl ⟨a, b⟩
  · exact .inr ⟨a, T, b, e _ _ c (fun ps z => nomatch z)⟩
theorem LamIs.ext {X : Cx} {k : Nat} {H H1 : Hp} {f : Addr} {js : List Nat} {tl : List (Option V) → XK → Hp → VK → Prop} (h : LamIs X k H f js tl) (e : ExtN H H1) : LamIs X k H1 f js tl := by
  obtain ⟨L, fr, dvs, h1, h2, h3, h4, h5⟩ := h
  exact ⟨L, fr, dvs, e _ _ h1 (fun ps => lamO_tbl ps), e _ _ h2 codeO_ne, h3.ext e, h4, h5⟩
theorem extN_same {H H1 : Hp} (s : Same H H1) : ExtN H H1 := ExtN.of s
def freeB (sc scope : Scope) : Bool := scope.names.all fun y => match y.2 with
  | .free => (match sc.names.lookup y.1 with | some .cell => true | some .free => true | _ => false)
  | _ => true
theorem free_by {sc scope : Scope} (h : freeB sc scope = true) : ∀ y ∈ scope.names, y.2 = .free → sc.names.lookup y.1 = some .cell ∨ sc.names.lookup y.1 = some .free := fun y hy e => by
  have q := List.all_eq_true.mp h y hy
  rw [e] at q
  simp only at q
  split at q
  · rename_i z
    exact .inl z
  · rename_i z
    exact .inr z
  · cases q
/-- the reading of a lambda as a value -/
def tLamK (X : Cx) (k : Nat) (T : List (Addr × Str)) (js : List Nat) (tl : List (Option V) → XK → Hp → VK → Prop) : TE := fun _ H Q => Tabs T H ∧ ∀ (f : Addr) (H1 : Hp), ExtN H H1 → (∀ b, H1 b = none → H b = none) → Tabs T H1 → H f = none → LamIs X k H1 f js tl → Q (.ref f) H1
section
variable {X : Cx} {k : Nat} {T : List (Addr × Str)} {c P : Addr} {params : Arguments} {body : Expr} {scope : Scope} {pos : Pos} {js : List Nat} {fr N ps : List Str} {tl : List (Option V) → XK → Hp → VK → Prop}
/-- what its body keeps, wherever it was made -/
def LamB (X : Cx) (k : Nat) (N : List Str) (params : Arguments) (body : Expr) (scope : Scope) (fr : List Str) (dvs : List V) (tl : List (Option V) → XK → Hp → VK → Prop) : Prop :=
  ∀ (qual : Str) (cl : List (Str × Addr)) (dV : Value) (c f : Addr) (A : Around) (outer : List Env) (s : Shared) (H : Hp) (ws : List (Option V)) (Q : VK) (E : XK), Room k (A.deeper (envF (LF.nf ⟨params, body, scope, qual, cl, dV, c⟩) f s.heap.objs.size)) → tl ws E H Q →
    ∃ t, PE (ncx (L2.CX X.prog X.w) X.prog X.w X.K X.mg X.base N (LF.nf ⟨params, body, scope, qual, cl, dV, c⟩) f A outer s H E) body t ∧ t (startF N dvs ws) H Q
theorem lamB_ok {f c' : Addr} {cl : List (Str × Addr)} {q : Str} {dV : Value} {dvs : List V} (hB : LamB X k N params body scope fr dvs tl) (S : NScope N ps fr scope) (hb : LBinds ⟨params, body, scope, q, cl, dV, c'⟩ ps dvs) (hl : dvs.length = ps.length) :
    LOk X.prog X.w X.K X.mg X.base (k + 1) f ⟨params, body, scope, q, cl, dV, c'⟩ fr dvs tl := lok_of S hb hl fun A outer s H ws Q E hr _ ht => hB q cl dV c' f A outer s H ws Q E hr ht
theorem pe_lamK0 (LT : LamT X T c P) (hB : LamB X k N params body scope fr [] tl) (hd : defaultsOf params X.env = ([], []) := by rfl)
    (hfree : ∀ y ∈ scope.names, y.2 = .free → X.env.scope.names.lookup y.1 = some .cell ∨ X.env.scope.names.lookup y.1 = some .free := by exact free_by rfl)
    (S : NScope N [] fr scope := by exact nscope_by (by decide +kernel)) (hbn : ∀ q cl pm cv ctv, bindArgs (PySem.W.kla_fn "<lambda>" q params body scope cl pm cv ctv) ⟨[], []⟩ = pure [] := by intro q cl pm cv ctv; rfl)
    (hfr : ∀ y ∈ fr, (y, NameKind.free) ∈ scope.names := by decide +kernel) (hjs : js.map (fun j => X.N[j]?) = fr.map some := by rfl) :
    PE X (.Lambda params body scope pos) (tLamK X (k + 1) T js tl) := by
  refine ⟨fun pins s σ H Q I ⟨hT, h⟩ => (pe_lam0 LT hd hfree).run pins s σ H Q I ⟨hT, fun f c' dV H1 a1 a2 a3 a4 a5 a6 a7 => h f H1 a1 a2 a3 a4 ⟨_, fr, [], a5, a6, a7, lamB_ok hB S (lbinds0 hbn) rfl, fun ok => Caps.made ok hfree hfr hjs⟩⟩⟩
theorem pe_lamK1 {i : Int} {jn : Nat} {p2 : Pos} {a : Str} (LT : LamT X T c P) (hB : LamB X k N params body scope fr [.int i] tl) (hbn : ∀ q cl pm cv ctv (T : Addr) (u : Value), ∃ k, bindArgs { PySem.W.kla_fn "<lambda>" q params body scope cl pm cv ctv with defaults := .ref T } ⟨[], []⟩ = seqItems? (.ref T) >>= k ∧ k (some [u].toArray) = pure [(a, u)])
    (hd : defaultsOf params X.env = ([eval (.Constant (.int i) jn p2) X.env], []) := by rfl)
    (hfree : ∀ y ∈ scope.names, y.2 = .free → X.env.scope.names.lookup y.1 = some .cell ∨ X.env.scope.names.lookup y.1 = some .free := by exact free_by rfl)
    (S : NScope N [a] fr scope := by exact nscope_by (by decide +kernel))
    (hfr : ∀ y ∈ fr, (y, NameKind.free) ∈ scope.names := by decide +kernel) (hjs : js.map (fun j => X.N[j]?) = fr.map some := by rfl) :
    PE X (.Lambda params body scope pos) (tLamK X (k + 1) T js tl) := by
  refine ⟨fun pins s σ H Q I ⟨hT, h⟩ => (pe_lam1 (j := 0) LT hd hfree).run pins s σ H Q I ⟨hT, fun f c' dV H1 a1 a2 a3 a4 a5 a6 a7 => h f H1 a1 a2 a3 a4 ⟨_, fr, [.int i], a5, a6, a7, lamB_ok hB S (lbinds1 hbn) rfl, fun ok => Caps.made ok hfree hfr hjs⟩⟩⟩
end
section
variable {CS C0 C1 C2 C3 C4 C5 C6 C7 C8 C9 C10 C11 C12 C13 C14 : Addr}
/-- the reading of _law_error(lambda: ..) -/
def tErrL (K : PySem.W.Frag) (T : List (Addr × Str)) (js : List Nat) (tl : List (Option V) → XK → Hp → VK → Prop) (CS C0 C1 C2 C3 C4 C5 C6 C7 C8 C9 C10 C11 C12 C13 C14 : Addr) : TE := fun σ H Q => Tabs T H ∧ ∀ H1, ExtN H H1 → (∀ b, H1 b = none → H b = none) → Tabs T H1 → tl (js.map (slotAt σ)) (ErrE K CS C0 C1 C2 C3 C4 C5 C6 C7 C8 C9 C10 C11 C12 C13 C14 Q) H1 (OkQ Q)
/-- .. of a lambda that the def around holds -/
def tErrB (X : Cx) (k i : Nat) (σ0 : L2.St) (CS C0 C1 C2 C3 C4 C5 C6 C7 C8 C9 C10 C11 C12 C13 C14 : Addr) : TE := fun σ H Q => ∃ f js tl, σ[i]? = some (some (.ref f)) ∧ LamIs X k H f js tl ∧ tl (js.map (slotAt σ0)) (ErrE X.K CS C0 C1 C2 C3 C4 C5 C6 C7 C8 C9 C10 C11 C12 C13 C14 Q) H (OkQ Q)
/-- _law_error(lambda: ..) -/
theorem pe_errLam {X : Cx} {k : Nat} {g : Addr} {T : List (Addr × Str)} {js : List Nat} {tl : List (Option V) → XK → Hp → VK → Prop} {e : Expr} {p pos : Pos} (G : FnSt X.prog X.w X.K X.mg X.base (k + 1) g (KnErr X.prog X.w X.K X.mg X.base k CS C0 C1 C2 C3 C4 C5 C6 C7 C8 C9 C10 C11 C12 C13 C14))
    (hr : Room (k + 1) X.A) (hg : Gl X "_law_error") (hm : X.mg "_law_error" = some (.ref g)) (hk : PySem.W.keepIn X.K (.ref g) = true)
    (hfar : ∀ (pins : List (Addr × Obj)) (σ : L2.St) (H : Hp) (s : Shared), Inv X pins σ H s → Far X) (he : PE X e (tLamK X k T js tl)) (hst : starEach [e] X.env = (false, eval e X.env) :: starEach [] X.env := by rfl) :
    PE X (.Call (.Name "_law_error" p) [e] [] pos) (tErrL X.K T js tl CS C0 C1 C2 C3 C4 C5 C6 C7 C8 C9 C10 C11 C12 C13 C14) := by
  refine ⟨fun pins s σ H Q I ⟨hT, h⟩ => (pe_callSt (te := fun σ1 H1 Q1 => σ1 = σ ∧ tLamK X k T js tl σ1 H1 Q1) G hr hg hm hk ⟨fun pins s σ1 H Q I h => he.run pins s σ1 H Q I h.2⟩ (hst := hst)).run pins s σ H Q I ⟨rfl, hT, fun f H1 a1 a2 a3 a4 a5 pins' s' I' => ?_⟩⟩
  obtain ⟨L, fr, dvs, h1, h2, h3, h4, h5⟩ := a5
  have cp := h5 I'.ok
  exact ⟨f, L, fr, dvs, js.map (slotAt σ), tl, rfl, ⟨h1, h2, h3, h4, cells_of I' cp, fun y c e => hfar _ _ _ _ I' y c (cp.sub y c e)⟩, h H1 a1 a2 a3⟩
/-- _law_error(x) in a comprehension, x a lambda of the def around it -/
theorem pe_errBlk {X : Cx} {k : Nat} {g : Addr} {i : Nat} {x : Str} {p p2 pos : Pos} {scope : Scope} {σ0 : L2.St} {s0 : Shared} {H0 : Hp} {C : Addr} {cl : List (Str × Addr)} {fp : List Addr} (G : FnSt X.prog X.w X.K X.mg X.base (k + 1) g (KnErr X.prog X.w X.K X.mg X.base k CS C0 C1 C2 C3 C4 C5 C6 C7 C8 C9 C10 C11 C12 C13 C14))
    (hr : Room (k + 1) X.A) (hX : ∀ y, X.fn y = true) (B0 : Blk0 X σ0 s0 H0 cl fp) (hg : Gl (X.blk s0 H0 scope (compEnvC scope cl C X.env) fp) "_law_error") (hm : X.mg "_law_error" = some (.ref g)) (hk : PySem.W.keepIn X.K (.ref g) = true)
    (hv : PE (X.blk s0 H0 scope (compEnvC scope cl C X.env) fp) (.Name x p2) (tVar i)) :
    PE (X.blk s0 H0 scope (compEnvC scope cl C X.env) fp) (.Call (.Name "_law_error" p) [.Name x p2] [] pos)
      (tErrB X k i σ0 CS C0 C1 C2 C3 C4 C5 C6 C7 C8 C9 C10 C11 C12 C13 C14) := by
  refine ⟨fun pins s σ H Q I ⟨f, js, tl, e1, ⟨L, fr, dvs, h1, h2, h3, h4, h5⟩, ht⟩ => (pe_callSt (Y := X.blk s0 H0 scope (compEnvC scope cl C X.env) fp) G hr hg hm hk hv).run pins s σ H Q I ⟨.ref f, e1, fun pins' s' I' => ?_⟩⟩
  obtain ⟨pins0, I0, hfp⟩ := B0.inv
  have cp := h5 I0.ok
  have far := far_def I0 hX
  refine ⟨f, L, fr, dvs, js.map (slotAt σ0), tl, rfl, ⟨h1, h2, h3, h4, ?_, fun y c e => far y c (cp.sub y c e)⟩, ht⟩
  refine cells_later (fs := frs X.stack) (ex := fp) (cells_of I0 cp) (fun y c e => far y c (cp.sub y c e)) (fun y c e hm => ?_) I'.base
  exact (hfp c hm).2.2.2.2.1 y c (cp.sub y c e) rfl
end
end Sv


set_option maxHeartbeats 8000000
namespace Sv
open PySem PySem.Spec PyProof.Rows L2 LamX NdefX
/-! ### what the law knows between its steps -/
/-- all but lists and tables stay -/
def ExtL (H H1 : Hp) : Prop := ∀ b o, H b = some o → (∀ xs, o ≠ .lst xs) → (∀ ps, o ≠ .tbl ps) → H1 b = some o
theorem ExtL.refl (H : Hp) : ExtL H H := fun _ _ e _ _ => e
theorem ExtL.trans {H H1 H2 : Hp} (a : ExtL H H1) (b : ExtL H1 H2) : ExtL H H2 := fun c o e n m => b c o (a c o e n m) n m
theorem ExtL.n {H H1 : Hp} (e : ExtN H H1) : ExtL H H1 := fun b o h _ m => e b o h m
theorem ExtL.s {H H1 : Hp} (e : Same H H1) : ExtL H H1 := fun b o h _ _ => e b o h
theorem ExtL.x {H H1 : Hp} {h l : Addr} (L : LawH H h l) (e : SameX h l H H1) : ExtL H H1 := fun b o hb n _ => by
  obtain ⟨m, i, cs, e1, e2, _⟩ := L.ex
  refine e b o (fun z => ?_) (fun z => ?_) hb
  · rw [z, e1] at hb
    exact n _ (Option.some.inj hb).symm
  · rw [z, e2] at hb
    exact n _ (Option.some.inj hb).symm
theorem ExtL.upd {H : Hp} {p : Addr} {xs : List V} {o : HO} (h : H p = some (.lst xs)) : ExtL H (L2.upd H p o) := fun b u e n _ => by
  rw [upd_ne (fun z => by rw [z, h] at e; exact n _ (Option.some.inj e).symm)]
  exact e
theorem sqT_ext {K : PySem.W.Frag} {H H1 : Hp} {a : Addr} {xs : List V} (e : ExtL H H1) (h : SqT K H a xs) : SqT K H1 a xs := by
  rcases h with (h | ⟨o, h⟩) | h
  · exact .inl (.inl (e _ _ h (fun _ z => nomatch z) (fun _ z => nomatch z)))
  · exact .inl (.inr ⟨o, e _ _ h (fun _ z => nomatch z) (fun _ z => nomatch z)⟩)
  · exact .inr h
theorem LamIs.extL {X : Cx} {k : Nat} {H H1 : Hp} {f : Addr} {js : List Nat} {tl : List (Option V) → XK → Hp → VK → Prop} (h : LamIs X k H f js tl) (e : ExtL H H1) : LamIs X k H1 f js tl := by
  obtain ⟨L, fr, dvs, h1, h2, h3, h4, h5⟩ := h
  refine ⟨L, fr, dvs, e _ _ h1 (fun _ z => by unfold LamO at z; cases z) (fun ps => lamO_tbl ps), e _ _ h2 (fun _ z => by unfold CodeO at z; cases z) codeO_ne, ?_, h4, h5⟩
  rcases h3 with ⟨a, b⟩ | ⟨a, T, b, c⟩
  · exact .inl ⟨a, b⟩
  · exact .inr ⟨a, T, b, e _ _ c (fun _ z => nomatch z) (fun _ z => nomatch z)⟩
theorem LamIs.not_lst {X : Cx} {k : Nat} {H : Hp} {f p : Addr} {js : List Nat} {tl : List (Option V) → XK → Hp → VK → Prop} {xs : List V} (h : LamIs X k H f js tl) (hp : H p = some (.lst xs)) : f ≠ p := fun z => by
  obtain ⟨L, fr, dvs, h1, _⟩ := h
  rw [z, hp] at h1
  have := Option.some.inj h1
  unfold LamO at this
  cases this
/-- the law's source and its table -/
structure LS (T : List (Addr × Str)) (h l : Addr) (H : Hp) : Prop where
  law : LawH H h l
  tabs : Tabs T H
theorem LawH.ext {H H' : Hp} {h l : Addr} (x : LawH H h l) (e : ExtN H H') : LawH H' h l := by
  obtain ⟨m, i, cs, e1, e2, e3⟩ := x.ex
  exact ⟨m, i, cs, e _ _ e1 (fun _ z => nomatch z), e _ _ e2 (fun _ z => nomatch z), e3⟩
theorem tabs_x {T : List (Addr × Str)} {H H1 : Hp} {h l : Addr} (t : Tabs T H) (L : LawH H h l) (e : SameX h l H H1) : Tabs T H1 := fun p hp => by
  obtain ⟨ps, h1, h2, h3⟩ := t p hp
  obtain ⟨m, i, cs, e1, e2, _⟩ := L.ex
  refine ⟨ps, e _ _ (fun z => ?_) (fun z => ?_) h1, h2, fun pos cv hc => ?_⟩
  · rw [z, e1] at h1
    cases h1
  · rw [z, e2] at h1
    cases h1
  · obtain ⟨c, q1, q2⟩ := h3 pos cv hc
    exact ⟨c, q1, ExtL.x L e _ _ q2 (fun _ z => by unfold CodeO at z; cases z) codeO_ne⟩
theorem LS.x {T : List (Addr × Str)} {h l : Addr} {H H1 : Hp} (a : LS T h l H) (L : LawH H1 h l) (e : SameX h l H H1) : LS T h l H1 := ⟨L, tabs_x a.tabs a.law e⟩
theorem LS.s {T : List (Addr × Str)} {h l : Addr} {H H1 : Hp} (a : LS T h l H) (e : Same H H1) : LS T h l H1 := ⟨a.law.same e, a.tabs.ext e⟩
theorem LS.e {T : List (Addr × Str)} {h l : Addr} {H H1 : Hp} (a : LS T h l H) (e : ExtN H H1) (t : Tabs T H1) : LS T h l H1 := ⟨a.law.ext e, t⟩
section
variable {K : PySem.W.Frag} {H : Hp}
theorem tabs_upd {T : List (Addr × Str)} {p : Addr} {xs : List V} {o : HO} (t : Tabs T H) (hp : H p = some (.lst xs)) : Tabs T (L2.upd H p o) := fun y hy => by
  obtain ⟨ps, h1, h2, h3⟩ := t y hy
  refine ⟨ps, ?_, h2, fun pos cv hc => ?_⟩
  · rw [upd_ne (fun z => by rw [z, hp] at h1; cases h1)]
    exact h1
  · obtain ⟨c, q1, q2⟩ := h3 pos cv hc
    exact ⟨c, q1, ExtL.upd hp _ _ q2 (fun _ z => by unfold CodeO at z; cases z) codeO_ne⟩
theorem LS.u {T : List (Addr × Str)} {h l p : Addr} {xs : List V} {o : HO} (a : LS T h l H) (hp : H p = some (.lst xs)) (n1 : p ≠ h) (n2 : p ≠ l) : LS T h l (L2.upd H p o) := by
  refine ⟨?_, tabs_upd a.tabs hp⟩
  obtain ⟨m, i, cs, e1, e2, e3⟩ := a.law.ex
  exact ⟨m, i, cs, by rw [upd_ne (Ne.symm n1)]; exact e1, by rw [upd_ne (Ne.symm n2)]; exact e2, e3⟩
end
section
variable {K : PySem.W.Frag} {H : Hp} {Q : VK}
theorem errE_of {CS C0 C1 C2 C3 C4 C5 C6 C7 C8 C9 C10 C11 C12 C13 C14 D : Addr} {nm : Str} (A : ∃ (b0 b1 b2 b3 b4 b5 b6 b7 b8 b9 b10 b11 b12 b13 b14 : Bool) (j : Nat), ErK K CS C0 C1 C2 C3 C4 C5 C6 C7 C8 C9 C10 C11 C12 C13 C14 D nm b0 b1 b2 b3 b4 b5 b6 b7 b8 b9 b10 b11 b12 b13 b14 j) (q : NewS H [.str nm] Q) (n1 : nm ≠ ("plan" : Str)) (n2 : nm ≠ ("swap" : Str)) :
    ErrE K CS C0 C1 C2 C3 C4 C5 C6 C7 C8 C9 C10 C11 C12 C13 C14 Q (.ref D) none H := by
  obtain ⟨b0, b1, b2, b3, b4, b5, b6, b7, b8, b9, b10, b11, b12, b13, b14, j, R⟩ := A
  exact ⟨D, nm, b0, b1, b2, b3, b4, b5, b6, b7, b8, b9, b10, b11, b12, b13, b14, j, rfl, .inl rfl, R, .inl ⟨n1, n2, q⟩⟩
/-- how three of the classes answer -/
structure ErA (K : PySem.W.Frag) (CS C0 C1 C2 C3 C4 C5 C6 C7 C8 C9 C10 C11 C12 C13 C14 D : Addr) (nm : Str) : Prop where
  ex : ∃ (b0 b1 b2 b3 b4 b5 b6 b7 b8 b9 b10 b11 b12 b13 b14 : Bool) (j : Nat), ErK K CS C0 C1 C2 C3 C4 C5 C6 C7 C8 C9 C10 C11 C12 C13 C14 D nm b0 b1 b2 b3 b4 b5 b6 b7 b8 b9 b10 b11 b12 b13 b14 j
end
theorem far_blk {X : Cx} {σ : L2.St} {s : Shared} {H : Hp} {C : Addr} {cl : List (Str × Addr)} {fp : List Addr} {scope : Scope} (B0 : Blk0 X σ s H cl fp) (hX : ∀ y, X.fn y = true) : Far (X.blk s H scope (compEnvC scope cl C X.env) fp) := fun y c e => B0.far (B0.inv.elim fun _ h => far_def h.1 hX) y c e
/-! ### pieces of the text -/
def zE : Expr := .Name "x" ⟨0, 0, 0, 0⟩
def eArgs : Expr → List Expr | .Call _ as _ _ => as | _ => []
def eElts : Expr → List Expr | .List es _ => es | .Tuple es _ _ => es | _ => []
def eElt : Expr → Expr | .ListComp e _ _ _ => e | e => e
def eLeft : Expr → Expr | .Compare l _ _ _ => l | e => e
def sVal : Stmt → Expr | .Assign _ v _ => v | .Expr v _ => v | .If t _ _ _ => t | .Return (some v) _ => v | _ => zE
def sBody : Stmt → List Stmt | .For _ _ b _ _ => b | _ => []
def lamP : Expr → Arguments | .Lambda p _ _ _ => p | _ => ⟨[], [], none, [], [], none, []⟩
def lamE : Expr → Expr | .Lambda _ b _ _ => b | e => e
def lamS : Expr → Scope | .Lambda _ _ s _ => s | _ => default
end Sv


set_option maxHeartbeats 4000000
namespace Sv
open PySem PySem.Spec PyProof.Rows L2
section
variable {P : Program} {w : World} {K : PySem.W.Frag} {mg : Str → Option Value} {base : Heap}
/-! ### effects as tuples -/
def vN (e : List Nat) : List V := e.map fun (n : Nat) => V.int (n : Int)
theorem vN_len (e : List Nat) : (vN e).length = e.length := by unfold vN; simp
theorem vN_get {e : List Nat} {i : Nat} (h : i < e.length) : (vN e)[i]? = some (.int (ap e i : Nat)) := by
  unfold vN
  rw [List.getElem?_map, ap_at h]
  rfl
def EffI (ns : List Int) : Prop := (∀ x ∈ ns, 0 ≤ x ∧ x ≤ (ns.length : Int) - 1) ∧ ns.Nodup
instance (ns : List Int) : Decidable (EffI ns) := by unfold EffI; infer_instance
theorem effI_of {e : List Nat} (E : Eff e) : EffI (e.map fun (n : Nat) => (n : Int)) := by
  refine ⟨fun x hx => ?_, ?_⟩
  · obtain ⟨y, hy, rfl⟩ := List.mem_map.mp hx
    have := E.1 y hy
    rw [List.length_map]
    omega
  · refine List.pairwise_iff_getElem.mpr fun i j hi hj hij q => ?_
    simp only [List.getElem_map] at q
    simp at hi hj
    exact absurd ((List.getElem_inj E.2).mp (by omega : e[i] = e[j])) (by omega)
theorem vN_ints (e : List Nat) : vN e = (e.map fun (n : Nat) => (n : Int)).map V.int := by unfold vN; rw [List.map_map]; rfl
def spIsEffect (K : PySem.W.Frag) : Sp := fun vs H Q _ => ∃ (a : Addr) (ns : List Int), vs = [.ref a] ∧ SqT K H a (ns.map V.int) ∧ ns.length ≤ 1000 ∧ Q (.bl (decide (EffI ns))) H
end
end Sv


set_option maxHeartbeats 4000000
namespace Sv
open PySem PySem.Spec PyProof.Rows L2
section
variable {P : Program} {w : World} {K : PySem.W.Frag} {mg : Str → Option Value} {base : Heap}
abbrev CtOk (n : Int) : Prop := -1000000000000000000 ≤ n ∧ n ≤ 1000000000000000000
def spCheckCount (CC : Addr) : Sp := fun vs H Q E => ∃ n : Int, vs = [.int n] ∧ (CtOk n → Q .non H) ∧ (¬ CtOk n → E (.ref CC) none H)
def spCheckBetween (CC : Addr) : Sp := fun vs H Q E => ∃ n lo hi : Int, vs = [.int n, .int lo, .int hi] ∧ ((lo ≤ n ∧ n ≤ hi) → Q .non H) ∧ (¬ (lo ≤ n ∧ n ≤ hi) → E (.ref CC) none H)
/-- a number of ticks from now on -/
abbrev TkOk (n : Int) : Prop := 0 ≤ n ∧ n ≤ 1000000000000000000
def spCheckTicks (CC : Addr) : Sp := fun vs H Q E => ∃ n : Int, vs = [.int n] ∧ (TkOk n → Q .non H) ∧ (¬ TkOk n → E (.ref CC) none H)
abbrev NrOk (n : Int) : Prop := 1 ≤ n ∧ n ≤ 1000000000000000000
def spCheckOrdinal (CC : Addr) : Sp := fun vs H Q E => ∃ n : Int, vs = [.int n] ∧ (NrOk n → Q .non H) ∧ (¬ NrOk n → E (.ref CC) none H)
def spCheckEffect (K : PySem.W.Frag) (CE : Addr) : Sp := fun vs H Q E => ∃ (a : Addr) (ns : List Int), vs = [.ref a] ∧ SqT K H a (ns.map V.int) ∧ ns.length ≤ 1000 ∧ (EffI ns → Q .non H) ∧ (¬ EffI ns → E (.ref CE) none H)
/-! ### chained -/
theorem vN_snoc {e : List Nat} {i : Nat} (h : i < e.length) : vN (e.take (i + 1)) = vN (e.take i) ++ [.int (ap e i : Nat)] := by
  unfold vN
  rw [List.take_add_one, ap_at h, List.map_append]
  rfl
theorem vN_lt {e : List Nat} {i : Nat} {x : V} (h : (vN e)[i]? = some x) : i < e.length ∧ x = .int (ap e i : Nat) := by
  have h1 := (List.getElem?_eq_some_iff.mp h).1
  rw [vN_len] at h1
  rw [vN_get h1] at h
  exact ⟨h1, (Option.some.inj h).symm⟩
theorem vN_take (e : List Nat) : vN (e.take e.length) = vN e := by rw [List.take_length]
/-- what is tracked but a new object of ours -/
theorem same_at {H H' : Hp} {D : Addr} {o : HO} (sm : Same H H') (hD : H D = none) : Same H (upd H' D o) := same_of sm hD
/-- hands back a new tuple of the numbers g -/
def NewT (H : Hp) (g : List Nat) (Q : VK) : Prop := ∀ H' p, Same H H' → H p = none → H' p = some (.tup (vN g)) → Q (.ref p) H'
def spChained (K : PySem.W.Frag) : Sp := fun vs H Q _ => ∃ (a b : Addr) (e g : List Nat), vs = [.ref a, .ref b] ∧ SqT K H a (vN e) ∧ SqT K H b (vN g) ∧ (∀ x ∈ e, x < g.length) ∧ e.length ≤ 1000 ∧ NewT H (comp e g) Q
/-! ### inverse -/
def spInverse (K : PySem.W.Frag) : Sp := fun vs H Q _ => ∃ (a : Addr) (e : List Nat), vs = [.ref a] ∧ SqT K H a (vN e) ∧ Eff e ∧ e.length ≤ 1000 ∧ NewT H (inv e) Q
theorem rep_one_list (n : Nat) (v : V) : (List.replicate n [v]).flatten = List.replicate n v := by
  induction n with
  | zero => rfl
  | succ n ih => rw [List.replicate_succ, List.flatten_cons, ih]; rfl
theorem vN_set (e : List Nat) (i y : Nat) : (vN e).set i (.int (y : Int)) = vN (e.set i y) := by
  unfold vN
  rw [List.map_set]
end
end Sv


set_option maxHeartbeats 4000000
namespace Sv
open PySem PySem.Spec PyProof.Rows L2
section
variable {P : Program} {w : World} {K : PySem.W.Frag} {mg : Str → Option Value} {base : Heap}
/-! ### cycle_from -/
def spCycleFrom (K : PySem.W.Frag) : Sp := fun vs H Q _ => ∃ (a : Addr) (e : List Nat) (s : Nat), vs = [.ref a, .int (s : Nat)] ∧ SqT K H a (vN e) ∧ Eff e ∧ s < e.length ∧ e.length ≤ 1000 ∧ NewT H (cyc e s) Q
theorem vN_one (k : Nat) : [V.int (k : Int)] = vN [k] := rfl
theorem vN_app (a b : List Nat) : vN (a ++ b) = vN a ++ vN b := by unfold vN; rw [List.map_append]
/-- the first k places of a walk from s -/
def walkL (e : List Nat) (s k : Nat) : List Nat := (List.range k).map fun j => it e j s
theorem walkL_succ (e : List Nat) (s k : Nat) : walkL e s (k + 1) = walkL e s k ++ [it e k s] := by
  unfold walkL
  rw [List.range_succ, List.map_append]
  rfl
theorem walkL_len (e : List Nat) (s k : Nat) : (walkL e s k).length = k := by unfold walkL; simp
/-! ### cycles_of -/
/-- tuples of the numbers cs at ps -/
def TupL (H : Hp) (ps : List Addr) (cs : List (List Nat)) : Prop := Paired (fun p c => H p = some (.tup (vN c))) ps cs
theorem tupL_same {H H' : Hp} (e : Same H H') : ∀ {ps : List Addr} {cs : List (List Nat)}, TupL H ps cs → TupL H' ps cs
  | _, _, .nil => .nil
  | _, _, .cons r t => .cons (e _ _ r) (tupL_same e t)
theorem tupL_snoc {H : Hp} {p : Addr} {c : List Nat} (h : H p = some (.tup (vN c))) : ∀ {ps : List Addr} {cs : List (List Nat)}, TupL H ps cs → TupL H (ps ++ [p]) (cs ++ [c])
  | _, _, .nil => .cons h .nil
  | _, _, .cons r t => .cons r (tupL_snoc h t)
theorem tupL_len {H : Hp} : ∀ {ps : List Addr} {cs : List (List Nat)}, TupL H ps cs → ps.length = cs.length
  | _, _, .nil => rfl
  | _, _, .cons _ t => congrArg Nat.succ (tupL_len t)
theorem tupL_at {H : Hp} : ∀ {ps : List Addr} {cs : List (List Nat)}, TupL H ps cs → ∀ (i : Nat) (p : Addr), ps[i]? = some p → ∃ c, cs[i]? = some c ∧ H p = some (.tup (vN c))
  | _, _, .nil, i, p, h => by simp at h
  | _, _, .cons r t, 0, p, h => by
    obtain rfl := Option.some.inj h
    exact ⟨_, rfl, r⟩
  | _, _, .cons r t, i + 1, p, h => tupL_at t i p h
def NewLT (H : Hp) (cs : List (List Nat)) (Q : VK) : Prop := ∀ H' f ps, Same H H' → H f = none → H' f = some (.lst (ps.map V.ref)) → TupL H' ps cs → Q (.ref f) H'
def spCyclesOf (K : PySem.W.Frag) : Sp := fun vs H Q _ => ∃ (a : Addr) (e : List Nat), vs = [.ref a] ∧ SqT K H a (vN e) ∧ Eff e ∧ e.length ≤ 1000 ∧ NewLT H (wheels e) Q
/-- which places are told by S -/
def flL (n : Nat) (S : Nat → Bool) : List V := (List.range n).map fun p => V.bl (S p)
theorem flL_len (n : Nat) (S : Nat → Bool) : (flL n S).length = n := by unfold flL; simp
theorem flL_get {n : Nat} {S : Nat → Bool} {p : Nat} (h : p < n) : (flL n S)[p]? = some (.bl (S p)) := by
  unfold flL
  rw [List.getElem?_map, List.getElem?_range h]
  rfl
theorem flL_set (n : Nat) (S : Nat → Bool) (x : Nat) : (flL n S).set x (.bl true) = flL n fun p => S p || decide (p = x) := by
  refine List.ext_getElem? fun i => ?_
  by_cases hi : i < n
  · rw [flL_get hi]
    by_cases hx : i = x
    · subst hx
      rw [List.getElem?_set_self (by rw [flL_len]; exact hi)]
      simp
    · rw [List.getElem?_set_ne (Ne.symm hx), flL_get hi]
      simp [hx]
  · rw [List.getElem?_eq_none (by rw [List.length_set, flL_len]; omega), List.getElem?_eq_none (by rw [flL_len]; omega)]
theorem flL_congr {n : Nat} {S S' : Nat → Bool} (h : ∀ p, p < n → S p = S' p) : flL n S = flL n S' := by
  unfold flL
  exact List.map_congr_left fun p hp => by rw [h p (List.mem_range.mp hp)]
end
end Sv


set_option maxHeartbeats 4000000
namespace Sv
open PySem PySem.Spec PyProof.Rows L2
section
variable {P : Program} {w : World} {K : PySem.W.Frag} {mg : Str → Option Value} {base : Heap}
/-! ### repeated -/
theorem vN_drop (c : List Nat) (k : Nat) : (vN c).drop k = vN (c.drop k) := by unfold vN; rw [List.map_drop]
theorem vN_tk (c : List Nat) (k : Nat) : (vN c).take k = vN (c.take k) := by unfold vN; rw [List.map_take]
theorem rot_read {K : PySem.W.Frag} {H : Hp} {a : Addr} {c : List Nat} {k : Nat} {z : Int} {Q : VK} (hz : z = (k : Int)) (hA : SqT K H a (vN c)) (hk : k < c.length) (hl : c.length ≤ 1000)
    {G : V → Hp → Prop} (hG : ∀ x H1, (rSlA K (.ref a) none (some z) H1 fun y H2 => rCatA K x y H2 Q) → G x H1) (q : ∀ H' b, Same H H' → SqT K H' b (vN (c.drop k ++ c.take k)) → Q (.ref b) H') : rSlA K (.ref a) (some z) none H G := by
  subst hz
  have s1 : HT.sIx (vN c).length 0 (some (k : Int)) = k := by rw [HT.sIx_nat, vN_len]; omega
  have s2 : HT.sIx (vN c).length (vN c).length (some (k : Int)) = k := by rw [HT.sIx_nat, vN_len]; omega
  have s3 : HT.sIx (vN c).length (vN c).length none = c.length := by rw [HT.sIx_none, vN_len]
  have c1 : cutV (vN c) (some (k : Int)) none = vN (c.drop k) := by
    unfold cutV
    rw [s1, s3, vN_drop, vN_tk]
    congr 1
    exact List.take_of_length_le (by rw [List.length_drop]; omega)
  have c2 : cutV (vN c) none (some (k : Int)) = vN (c.take k) := by
    unfold cutV
    rw [s2, HT.sIx_none, List.drop_zero, Nat.sub_zero, vN_tk]
  have second : ∀ H1 x, Same H H1 → (∀ (H2 : Hp) (p2 : Addr), Same H1 H2 → H2 p2 = some (.tup (vN (c.take k))) → rCatA K x (.ref p2) H2 Q) → rSlA K (.ref a) none (some (k : Int)) H1 fun y H2 => rCatA K x y H2 Q := fun H1 x sm h => by
    refine ⟨a, vN c, rfl, sqT_same sm hA, fun hw => ?_, fun _ p hp => ?_⟩
    · rw [s2, vN_len] at hw
      omega
    · rw [c2]
      exact h _ p (same_upd hp) upd_same
  by_cases h0 : k = 0
  · refine ⟨a, vN c, rfl, hA, fun _ => ?_, fun hn => ?_⟩
    · refine hG _ _ (second H _ (Same.refl H) fun H2 p2 sm hp2 => ?_)
      refine ⟨a, p2, vN c, vN (c.take k), rfl, rfl, sqT_same sm hA, .inl (.inl hp2), ?_, fun e => ?_, fun _ _ => ?_, fun _ e => ?_⟩
      · rw [vN_len, vN_len, List.length_take]
        exact sz1000 (by omega)
      · have := congrArg List.length e
        rw [vN_len] at this
        simp at this
        rw [this] at hk
        simp at hk
      · refine q H2 a sm ?_
        rw [h0, List.drop_zero, List.take_zero, List.append_nil]
        exact sqT_same sm hA
      · rw [h0, List.take_zero] at e
        exact absurd rfl e
    · rw [s1, s3, vN_len] at hn
      exact absurd ⟨h0, rfl⟩ hn
  · refine ⟨a, vN c, rfl, hA, fun hw => ?_, fun _ p hp => ?_⟩
    · rw [s1] at hw
      omega
    · rw [c1]
      refine hG _ _ (second _ _ (same_upd hp) fun H2 p2 sm hp2 => ?_)
      refine ⟨p, p2, vN (c.drop k), vN (c.take k), rfl, rfl, .inl (.inl (sm _ _ upd_same)), .inl (.inl hp2), ?_, fun e => ?_, fun _ e => ?_, fun _ _ p3 hp3 => ?_⟩
      · rw [vN_len, vN_len, List.length_take, List.length_drop]
        exact sz1000 (by omega)
      · have := congrArg List.length e
        rw [vN_len, List.length_drop] at this
        simp at this
        omega
      · have := congrArg List.length e
        rw [vN_len, List.length_take] at this
        have h9 : min k c.length = 0 := this
        omega
      · refine q _ p3 ((same_upd hp).trans (sm.trans (same_upd hp3))) (.inl (.inl ?_))
        rw [upd_same, vN_app]
theorem rot_tm {K : PySem.W.Frag} {σ : L2.St} {i j : Nat} {H : Hp} {a : Addr} {c : List Nat} {k : Nat} {z : Int} {Q : VK} (hi : σ[i]? = some (some (.ref a))) (hj : σ[j]? = some (some (.int z))) (hz : z = (k : Int)) (hA : SqT K H a (vN c)) (hk : k < c.length) (hl : c.length ≤ 1000)
    (q : ∀ H' b, Same H H' → SqT K H' b (vN (c.drop k ++ c.take k)) → Q (.ref b) H') : tOp (rCatA K) (tSl (rSlA K) (tVar i) (tPart (tVar j)) tNoPart) (tSl (rSlA K) (tVar i) tNoPart (tPart (tVar j))) σ H Q := by
  refine ⟨.ref a, hi, .int z, hj, z, rfl, ?_⟩
  show rSlA K (.ref a) (some z) none H (fun x H1 => tSl (rSlA K) (tVar i) tNoPart (tPart (tVar j)) σ H1 fun y H2 => rCatA K x y H2 Q)
  exact rot_read hz hA hk hl (fun x H2 h => ⟨.ref a, hi, .int z, hj, z, rfl, h⟩) q
/-- the targets when the places of S have been told -/
noncomputable def tgL (e : List Nat) (c : Int) (S : Nat → Bool) : List Nat := (List.range e.length).map fun p => if S p = true then rp e c p else ap e p
theorem tgL_len (e : List Nat) (c : Int) (S : Nat → Bool) : (tgL e c S).length = e.length := by unfold tgL; simp
theorem tgL_congr {e : List Nat} {c : Int} {S S' : Nat → Bool} (h : ∀ p, p < e.length → S p = S' p) : tgL e c S = tgL e c S' := by
  unfold tgL
  exact List.map_congr_left fun p hp => by rw [h p (List.mem_range.mp hp)]
theorem tgL_at {e : List Nat} {c : Int} {S : Nat → Bool} {p : Nat} (hp : p < e.length) : (tgL e c S)[p]? = some (if S p = true then rp e c p else ap e p) := by
  unfold tgL
  rw [List.getElem?_map, List.getElem?_range hp]
  rfl
theorem tgL_set (e : List Nat) (c : Int) (S : Nat → Bool) (x : Nat) : (tgL e c S).set x (rp e c x) = tgL e c fun p => S p || decide (p = x) := by
  refine List.ext_getElem? fun i => ?_
  by_cases hi : i < e.length
  · rw [tgL_at hi]
    by_cases hx : i = x
    · subst hx
      rw [List.getElem?_set_self (by rw [tgL_len]; exact hi)]
      simp
    · rw [List.getElem?_set_ne (Ne.symm hx), tgL_at hi]
      simp [hx]
  · rw [List.getElem?_eq_none (by rw [List.length_set, tgL_len]; omega), List.getElem?_eq_none (by rw [tgL_len]; omega)]
theorem tgL_none (e : List Nat) (c : Int) : tgL e c (fun _ => false) = e := by
  refine List.ext_getElem? fun i => ?_
  by_cases hi : i < e.length
  · rw [tgL_at hi, ap_at hi]
    rfl
  · rw [List.getElem?_eq_none (by rw [tgL_len]; omega), List.getElem?_eq_none (by omega)]
theorem tgL_all {e : List Nat} {c : Int} {S : Nat → Bool} (h : ∀ p, p < e.length → S p = true) : tgL e c S = rep e c := by
  unfold tgL rep
  exact List.map_congr_left fun p hp => by rw [if_pos (h p (List.mem_range.mp hp))]
/-- what stands beside the j-th place of a cycle -/
theorem rot_at {e : List Nat} (E : Eff e) {s : Nat} (hs : s < e.length) (c : Int) {j : Nat} (hj : j < per e s) :
    ((cyc e s).drop (c % (per e s : Int)).toNat ++ (cyc e s).take (c % (per e s : Int)).toNat)[j]? = some (rp e c (it e j s)) := by
  have hpos := per_pos E hs
  have h0 := Int.emod_nonneg c (show (per e s : Int) ≠ 0 by omega)
  have h1 := Int.emod_lt_of_pos c (show (0 : Int) < (per e s : Int) by omega)
  generalize hk : (c % (per e s : Int)).toNat = k
  have hkl : k < per e s := by omega
  have er : rp e c (it e j s) = it e (k + j) s := by
    unfold rp
    rw [per_it E hs, ← it_add, hk]
  rw [er]
  by_cases h : j < per e s - k
  · rw [List.getElem?_append_left (by rw [List.length_drop, cyc_len]; exact h), List.getElem?_drop, cyc_at (by omega)]
  · rw [List.getElem?_append_right (by rw [List.length_drop, cyc_len]; omega), List.length_drop, cyc_len, List.getElem?_take_of_lt (by omega), cyc_at (by omega)]
    refine congrArg some ?_
    rw [it_mod E hs (k + j)]
    congr 1
    rw [show k + j = (j - (per e s - k)) + per e s by omega, Nat.add_mod_right, Nat.mod_eq_of_lt (by omega)]
def spRepeated (K : PySem.W.Frag) : Sp := fun vs H Q _ => ∃ (a : Addr) (e : List Nat) (c : Int), vs = [.ref a, .int c] ∧ SqT K H a (vN e) ∧ Eff e ∧ e.length ≤ 1000 ∧ NewT H (rep e c) Q
end
end Sv


set_option maxHeartbeats 4000000
namespace Sv
open PySem PySem.Spec PyProof.Rows L2
def nInts (e : List Nat) : List Int := e.map fun (n : Nat) => (n : Int)
theorem vN_eq (e : List Nat) : (nInts e).map V.int = vN e := (vN_ints e).symm
theorem ints_len (e : List Nat) : (nInts e).length = e.length := by unfold nInts; simp
theorem effI_ints {e : List Nat} (E : Eff e) : EffI (nInts e) := effI_of E
theorem effI_to {ns : List Int} (h : EffI ns) : ∃ e, ns = nInts e ∧ Eff e := by
  have e1 : ns = nInts (ns.map Int.toNat) := by
    unfold nInts
    rw [List.map_map]
    have : ns.map id = ns := List.map_id _
    rw [show ns.map ((fun (n : Nat) => (n : Int)) ∘ Int.toNat) = ns.map id from List.map_congr_left fun x hx => Int.toNat_of_nonneg (h.1 x hx).1, this]
  refine ⟨_, e1, fun x hx => ?_, ?_⟩
  · obtain ⟨y, hy, rfl⟩ := List.mem_map.mp hx
    have := h.1 y hy
    rw [List.length_map]
    omega
  · refine List.pairwise_iff_getElem.mpr fun i j hi hj hij q => ?_
    simp only [List.getElem_map] at q
    simp at hi hj
    have h1 := (h.1 _ (List.getElem_mem hi)).1
    have h2 := (h.1 _ (List.getElem_mem hj)).1
    exact absurd ((List.getElem_inj h.2).mp (by omega : ns[i] = ns[j])) (by omega)
theorem ints_inj {e g : List Nat} (h : nInts e = nInts g) : e = g := by
  have := congrArg (fun l => l.map Int.toNat) h
  unfold nInts at this
  simpa [List.map_map, Function.comp_def] using this
section
variable {P : Program} {w : World} {K : PySem.W.Frag} {mg : Str → Option Value} {base : Heap}
abbrev tkX {X : Cx} {E : XK} (tk : Takes X fun cls d _ H => E cls d H) : Passes (L2.CX X.prog X.w) X E := passes_call tk fun _ _ _ _ h => h
/-! ### compose -/
def spCompose (K : PySem.W.Frag) (CE CD : Addr) : Sp := fun vs H Q E => ∃ (a b : Addr) (ns ms : List Int), vs = [.ref a, .ref b] ∧ SqT K H a (ns.map V.int) ∧ SqT K H b (ms.map V.int) ∧ ns.length ≤ 1000 ∧ ms.length ≤ 1000 ∧
  (¬ EffI ns → E (.ref CE) none H) ∧ (EffI ns → ¬ EffI ms → E (.ref CE) none H) ∧ (EffI ns → EffI ms → ns.length ≠ ms.length → E (.ref CD) none H) ∧ (∀ e g, ns = nInts e → ms = nInts g → Eff e → Eff g → e.length = g.length → NewT H (comp e g) Q)
/-! ### invert -/
def spInvert (K : PySem.W.Frag) (CE : Addr) : Sp := fun vs H Q E => ∃ (a : Addr) (ns : List Int), vs = [.ref a] ∧ SqT K H a (ns.map V.int) ∧ ns.length ≤ 1000 ∧ (¬ EffI ns → E (.ref CE) none H) ∧ (∀ e, ns = nInts e → Eff e → NewT H (inv e) Q)
/-! ### repeat -/
def spRepeat (K : PySem.W.Frag) (CE CC : Addr) : Sp := fun vs H Q E => ∃ (a : Addr) (ns : List Int) (c : Int), vs = [.ref a, .int c] ∧ SqT K H a (ns.map V.int) ∧ ns.length ≤ 1000 ∧ (¬ EffI ns → E (.ref CE) none H) ∧ (EffI ns → ¬ CtOk c → E (.ref CC) none H) ∧
  (∀ e, ns = nInts e → Eff e → CtOk c → NewT H (rep e c) Q)
/-! ### cycles -/
def spCycles (K : PySem.W.Frag) (CE : Addr) : Sp := fun vs H Q E => ∃ (a : Addr) (ns : List Int), vs = [.ref a] ∧ SqT K H a (ns.map V.int) ∧ ns.length ≤ 1000 ∧ (¬ EffI ns → E (.ref CE) none H) ∧ (∀ e, ns = nInts e → Eff e → NewLT H (wheels e) Q)
/-! ### order -/
def spOrder (K : PySem.W.Frag) (CE : Addr) : Sp := fun vs H Q E => ∃ (a : Addr) (ns : List Int), vs = [.ref a] ∧ SqT K H a (ns.map V.int) ∧ ns.length ≤ 63 ∧ (¬ EffI ns → E (.ref CE) none H) ∧ (∀ e, ns = nInts e → Eff e → ∀ H', Same H H' → Q (.int (ord e : Nat)) H')
end
end Sv


set_option maxHeartbeats 4000000
/-! a list extended by a tuple -/
namespace Sv
open PySem PySem.Spec PyProof.Rows L2
section
open AutoSeq1
theorem extend_tupG (l : Addr) (items : Array Value) (n : Nat) (b : Addr) (items2 : Array Value) (n2 : Nat) (dct : Option Addr) (sl : Array (Option Value)) (hs0 : ¬(!items.isEmpty && Builtin.List.listTooLong (items.size + items2.size)) = true) (hs1 : items.size ≤ sizeLine) (hs2 : items.size + items2.size ≤ sizeLine + 1) :
    Meets (Builtin.«list.extend» ⟨[.ref l, .ref b], []⟩) (fun _ R s => s.heap.get? l = some { cls := .type "list", dict := none, data := .seq items n, slots := #[] } ∧ s.heap.get? b = some { cls := .type "tuple", dict := dct, data := .seq items2 n2, slots := sl } ∧
      R (.ok (.ret Value.none)) { s with heap := s.heap.update l (Obj.mapSeq fun x => x ++ items2), toks := s.toks }) :=
  .of_wp fun prog w A R s h => by
    obtain ⟨hp, g, d, tk, os⟩ := s; obtain ⟨hl, hb, h⟩ := h; have f1 := AutoSeq1.idx_int; have f2 := AutoSeq1.sub_tuple_tuple; have f3 := AutoSeq1.sub_list_list; have f4 := AutoSeq1.sub_tuple_list; have f5 := AutoSeq1.sub_list_tuple;
    have hz' : (items ++ items2).size ≤ sizeLine + 1 := by rw [Array.size_append]; exact hs2
    wp_walk using (wpAny_updateSeq hl rfl (hz := hs1) (_hz' := hz')), wpAny_loadPart' hl, wpAny_loadPart' hb; exact ⟨_, rfl, h⟩
end
section
variable {X : Cx}
def rExtT (K : PySem.W.Frag) : V → List V → Hp → VK → Prop := fun x vs H Q => ∃ l b xs zs, x = .ref l ∧ vs = [.ref b] ∧ H l = some (.lst xs) ∧ SqT K H b zs ∧ xs.length + zs.length ≤ sizeLine ∧ Q .non (upd H l (.lst (xs ++ zs)))
theorem mt_extT : MtM X "list.extend" (rExtT X.K) := by
  intro pins s σ H x vs v us Q I rx rv h
  obtain ⟨l, b, xs, zs, rfl, rfl, hH, hB, hz, q⟩ := h
  cases rx
  obtain ⟨u, rfl, ru⟩ := rv.one
  cases ru
  obtain ⟨z, its, n, r, hl, e⟩ := I.lstM hH
  obtain ⟨its2, r2, ⟨⟨c, dct, dt, sl⟩, e2, hc, n2, hd⟩, z2⟩ := I.tuple hB
  obtain rfl : c = .type "tuple" := hc
  obtain rfl : dt = .seq its2.toArray n2 := hd
  have hl2 := r2.length
  have hsz : its.toArray.size + its2.toArray.size ≤ sizeLine := by rw [List.size_toArray, List.size_toArray]; omega
  have hlong : ¬ (!its.toArray.isEmpty && Builtin.List.listTooLong (its.toArray.size + its2.toArray.size)) = true := by
    rw [notLongL hsz, Bool.and_false]
    exact Bool.false_ne_true
  refine call_meets F.slot_list_extend ⟨_, e, rfl⟩ F.entry_list_extend (F.args_list_extend_2 _ _)
    (extend_tupG l its.toArray n b its2.toArray n2 dct sl hlong (by rw [List.size_toArray]; omega) (by omega)) ⟨e, e2, ?_⟩
  refine ⟨.non, _, I.lset (its' := its ++ its2) hH e (by simp) (r.append r2) ?_, rfl, q⟩
  rw [List.length_append]
  omega
end
end Sv


set_option maxHeartbeats 4000000
namespace Sv
open PySem PySem.Spec PyProof.Rows L2
/-! ### layouts in the heap -/
/-- a layout: who is carried, who lies where; the tuples may be constants -/
structure LayT (K : PySem.W.Frag) (H : Hp) (ca sh : Addr) (cs : List Int) (ss : List (List Int)) : Prop where
  c : SqT K H ca (cs.map V.int)
  s : ∃ qs : List Addr, SqT K H sh (qs.map V.ref) ∧ Paired (fun q s => SqT K H q (s.map V.int)) qs ss
theorem segT_imp {K : PySem.W.Frag} {H H' : Hp} (e : ∀ a xs, SqT K H a xs → SqT K H' a xs) : ∀ {qs : List Addr} {ss : List (List Int)}, Paired (fun q s => SqT K H q (s.map V.int)) qs ss → Paired (fun q s => SqT K H' q (s.map V.int)) qs ss
  | _, _, .nil => .nil
  | _, _, .cons h t => .cons (e _ _ h) (segT_imp e t)
theorem segT_len {K : PySem.W.Frag} {H : Hp} : ∀ {qs : List Addr} {ss : List (List Int)}, Paired (fun q s => SqT K H q (s.map V.int)) qs ss → qs.length = ss.length
  | _, _, .nil => rfl
  | _, _, .cons _ t => congrArg Nat.succ (segT_len t)
theorem segT_at {K : PySem.W.Frag} {H : Hp} : ∀ {qs : List Addr} {ss : List (List Int)} {i : Nat} {q : Addr}, Paired (fun q s => SqT K H q (s.map V.int)) qs ss → qs[i]? = some q → ∃ s, ss[i]? = some s ∧ SqT K H q (s.map V.int)
  | _, _, i, _, .nil, e => by simp at e
  | _, _, 0, q, .cons h t, e => by
    obtain rfl := Option.some.inj e
    exact ⟨_, rfl, h⟩
  | _, _, i + 1, q, .cons h t, e => segT_at (i := i) t (by simpa using e)
theorem segT_of {K : PySem.W.Frag} {H : Hp} : ∀ {qs : List Addr} {ss : List (List Int)}, SegV H qs ss → Paired (fun q s => SqT K H q (s.map V.int)) qs ss
  | _, _, .nil => .nil
  | _, _, .cons h t => .cons (.inl (.inl h)) (segT_of t)
theorem LayT.imp {K : PySem.W.Frag} {H H' : Hp} {ca sh : Addr} {cs : List Int} {ss : List (List Int)} (x : LayT K H ca sh cs ss) (e : ∀ a xs, SqT K H a xs → SqT K H' a xs) : LayT K H' ca sh cs ss := by
  obtain ⟨qs, h1, h2⟩ := x.s
  exact ⟨e _ _ x.c, qs, e _ _ h1, segT_imp e h2⟩
theorem LayT.same {K : PySem.W.Frag} {H H' : Hp} {ca sh : Addr} {cs : List Int} {ss : List (List Int)} (x : LayT K H ca sh cs ss) (e : Same H H') : LayT K H' ca sh cs ss := x.imp fun _ _ => sqT_same e
theorem LayAt.t {K : PySem.W.Frag} {H : Hp} {ca sh : Addr} {cs : List Int} {ss : List (List Int)} (x : LayAt H ca sh cs ss) : LayT K H ca sh cs ss := by
  obtain ⟨qs, h1, h2⟩ := x.s
  exact ⟨.inl (.inl x.c), qs, .inl (.inl h1), segT_of h2⟩
/-- lists of numbers at rw, each a list of its own -/
def RowL (H : Hp) (rw : List Addr) (ss : List (List Int)) : Prop := Paired (fun q s => H q = some (.lst (s.map V.int))) rw ss
theorem rowL_imp {H H' : Hp} : ∀ {rw : List Addr} {ss : List (List Int)}, (∀ q ∈ rw, ∀ o, H q = some o → H' q = some o) → RowL H rw ss → RowL H' rw ss
  | _, _, _, .nil => .nil
  | _, _, e, .cons h t => .cons (e _ (List.mem_cons_self ..) _ h) (rowL_imp (fun q hq => e q (List.mem_cons_of_mem _ hq)) t)
theorem rowL_len {H : Hp} : ∀ {rw : List Addr} {ss : List (List Int)}, RowL H rw ss → rw.length = ss.length
  | _, _, .nil => rfl
  | _, _, .cons _ t => congrArg Nat.succ (rowL_len t)
theorem rowL_at {H : Hp} : ∀ {rw : List Addr} {ss : List (List Int)} {i : Nat} {q : Addr}, RowL H rw ss → rw[i]? = some q → ∃ s, ss[i]? = some s ∧ H q = some (.lst (s.map V.int))
  | _, _, i, _, .nil, e => by simp at e
  | _, _, 0, q, .cons h t, e => by
    obtain rfl := Option.some.inj e
    exact ⟨_, rfl, h⟩
  | _, _, i + 1, q, .cons h t, e => rowL_at (i := i) t (by simpa using e)
theorem rowL_mem {H : Hp} {rw : List Addr} {ss : List (List Int)} (h : RowL H rw ss) {q : Addr} (hq : q ∈ rw) : ∃ xs, H q = some (.lst xs) := by
  obtain ⟨i, hi⟩ := List.mem_iff_getElem?.mp hq
  obtain ⟨s, _, e⟩ := rowL_at h hi
  exact ⟨_, e⟩
theorem rowL_free {H : Hp} {rw : List Addr} {ss : List (List Int)} (h : RowL H rw ss) {q : Addr} (hq : H q = none) : q ∉ rw := fun m => by
  obtain ⟨xs, e⟩ := rowL_mem h m
  rw [hq] at e
  cases e
theorem rowL_snoc {H : Hp} {q : Addr} {s : List Int} (h : H q = some (.lst (s.map V.int))) : ∀ {rw : List Addr} {ss : List (List Int)}, RowL H rw ss → RowL H (rw ++ [q]) (ss ++ [s])
  | _, _, .nil => .cons h .nil
  | _, _, .cons r t => .cons r (rowL_snoc h t)
theorem rowL_set {H : Hp} {s' : List Int} : ∀ {rw : List Addr} {ss : List (List Int)} {i : Nat} {q : Addr}, rw.Nodup → RowL H rw ss → rw[i]? = some q → RowL (upd H q (.lst (s'.map V.int))) rw (ss.set i s')
  | _, _, i, _, _, .nil, e => by simp at e
  | r :: rw, s :: ss, 0, q, nd, .cons h t, e => by
    obtain rfl := Option.some.inj e
    refine .cons upd_same (rowL_imp (fun b hb o ho => ?_) t)
    rw [upd_ne (fun z : b = r => (List.nodup_cons.mp nd).1 (by rw [← z]; exact hb))]
    exact ho
  | r :: rw, s :: ss, i + 1, q, nd, .cons h t, e => by
    have e' : rw[i]? = some q := by simpa using e
    refine .cons ?_ (rowL_set (List.nodup_cons.mp nd).2 t e')
    rw [upd_ne (fun z : r = q => (List.nodup_cons.mp nd).1 (by rw [z]; exact List.mem_of_getElem? e'))]
    exact h
/-! ### what is left and what is taken -/
def exch (L : Lay Int) (p : Nat × Nat) : List V := [.int (p.1 : Nat), .int (p.2 : Nat), .int (L.1.getD p.1 0), .int ((L.2.getD p.2 []).headD (L.1.getD p.1 0))]
def exN (ps : List (Nat × Nat)) (L : Lay Int) : Nat → List (List V)
  | 0 => []
  | k + 1 => exN ps L k ++ (match ps[k]? with | some p => [exch (steps (ps.take k) L) p] | none => [])
def exL (ps : List (Nat × Nat)) (L : Lay Int) : List (List V) := exN ps L ps.length
theorem exN_len (ps : List (Nat × Nat)) (L : Lay Int) : ∀ k, (exN ps L k).length ≤ k
  | 0 => Nat.le_refl _
  | k + 1 => by
    unfold exN
    rw [List.length_append]
    have := exN_len ps L k
    split <;> simp <;> omega
theorem exN_succ {ps : List (Nat × Nat)} {L : Lay Int} {k : Nat} {p : Nat × Nat} (h : ps[k]? = some p) : exN ps L (k + 1) = exN ps L k ++ [exch (steps (ps.take k) L) p] := by
  conv => lhs; unfold exN
  rw [h]
theorem steps_take {α : Type} {ps : List (Nat × Nat)} {L : Lay α} {k : Nat} {p : Nat × Nat} (h : ps[k]? = some p) : steps (ps.take (k + 1)) L = step1 (steps (ps.take k) L) p := by
  rw [List.take_add_one, h]
  exact steps_snoc _ _ _
/-- the visits of valid plans are there -/
theorem prs_ok {n : Int} {rs : List Ro} (hr : ∀ r ∈ rs, r ≠ [] ∧ ∀ e ∈ r, okE n e = true) (m : Int) : ∀ k, ∀ p ∈ prs rs m k, p.1 < rs.length ∧ 0 ≤ p.2 ∧ p.2 < n
  | 0, p, h => by cases h
  | k + 1, p, h => by
    unfold prs at h
    rcases List.mem_append.mp h with h | h
    · exact prs_ok hr m k p h
    · cases hk : rs[k]? with
      | none => rw [hk] at h; cases h
      | some r =>
        rw [hk] at h
        simp only at h
        cases he : ent r m with
        | none => rw [he] at h; cases h
        | some z =>
          rw [he] at h
          rw [List.mem_singleton.mp h]
          have hmem := List.mem_of_getElem? hk
          obtain ⟨hne, hok⟩ := hr r hmem
          have h1 := (ent_get hne m).1
          rw [he] at h1
          have h2 := hok _ (List.mem_of_getElem? h1)
          unfold okE at h2
          have h3 := of_decide_eq_true h2
          exact ⟨(List.getElem?_eq_some_iff.mp hk).1, h3.1, by have := h3.2; omega⟩
theorem vis_ok {n : Nat} {rs : List Ro} (hr : ∀ r ∈ rs, r ≠ [] ∧ ∀ e ∈ r, okE n e = true) (m : Int) : ∀ p ∈ vis rs m, p.1 < rs.length ∧ p.2 < n := fun p hp => by
  unfold vis at hp
  obtain ⟨q, hq, rfl⟩ := List.mem_map.mp hp
  have := prs_ok hr m _ q hq
  exact ⟨this.1, by show q.2.toNat < n; omega⟩
theorem prs_meet (rs : List Ro) (m : Int) : ∀ k, meetN rs m k = (prs rs m k).map fun p => pairV p.1 p.2
  | 0 => rfl
  | k + 1 => by
    unfold meetN prs
    rw [prs_meet rs m k, List.map_append]
    congr 1
    cases rs[k]? with
    | none => rfl
    | some r =>
      simp only
      cases ent r m with
      | none => rfl
      | some z => rfl
theorem meets_vis {n : Nat} {rs : List Ro} (hr : ∀ r ∈ rs, r ≠ [] ∧ ∀ e ∈ r, okE n e = true) (m : Int) : meets rs m = (vis rs m).map fun p => pairV p.1 (p.2 : Nat) := by
  unfold meets vis
  rw [prs_meet, List.map_map]
  refine List.map_congr_left fun p hp => ?_
  have := prs_ok hr m _ p hp
  show pairV p.1 p.2 = pairV p.1 ((p.2.toNat : Nat) : Int)
  rw [Int.toNat_of_nonneg this.2.1]
end Sv


set_option maxHeartbeats 4000000
namespace Sv
open PySem PySem.Spec PyProof.Rows L2
/-- a plan that is valid, its entries too -/
structure Val (zs : List Int) (rs : List Ro) : Prop extends Good zs rs where
  e : ∀ r ∈ rs, ∀ e ∈ r, okE zs.length e = true
theorem val_of {zs : List Int} {rs : List Ro} (h : bad zs rs = none) : Val zs rs := by
  refine ⟨good_of h, ?_⟩
  unfold bad at h
  cases hb : badS zs with
  | some i => rw [hb] at h; cases h
  | none =>
    rw [hb] at h
    simp only [Option.map_eq_none_iff] at h
    unfold badR at h
    split at h
    · rw [Option.map_eq_none_iff] at h
      intro r hr e he
      have := fst_all h r hr
      unfold okR at this
      rw [Bool.and_eq_true, List.all_eq_true] at this
      exact this.2 e he
    · cases h
theorem Val.bad {zs : List Int} {rs : List Ro} (v : Val zs rs) : bad zs rs = none := by
  have h1 : badS zs = none := by
    unfold badS
    rw [if_pos v.z1, fst_none (p := okZ) (fun j y hy => decide_eq_true (v.z2 y (List.mem_of_getElem? hy)))]
    rfl
  have h2 : badR zs.length rs = none := by
    unfold badR
    rw [if_pos v.r1, fst_none (fun j y hy => ?_)]
    · rfl
    · unfold okR
      rw [decide_eq_true (v.r2 y (List.mem_of_getElem? hy)), Bool.true_and, List.all_eq_true]
      exact v.e y (List.mem_of_getElem? hy)
  unfold Sv.bad
  rw [h1]
  simp [h2]
theorem Val.small {zs : List Int} {rs : List Ro} (v : Val zs rs) : Small zs rs := ⟨by have := v.z1; omega, by have := v.r1; omega, fun r hr => by have := v.r2 r hr; omega⟩
theorem Val.ro {zs : List Int} {rs : List Ro} (v : Val zs rs) : ∀ r ∈ rs, r ≠ [] ∧ ∀ e ∈ r, okE zs.length e = true := fun r hr => ⟨(v.ne r hr).1, v.e r hr⟩
theorem Val.num {zs : List Int} {rs : List Ro} (v : Val zs rs) : rs.length + sumN zs ≤ 200 := by
  have := sumN_le v.z2
  have := v.z1
  have := v.r1
  omega
section
variable {P : Program} {w : World} {K : PySem.W.Frag} {mg : Str → Option Value} {base : Heap}
/-! ### join_layout -/
def nJo : List Str := ["carried", "shelves", "contents", "shelf"]
/-- a new list of numbers -/
def NewL (H : Hp) (l : List Int) (Q : VK) : Prop := ∀ H' f, Same H H' → H f = none → H' f = some (.lst (l.map V.int)) → Q (.ref f) H'
def spJoin (K : PySem.W.Frag) : Sp := fun vs H Q _ => ∃ (ca sh : Addr) (cs : List Int) (ss : List (List Int)), vs = [.ref ca, .ref sh] ∧ LayT K H ca sh cs ss ∧ cs.length + ss.flatten.length ≤ 1000 ∧ NewL H (cs ++ ss.flatten) Q
theorem flat_take {α : Type} {ss : List (List α)} {i : Nat} {s : List α} (h : ss[i]? = some s) : (ss.take (i + 1)).flatten = (ss.take i).flatten ++ s := by
  rw [List.take_add_one, h, List.flatten_append]
  simp
theorem flat_take_len {α : Type} (ss : List (List α)) (i : Nat) : (ss.take i).flatten.length ≤ ss.flatten.length := by
  have h := congrArg (fun l => (List.flatten l).length) (List.take_append_drop i ss)
  simp only [List.flatten_append, List.length_append] at h
  omega
end
end Sv


set_option maxHeartbeats 4000000
namespace Sv
open PySem PySem.Spec PyProof.Rows L2
section
variable {P : Program} {w : World} {K : PySem.W.Frag} {mg : Str → Option Value} {base : Heap}
/-! ### after_tick -/
def rLo (K : PySem.W.Frag) : List V → Hp → VK → Prop := fun xs H Q => ∃ p ys, xs = [.ref p] ∧ (SqL K H p ys ∨ SqT K H p ys) ∧ ∀ l, H l = none → Q (.ref l) (upd H l (.lst ys))
def rTo (K : PySem.W.Frag) : List V → Hp → VK → Prop := fun xs H Q => ∃ p ys, xs = [.ref p] ∧ ((SqL K H p ys ∧ ∀ l, H l = none → Q (.ref l) (upd H l (.tup ys))) ∨ (SqT K H p ys ∧ Q (.ref p) H))
def nAt : List Str := ["plan", "number", "carried", "shelves", "hands", "rows", "exchanges", "carrier", "shelf", "left", "taken", "row"]
def spAfterTick (K : PySem.W.Frag) : Sp := fun vs H Q _ => ∃ (p ca sh : Addr) (n : Int) (zs : List Int) (rs : List Ro) (L : Lay Int), vs = [.ref p, .int n, .ref ca, .ref sh] ∧ PlanAt K H p zs rs ∧ Val zs rs ∧ LayT K H ca sh L.1 L.2 ∧ Fits rs.length zs L ∧
  ∀ H' t c' s' x, Same H H' → H' t = some (.tup [.ref c', .ref s', .ref x]) → LayT K H' c' s' (tickL rs (n - 1) L).1 (tickL rs (n - 1) L).2 → TL H' x (exL (vis rs (n - 1)) L) → H x = none → Q (.ref t) H'
theorem fit_at {n : Nat} {zs : List Int} {L : Lay Int} (h : Fits n zs L) : L.1.length = n ∧ L.2.length = zs.length := ⟨h.1, by have := congrArg List.length h.2; simpa using this⟩
theorem fit_row {n : Nat} {zs : List Int} {L : Lay Int} (h : Fits n zs L) (hz : ∀ z ∈ zs, 0 ≤ z ∧ z ≤ 9) {i : Nat} {s : List Int} (e : L.2[i]? = some s) : s.length ≤ 9 := by
  have h1 : (L.2.map List.length)[i]? = some s.length := by rw [List.getElem?_map, e]; rfl
  rw [h.2, List.getElem?_map] at h1
  cases hz1 : zs[i]? with
  | none => rw [hz1] at h1; cases h1
  | some z =>
    rw [hz1] at h1
    have := hz z (List.mem_of_getElem? hz1)
    have := Option.some.inj h1
    omega
theorem mtch_eq {α : Type} {L : Lay α} {p : Nat × Nat} {x : α} {row : List α} (h1 : L.1[p.1]? = some x) (h2 : L.2[p.2]? = some row) : step1 L p = (L.1.set p.1 (row.headD x), L.2.set p.2 (row ++ [x]).tail) := by
  unfold step1
  rw [h1, h2]
theorem exch_eq {L : Lay Int} {p : Nat × Nat} {x : Int} {row : List Int} (h1 : L.1[p.1]? = some x) (h2 : L.2[p.2]? = some row) : exch L p = [.int (p.1 : Nat), .int (p.2 : Nat), .int x, .int (row.headD x)] := by
  unfold exch
  rw [List.getD_eq_getElem?_getD, h1, List.getD_eq_getElem?_getD, h2]
  rfl
theorem vis_len (rs : List Ro) (m : Int) : (vis rs m).length ≤ rs.length := by
  unfold vis
  rw [List.length_map]
  have := meetN_len rs m rs.length
  rw [prs_meet, List.length_map] at this
  exact this
theorem tupsV_at {H : Hp} : ∀ {ps : List Addr} {ts : List (List V)} {i : Nat} {p : Addr}, TupsV H ps ts → ps[i]? = some p → ∃ t, ts[i]? = some t ∧ H p = some (.tup t)
  | _, _, i, _, .nil, e => by simp at e
  | _, _, 0, q, .cons h t, e => by
    obtain rfl := Option.some.inj e
    exact ⟨_, rfl, h⟩
  | _, _, i + 1, q, .cons h t, e => tupsV_at (i := i) t (by simpa using e)
end
end Sv


set_option maxHeartbeats 4000000
namespace Sv
open PySem PySem.Spec PyProof.Rows L2
theorem for_enumL {K : PySem.W.Frag} {a : Addr} {xs : List V} {g : TG} {tb : TS} {D : Ends} {σ : L2.St} {H : Hp} (Pv : Nat → L2.St → Hp → Prop) (h0 : Pv 0 σ H) (hl : ∀ i σ H, i ≤ xs.length → Pv i σ H → SqL K H a xs)
    (turn : ∀ i x σ H T, xs[i]? = some x → Pv i σ H → H T = none → g (.ref T) σ (upd H T (.tup [.int (i : Nat), x])) fun σ' H' => tb { nx := fun σ2 H2 => Pv (i + 1) σ2 H2, rt := D.rt, bk := D.nx, ct := fun σ2 H2 => Pv (i + 1) σ2 H2 } σ' H')
    (after : ∀ σ H, Pv xs.length σ H → D.nx σ H) : ∃ W : Nat → Nat → L2.St → Hp → Prop, (∃ m, W 0 m σ H) ∧ ∀ i m σ H, W i m σ H →
      ((Ite K a).stop i H ∧ D.nx σ H) ∨ ((Ite K a).go i H ∧ ∃ Nx : L2.St → Hp → Prop, (∀ σ' H', Nx σ' H' → ∃ m', m' < m ∧ W (i + 1) m' σ' H') ∧ ∀ x H', (Ite K a).yld i H x H' → g x σ H' fun σ2 H2 => tb { nx := Nx, rt := D.rt, bk := D.nx, ct := Nx } σ2 H2) := by
  refine ⟨fun i m σ H => i + m = xs.length ∧ Pv i σ H, ⟨xs.length, Nat.zero_add _, h0⟩, fun i m σ H ⟨em, hP⟩ => ?_⟩
  have hS := hl i σ H (by omega) hP
  by_cases hi : i < xs.length
  · have gx : xs[i]? = some xs[i] := List.getElem?_eq_getElem hi
    refine .inr ⟨⟨xs, _, hS, gx⟩, fun σ' H' => Pv (i + 1) σ' H', fun σ' H' h => ⟨m - 1, by omega, by omega, h⟩, fun x H' hy => ?_⟩
    obtain ⟨T, y, rfl, nT, rfl, hy⟩ := hy
    have ey : y = xs[i] := Option.some.inj ((hy xs hS).symm.trans gx)
    rw [ey]
    exact turn i _ σ H T gx hP nT
  · have e : i = xs.length := by omega
    refine .inl ⟨⟨xs, hS, by omega⟩, after σ H ?_⟩
    rw [← e]
    exact hP


section
variable {P : Program} {w : World} {K : PySem.W.Frag} {mg : Str → Option Value} {base : Heap}
/-! ### inverse of a list -/
def spInverseL (K : PySem.W.Frag) : Sp := fun vs H Q _ => ∃ (a : Addr) (e : List Nat), vs = [.ref a] ∧ SqL K H a (vN e) ∧ Eff e ∧ e.length ≤ 1000 ∧ NewT H (inv e) Q
/-! ### effect_of_few -/
def iN (l : List Nat) : List Int := l.map fun (n : Nat) => (n : Int)
theorem iN_V (l : List Nat) : (iN l).map V.int = vN l := by unfold iN vN; rw [List.map_map]; rfl
theorem rgV_iN (n : Nat) : rgV 0 (n : Int) = (iN (List.range n)).map V.int := by
  rw [iN_V]
  unfold rgV vN
  simp
def nEf : List Str := ["plan", "time", "count", "carried", "shelves", "step", "_"]
def spEffectFew (K : PySem.W.Frag) : Sp := fun vs H Q _ => ∃ (p : Addr) (t : Int) (k : Nat) (zs : List Int) (rs : List Ro), vs = [.ref p, .int t, .int (k : Nat)] ∧ PlanAt K H p zs rs ∧ Val zs rs ∧ k ≤ 1000 ∧ NewT H (fwd rs.length zs rs t k) Q
/-- a layout of numbers of places -/
def iL (L : Lay Nat) : Lay Int := mapL (fun (n : Nat) => (n : Int)) L
theorem spl_iN (n : Nat) (zs : List Int) (l : List Nat) : spl n zs (iN l) = iL (spl n zs l) := spl_map _ n zs l
theorem run_iL (rs : List Ro) (t : Int) (k : Nat) (L : Lay Nat) : run rs t k (iL L) = iL (run rs t k L) := run_map _ rs t k L
end
end Sv


set_option maxHeartbeats 4000000
/-! a local that is given a new dict, made by a comprehension over a list -/
namespace Sv
open PySem PySem.Spec PyProof.Rows L2
section
variable {Z : Cx}
/-- a rule for each block of a comprehension -/
abbrev AllBlk (Z : Cx) (sc : Scope) (R : Cx → Prop) : Prop := ∀ (s : Shared) (H : Hp) (c0 : Addr) (cl : List (Str × Addr)) (fp : List Addr), R (Z.blk s H sc (compEnvC sc cl c0 Z.env) fp)
theorem swD_yes {ke ve : Expr} {gens : List Comprehension} {sc : Scope} {dp np : Pos} {nm : Str} {ln : Nat} {ev : Env} (h1 : ev.scope.kind = .function) (h2 : ev.scope.names.lookup nm = some .local) (h3 : (np.line == dp.line) = true)
    (h4 : (sc.names.any fun (a, b) => a == nm && (b == .local || b == .cell)) = false) : swapsWith (.DictComp ke ve gens sc dp) (some (.Name nm np)) ln ev = pure true := by
  have e1 : ev.kindOf nm = some .local := h2
  have e2 : ev.blockKind = .function := by
    unfold Env.blockKind
    rw [h1]
    rfl
  unfold swapsWith
  simp only [e2, e1, h4, Expr.pos, h3]
  rfl
theorem ps_setDc {j : Nat} {nm : Str} {np dp sp : Pos} {ke ve tg it : Expr} {ifs : List Expr} {sc : Scope} {own : List (Str × Nat)} {wi : TI} {g : TG} {tt : TT} {tk tv : TE} (calm : Z.calm = true) (nd : Z.N.Nodup) (hj : Z.N[j]? = some nm) (hl : Z.env.scope.names.lookup nm = some .local)
    (sw : swapsWith (.DictComp ke ve [⟨tg, it, ifs, 0⟩] sc dp) (some (.Name nm np)) sp.line Z.env = pure true) (pi : PI Z tg it wi) (ok : BlkOk Z.N Z.env.scope sc own)
    (p1 : AllBlk Z sc fun B => PG B tg g) (p2 : AllBlk Z sc fun B => PTs B ifs tt) (p3 : AllBlk Z sc fun B => PE B ke tk) (p4 : AllBlk Z sc fun B => PE B ve tv) (fi : ∀ x, foldedSetIterable it Z.env x = pure x := by intro _; rfl) :
    PS Z (.Assign [.Name nm np] (.DictComp ke ve [⟨tg, it, ifs, 0⟩] sc dp) sp) (tAsg (tDc wi g tt tk tv (own.map (·.2))) (gName j)) := by
  refine ⟨fun pins s σ H D I hq0 => ?_⟩
  rw [exec_Assign_Name_used _ _ _ _ sw]
  refine wpAny_bind (wpAny_standAt (wpAny_bind ?_))
  show wpAny _ Z.A (do let _ ← comprehension (.DictComp ke ve [⟨tg, it, ifs, 0⟩] sc dp) sc Z.env (firstIterPos [⟨tg, it, ifs, 0⟩] dp) newDict false (eval it Z.env) (some (assign (.Name nm np) Z.env))) _ _ s
  have hq : tDc wi g tt tk tv (own.map (·.2)) σ H (fun x H1 => gName j x σ H1 D.nx) := hq0
  refine wpAny_bind (thn (dc_core (Qf := fun _ s' => SP Z pins D .next s') calm nd I pi ok p1 p2 p3 p4 fi hq fun d c s1 m1 H1 I1 q1 hns fr => ?_) fun _ s1 h => wpAny_pure (wpAny_pure h))
  show wpAny _ _ (assign (.Name nm np) Z.env (.ref d)) _ _ _
  obtain ⟨x0, x1, x2, x3, x4, x5⟩ := fr
  refine wpAny_assign_Name (store_ok2 (v := V.ref d) I1 nd hj (.inl hl) rfl (fun s2 I2 ⟨a, sb, ha⟩ => ?_) (.inr hl))
  have ne : c ≠ a := by
    rcases ha with z | z
    · rw [z]
      exact x1
    · exact fun e => x4 nm a z e.symm
  exact ⟨m1, hns.sameBut sb ne, fun h3 sb3 => ⟨_, H1, I2.turned (t' := s2.toks) (fun b o hb e => (sb3.2 b hb).trans e) x0 x1 x3 x4 x5, q1⟩⟩
end
/-- the dict is made by the items of a list -/
theorem dc_list {K : PySem.W.Frag} {a : Addr} {xs : List V} {g : TG} {tt : TT} {tk tv : TE} {vs : List Nat} {σ : L2.St} {H1 : Hp} {D : Addr} {Qd : Hp → Prop} (Pv : Nat → Hp → Prop) (start : Pv 0 (upd H1 D (.dK []))) (stays : ∀ i H, i ≤ xs.length → Pv i H → SqL K H a xs)
    (turn : ∀ i x H, xs[i]? = some x → Pv i H → g x (wipe σ vs) H fun σ2 H2 => wipe σ2 vs = wipe σ vs ∧ tt σ2 H2 fun b H3 =>
      if b = true then tk σ2 H3 fun y H4 => tv σ2 H4 fun z H5 => ∃ kvs k, y = kV k ∧ H5 D = some (.dK kvs) ∧ kvs.length < sizeLine ∧ Pv (i + 1) (upd H5 D (.dK (putK kvs k z))) else Pv (i + 1) H3) (after : ∀ H, Pv xs.length H → Qd H) :
    ∃ W : Nat → Nat → Hp → Prop, (∃ m, W 0 m (upd H1 D (.dK []))) ∧ ∀ i m H, W i m H →
      ((Itl K a).stop i H ∧ Qd H) ∨ ((Itl K a).go i H ∧ ∃ Nx : Hp → Prop, (∀ H', Nx H' → ∃ m', m' < m ∧ W (i + 1) m' H') ∧ ∀ x H', (Itl K a).yld i H x H' → g x (wipe σ vs) H' fun σ2 H2 => wipe σ2 vs = wipe σ vs ∧ tt σ2 H2 fun b H3 =>
        if b = true then tk σ2 H3 fun y H4 => tv σ2 H4 fun z H5 => ∃ kvs k, y = kV k ∧ H5 D = some (.dK kvs) ∧ kvs.length < sizeLine ∧ Nx (upd H5 D (.dK (putK kvs k z))) else Nx H3) := by
  refine ⟨fun i m H => m = xs.length - i ∧ i ≤ xs.length ∧ Pv i H, ⟨xs.length, by simp, Nat.zero_le _, start⟩, fun i m H ⟨em, hi, p⟩ => ?_⟩
  subst em
  have st := stays i H hi p
  rcases Nat.lt_or_ge i xs.length with lt | ge
  · refine .inr ⟨⟨xs, xs[i], st, by simp [lt]⟩, Pv (i + 1), fun H' p' => ⟨xs.length - (i + 1), by omega, rfl, lt, p'⟩, fun x H' yl => ?_⟩
    obtain ⟨e, yl⟩ := yl
    subst e
    exact turn i x _ (yl xs st) p
  · obtain rfl : i = xs.length := by omega
    exact .inl ⟨⟨xs, st, Nat.le_refl _⟩, after H p⟩
end Sv


set_option maxHeartbeats 4000000
/-! the place of a plain item in a tuple -/
namespace Sv
open PySem PySem.Spec PyProof.Rows L2
def rIxOfT (K : PySem.W.Frag) : V → List V → Hp → VK → Prop := fun x xs H Q => ∃ (p : Addr) (ys : List V) (y z : V) (j : Nat), x = V.ref p ∧ xs = [y] ∧ SqT K H p ys ∧ flatV y = true ∧ ys.all flatV = true ∧ ys[j]? = some z ∧ eqV z y = true ∧
  (∀ (m : Nat) (v : V), m < j → ys[m]? = some v → eqV v y = false) ∧ Q (.int (j : Nat)) H
theorem mt_tupIx {X : Cx} : MtR X "tuple.index" (rIxOfT X.K) := by
  intro pins s σ H x xs v us Q I rx rs hQ
  obtain ⟨p, ys, y, z, j, rfl, rfl, hq, g1, g2, hz, hzy, before, q⟩ := hQ
  cases rx
  obtain ⟨u0, rfl, ru0⟩ : ∃ u0, us = [u0] ∧ RelV y u0 := by
    cases rs with
    | cons a b =>
      cases b
      exact ⟨_, rfl, a⟩
  obtain ⟨its, r, pl, -⟩ := I.tuple hq
  obtain ⟨⟨c0, dd, d0, sl⟩, ho, hc, n, hd⟩ := pl
  simp only at hc hd
  subst hc hd
  have len : its.length = ys.length := r.length.symm
  have item : ∀ (m : Nat) (hm : m < its.toArray.size) (v : V), ys[m]? = some v → eqU y its.toArray[m] = eqV v y := fun m hm v hv => by
    obtain ⟨w, hw, rw'⟩ := r.get hv
    have e : its.toArray[m] = w := by simpa using (List.getElem?_eq_some_iff.mp hw).2
    rw [e, eqU_of rw' (flat_at g2 hv)]
  have hj : j < its.toArray.size := by
    have := (List.getElem?_eq_some_iff.mp hz).1
    rw [List.size_toArray]
    omega
  refine call_meets PySem.F.slot_tuple_index ⟨_, ho, rfl⟩ PySem.F.entry_tuple_index (PySem.F.args_tuple_index_2 _ _) (TI.tuple_indexAt p its.toArray n dd sl u0 (eqU y) j hj ((item j hj z hz).trans hzy) fun m hm lt => ?_)
    ⟨ho, fun w hw => mem_eqAt ru0 g1 r g2 w (by simpa using hw), .int (j : Nat), H, I.tok _, ⟨_, rfl⟩, q⟩
  have hm' : m < ys.length := by
    rw [List.size_toArray] at hm
    omega
  have hv := List.getElem?_eq_getElem hm'
  exact (item m hm _ hv).trans (before m _ lt hv)
/-! ### a new tuple that is known to have no attributes of its own, and its methods -/
section
variable {Z : Cx}
theorem mk_tupF : CallR Z (.type "tuple") (fun xs H Q => ∃ p ys, xs = [.ref p] ∧ SqL Z.K H p ys ∧ ((∀ l, H l = none → Q (.ref l) (upd H l (.tup ys))) ∨ ∀ l o, H l = none → o.dict = none → Q (.ref l) (upd H l (.frz o (.tup ys))))) := by
  intro pins s σ H xs us Q I rv hq
  obtain ⟨p, ys, rfl, hs, q⟩ := hq
  obtain ⟨u, rfl, ru⟩ : ∃ u, us = [u] ∧ RelV (.ref p) u := by
    cases rv with
    | cons a b =>
      cases b
      exact ⟨_, rfl, a⟩
  cases ru
  obtain ⟨its, vv, pl, hz⟩ := I.list hs
  have hle := vv.length
  refine call_tuple_list pl.isList (fun g kp => ?_) (by simp only [List.size_toArray] <;> omega)
  have J : Inv Z pins σ H { s with heap := g } := I.kept (t' := s.toks) kp
  have old : ∀ b u, g.get? b = some u → (g.push { cls := .type "tuple", data := .seq its.toArray }).get? b = some u := fun b u e => Heap.get?_push_of_some _ e
  have fr := J.hok.fresh (Nat.le_refl g.objs.size)
  rcases q with q | q
  · exact ⟨.ref g.objs.size, _, J.laid (o := .tup ys) (t' := s.toks) old (Nat.le_refl _) ⟨hz, its, vv, IsTup.new _ _⟩, rfl, q _ fr⟩
  · exact ⟨.ref g.objs.size, _, J.laid (o := .frz { cls := .type "tuple", data := .seq its.toArray } (.tup ys)) (t' := s.toks) old (Nat.le_refl _) ⟨Heap.get?_push_size g rfl, hz, its, vv, IsTup.new _ _⟩, rfl, q _ _ fr rfl⟩
/-- o.m(..), o such a tuple -/
def tTupM (r : V → List V → Hp → VK → Prop) (to : TE) (t : TA) : TE := fun σ H Q => to σ H fun x H1 => (∃ p o ys, x = .ref p ∧ H1 p = some (.frz o (.tup ys)) ∧ o.dict = none) ∧ t σ H1 fun xs H2 => r x xs H2 Q
theorem pe_tupM {ob e : Expr} {es : List Expr} {to : TE} {t : TA} {nm : Str} {ap cp : Pos} {bid : String} {r : V → List V → Hp → VK → Prop} (sl : Slot "tuple" nm bid) (ty : typeOf (.builtin bid) = pure (.type "method_descriptor")) (rule : MtR Z bid r) (h1 : PE Z ob to) (h2 : PA Z (e :: es) t)
    (a1 : attributeBase ob nm Z.env (eval ob Z.env) = eval ob Z.env := by rfl)
    (a2 : ((backTo cp (starEach (e :: es) Z.env)).all (fun x => !x.1) && (backToKw cp (keywordEach [] Z.env)).all (fun x => x.1.isSome) && decide ((e :: es).length + ([] : List Keyword).length + (if ([] : List Keyword).isEmpty then 0 else 1) < 30)) = true := by rfl)
    (a3 : (ap.endLine == cp.line) = true := by rfl) (a4 : starEach (e :: es) Z.env = (false, eval e Z.env) :: starEach es Z.env := by rfl) (a5 : (backTo cp (starEach es Z.env)).any (·.1) = false := by rfl) :
    PE Z (.Call (.Attribute ob nm ap) (e :: es) [] cp) (tTupM r to t) := by
  refine ⟨fun pins s σ H Q I h => wpAny_Call_method_late a1 a2 a3 rfl (thn (h1.run pins s σ H _ I h) fun v s1 hv => ?_)⟩
  obtain ⟨x, H1, I1, r1, ⟨p, o, ys, rfl, hp, hd⟩, q1⟩ := hv
  cases r1
  obtain ⟨g1, _, its, _, o2, g2, c2, _⟩ := (show ObjOk Z.prog Z.w H1 s1.heap p (.frz o (.tup ys)) from I1.hok p _ hp)
  obtain rfl : o = o2 := Option.some.inj (g1.symm.trans g2)
  refine ⟨"tuple", bid, PySem.F.plainAttrs_tuple, sl, ty, ⟨o, g1, c2⟩, fun a ea => by cases ea; exact ⟨o, g1, hd⟩, ?_⟩
  have hA := h2.run cp pins s1 σ H1 _ I1 q1
  rw [a4] at hA ⊢
  refine Calls.callWith_builtin (by show (false || (backTo cp (starEach es Z.env)).any (·.1)) = false; rw [a5] <;> rfl) (Calls.evalArgs_plain (thn hA fun us s2 hu => ?_))
  obtain ⟨vs, H2, I2, r2, q2⟩ := hu
  exact rule pins s2 σ H2 (.ref p) vs (.ref p) us Q I2 rfl r2 q2
end
end Sv


set_option maxHeartbeats 4000000
namespace Sv
open PySem PySem.Spec PyProof.Rows L2
/-! ### rows of any values, each a list of its own -/
def RowV (H : Hp) (rw : List Addr) (ss : List (List V)) : Prop := Paired (fun q s => H q = some (.lst s)) rw ss
theorem rowV_imp {H H' : Hp} : ∀ {rw : List Addr} {ss : List (List V)}, (∀ q ∈ rw, ∀ o, H q = some o → H' q = some o) → RowV H rw ss → RowV H' rw ss
  | _, _, _, .nil => .nil
  | _, _, e, .cons h t => .cons (e _ (List.mem_cons_self ..) _ h) (rowV_imp (fun q hq => e q (List.mem_cons_of_mem _ hq)) t)
theorem rowV_len {H : Hp} : ∀ {rw : List Addr} {ss : List (List V)}, RowV H rw ss → rw.length = ss.length
  | _, _, .nil => rfl
  | _, _, .cons _ t => congrArg Nat.succ (rowV_len t)
theorem rowV_at {H : Hp} : ∀ {rw : List Addr} {ss : List (List V)} {i : Nat} {q : Addr}, RowV H rw ss → rw[i]? = some q → ∃ s, ss[i]? = some s ∧ H q = some (.lst s)
  | _, _, i, _, .nil, e => by simp at e
  | _, _, 0, q, .cons h t, e => by
    obtain rfl := Option.some.inj e
    exact ⟨_, rfl, h⟩
  | _, _, i + 1, q, .cons h t, e => rowV_at (i := i) t (by simpa using e)
theorem rowV_mem {H : Hp} {rw : List Addr} {ss : List (List V)} (h : RowV H rw ss) {q : Addr} (hq : q ∈ rw) : ∃ xs, H q = some (.lst xs) := by
  obtain ⟨i, hi⟩ := List.mem_iff_getElem?.mp hq
  obtain ⟨s, _, e⟩ := rowV_at h hi
  exact ⟨_, e⟩
theorem rowV_free {H : Hp} {rw : List Addr} {ss : List (List V)} (h : RowV H rw ss) {q : Addr} (hq : H q = none) : q ∉ rw := fun m => by
  obtain ⟨xs, e⟩ := rowV_mem h m
  rw [hq] at e
  cases e
theorem rowV_snoc {H : Hp} {q : Addr} {s : List V} (h : H q = some (.lst s)) : ∀ {rw : List Addr} {ss : List (List V)}, RowV H rw ss → RowV H (rw ++ [q]) (ss ++ [s])
  | _, _, .nil => .cons h .nil
  | _, _, .cons r t => .cons r (rowV_snoc h t)
theorem rowV_set {H : Hp} {s' : List V} : ∀ {rw : List Addr} {ss : List (List V)} {i : Nat} {q : Addr}, rw.Nodup → RowV H rw ss → rw[i]? = some q → RowV (upd H q (.lst s')) rw (ss.set i s')
  | _, _, i, _, _, .nil, e => by simp at e
  | r :: rw, s :: ss, 0, q, nd, .cons h t, e => by
    obtain rfl := Option.some.inj e
    refine .cons upd_same (rowV_imp (fun b hb o ho => ?_) t)
    rw [upd_ne (fun z : b = r => (List.nodup_cons.mp nd).1 (by rw [← z]; exact hb))]
    exact ho
  | r :: rw, s :: ss, i + 1, q, nd, .cons h t, e => by
    have e' : rw[i]? = some q := by simpa using e
    refine .cons ?_ (rowV_set (List.nodup_cons.mp nd).2 t e')
    rw [upd_ne (fun z : r = q => (List.nodup_cons.mp nd).1 (by rw [z]; exact List.mem_of_getElem? e'))]
    exact h
/-! ### all but one object stays -/
def Ox (x : Addr) (H H' : Hp) : Prop := ∀ b o, b ≠ x → H b = some o → H' b = some o
section
variable {x q : Addr} {H H1 H2 : Hp} {o : HO}
theorem Ox.refl (x : Addr) (H : Hp) : Ox x H H := fun _ _ _ e => e
theorem Ox.then (a : Ox x H H1) (b : Same H1 H2) : Ox x H H2 := fun c u n e => b _ _ (a c u n e)
theorem Ox.put (a : Ox x H H1) (o : HO) : Ox x H (upd H1 x o) := fun c u n e => by
  rw [upd_ne n]
  exact a c u n e
theorem Ox.at (a : Ox x H H1) (n : H q = none) (o : HO) : Ox x H (upd H1 q o) := fun c u m e => by
  rw [upd_ne (fun z => by rw [z, n] at e; cases e)]
  exact a c u m e
theorem Ox.free (a : Ox x H H1) (hx : H1 x = some o) (n : H1 q = none) : H q = none := by
  cases e : H q with
  | none => rfl
  | some u =>
    have : q ≠ x := fun z => by rw [z, hx] at n; cases n
    rw [a q u this e] at n
    cases n
theorem sqT_ox {K : PySem.W.Frag} {C dx : Addr} {fs : List (Str × V)} (hx : H x = some (.ins C dx fs)) (e : Ox x H H1) : ∀ a xs, SqT K H a xs → SqT K H1 a xs := fun a xs h => by
  have ne : ∀ u, H a = some u → (∀ C dx fs, u ≠ .ins C dx fs) → a ≠ x := fun u h1 h2 z => by
    rw [z, hx] at h1
    exact h2 _ _ _ (Option.some.inj h1).symm
  rcases h with (h | ⟨u, h⟩) | h
  · exact .inl (.inl (e _ _ (ne _ h fun _ _ _ z => nomatch z) h))
  · exact .inl (.inr ⟨u, e _ _ (ne _ h fun _ _ _ z => nomatch z) h⟩)
  · exact .inr h
theorem sqT_ul {K : PySem.W.Frag} {ys : List V} (hq : H q = some (.lst ys)) (o : HO) : ∀ a xs, SqT K H a xs → SqT K (upd H q o) a xs := fun a xs h => by
  have ne : ∀ u, H a = some u → (∀ zs, u ≠ .lst zs) → a ≠ q := fun u h1 h2 z => by
    rw [z, hq] at h1
    exact h2 _ (Option.some.inj h1).symm
  have st : ∀ u, H a = some u → (∀ zs, u ≠ .lst zs) → upd H q o a = some u := fun u h1 h2 => by
    rw [upd_ne (ne u h1 h2)]
    exact h1
  rcases h with (h | ⟨u, h⟩) | h
  · exact .inl (.inl (st _ h fun _ z => nomatch z))
  · exact .inl (.inr ⟨u, st _ h fun _ z => nomatch z⟩)
  · exact .inr h
end
theorem lk_same (f : Str) (v : V) (fs : List (Str × V)) : (putF f v fs).lookup f = some v := by rw [lookup_putF, if_pos rfl]
theorem lk_ne {f g : Str} (h : g ≠ f) (v : V) (fs : List (Str × V)) : (putF f v fs).lookup g = fs.lookup g := by rw [lookup_putF, if_neg h]
/-! ### a lap, the mathematics -/
/-- where the parcel of place i is after up to k ticks -/
def stopV (n : Nat) (zs : List Int) (rs : List Ro) (t : Int) (k i : Nat) : List V := (List.range (k + 1)).map fun j => V.int (ap (fwd n zs rs t j) i : Nat)
def stopsV (n : Nat) (zs : List Int) (rs : List Ro) (t : Int) (k : Nat) : List (List V) := (List.range (n + sumN zs)).map (stopV n zs rs t k)
/-- on which shelf x is left by the first k of the visits -/
def lefN (ps : List (Nat × Nat)) (L : Lay Int) (x : Int) : Nat → V
  | 0 => .non
  | k + 1 => match ps[k]? with
    | some p => if x = (steps (ps.take k) L).1.getD p.1 0 then .int (p.2 : Nat) else lefN ps L x k
    | none => lefN ps L x k
def lefV (ps : List (Nat × Nat)) (L : Lay Int) (x : Int) : V := lefN ps L x ps.length
/-- in which shelves the parcel of place i is left, tick by tick -/
def leftV (n : Nat) (zs : List Int) (rs : List Ro) (t : Int) (k i : Nat) : List V := (List.range k).map fun j => lefV (vis rs (t + (j : Nat))) (iL (run rs t j (idx n zs))) (i : Nat)
def leftsV (n : Nat) (zs : List Int) (rs : List Ro) (t : Int) (k : Nat) : List (List V) := (List.range (n + sumN zs)).map (leftV n zs rs t k)
theorem stopV_succ (n : Nat) (zs : List Int) (rs : List Ro) (t : Int) (k i : Nat) : stopV n zs rs t (k + 1) i = stopV n zs rs t k i ++ [.int (ap (fwd n zs rs t (k + 1)) i : Nat)] := by
  unfold stopV
  rw [List.range_succ (n := k + 1), List.map_append]
  rfl
theorem leftV_succ (n : Nat) (zs : List Int) (rs : List Ro) (t : Int) (k i : Nat) : leftV n zs rs t (k + 1) i = leftV n zs rs t k i ++ [lefV (vis rs (t + (k : Nat))) (iL (run rs t k (idx n zs))) (i : Nat)] := by
  unfold leftV
  rw [List.range_succ (n := k), List.map_append]
  rfl
theorem stopV_len (n : Nat) (zs : List Int) (rs : List Ro) (t : Int) (k i : Nat) : (stopV n zs rs t k i).length = k + 1 := by unfold stopV; simp
theorem leftV_len (n : Nat) (zs : List Int) (rs : List Ro) (t : Int) (k i : Nat) : (leftV n zs rs t k i).length = k := by unfold leftV; simp
/-- some of the rows are longer already -/
def midV (n : Nat) (A B : Nat → List V) (om : List Nat) : List (List V) := (List.range n).map fun o => if o ∈ om then B o else A o
theorem midV_at {n : Nat} {A B : Nat → List V} {om : List Nat} {o : Nat} (h : o < n) : (midV n A B om)[o]? = some (if o ∈ om then B o else A o) := by
  unfold midV
  rw [List.getElem?_map, List.getElem?_range h]
  rfl
theorem midV_len (n : Nat) (A B : Nat → List V) (om : List Nat) : (midV n A B om).length = n := by unfold midV; simp
theorem midV_set {n : Nat} {A B : Nat → List V} {om : List Nat} {o : Nat} (h : o < n) : (midV n A B om).set o (B o) = midV n A B (om ++ [o]) := by
  refine List.ext_getElem? fun i => ?_
  rw [List.getElem?_set]
  by_cases hi : i < n
  · rw [midV_at (om := om ++ [o]) hi, midV_at hi]
    by_cases e : o = i
    · subst e
      simp [midV_len, h]
    · simp [e, Ne.symm e]
  · by_cases e : o = i
    · omega
    · rw [if_neg e, List.getElem?_eq_none (by rw [midV_len]; omega), List.getElem?_eq_none (by rw [midV_len]; omega)]
theorem midV_nil (n : Nat) (A B : Nat → List V) : midV n A B [] = (List.range n).map A := by
  unfold midV
  exact List.map_congr_left fun o _ => by simp
theorem midV_all {n : Nat} {A B : Nat → List V} {om : List Nat} (h : ∀ o, o < n → o ∈ om) : midV n A B om = (List.range n).map B := by
  unfold midV
  exact List.map_congr_left fun o ho => by rw [if_pos (h o (List.mem_range.mp ho))]
theorem eff_all {e : List Nat} (E : Eff e) {o : Nat} (h : o < e.length) : o ∈ e := by
  have h1 := ap_inv E h
  have h2 : ap (inv e) o < e.length := by
    have := ap_lt (inv_eff E) (x := o) (by rw [inv_len]; exact h)
    rw [inv_len] at this
    exact this
  have := ap_at h2
  rw [h1] at this
  exact List.mem_of_getElem? this
/-- the dict that a tick's exchanges make -/
theorem valV_lefN {ps : List (Nat × Nat)} {L : Lay Int} {k : Nat} {p : Nat × Nat} {kvs : List (Key × V)} (hp : ps[k]? = some p) (h : ∀ x : Int, (valV kvs (Sum.inl x : Key)).getD .non = lefN ps L x k) (x : Int) :
    (valV (putK kvs (Sum.inl ((steps (ps.take k) L).1.getD p.1 0) : Key) (.int (p.2 : Nat))) (Sum.inl x : Key)).getD .non = lefN ps L x (k + 1) := by
  have e1 : lefN ps L x (k + 1) = if x = (steps (ps.take k) L).1.getD p.1 0 then V.int (p.2 : Nat) else lefN ps L x k := by
    conv => lhs; unfold lefN
    rw [hp]
  rw [valV_put, e1]
  by_cases e : x = (steps (ps.take k) L).1.getD p.1 0
  · rw [if_pos (by rw [e]), if_pos e]
    rfl
  · rw [if_neg (fun z => e (Sum.inl.inj z)), if_neg e]
    exact h x
theorem exN_full (ps : List (Nat × Nat)) (L : Lay Int) : ∀ m, m ≤ ps.length → (exN ps L m).length = m
  | 0, _ => rfl
  | m + 1, h => by
    rw [exN_succ (List.getElem?_eq_getElem (by omega : m < ps.length)), List.length_append, exN_full ps L m (by omega)]
    rfl
theorem exN_at {ps : List (Nat × Nat)} {L : Lay Int} {k : Nat} {p : Nat × Nat} (hp : ps[k]? = some p) : ∀ m, m ≤ ps.length → k < m → (exN ps L m)[k]? = some (exch (steps (ps.take k) L) p)
  | 0, _, h => absurd h (by omega)
  | m + 1, hm, h => by
    have fl := exN_full ps L m (by omega)
    by_cases e : k = m
    · subst e
      rw [exN_succ hp, List.getElem?_append_right (by omega), fl, Nat.sub_self]
      rfl
    · rw [exN_succ (List.getElem?_eq_getElem (by omega : m < ps.length)), List.getElem?_append_left (by omega)]
      exact exN_at hp m (by omega) (by omega)
theorem exL_at {ps : List (Nat × Nat)} {L : Lay Int} {k : Nat} {e : List V} (h : (exL ps L)[k]? = some e) : ∃ p, ps[k]? = some p ∧ e = exch (steps (ps.take k) L) p := by
  unfold exL at h
  have hk : k < ps.length := by
    have := (List.getElem?_eq_some_iff.mp h).1
    rwa [exN_full ps L _ (Nat.le_refl _)] at this
  have hp := List.getElem?_eq_getElem hk
  rw [exN_at hp _ (Nat.le_refl _) hk] at h
  exact ⟨_, hp, (Option.some.inj h).symm⟩
/-! ### rows that a comprehension makes -/
def RI (H3 H' : Hp) (D : Addr) (ss : List (List V)) : Prop := Same H3 H' ∧ ∃ rw : List Addr, H' D = some (.lst (rw.map V.ref)) ∧ RowV H' rw ss ∧ rw.Nodup ∧ ∀ q ∈ rw, H3 q = none ∧ q ≠ D
theorem RI.start {H3 : Hp} {D : Addr} (hD : H3 D = none) : RI H3 (upd H3 D (.lst [])) D [] := ⟨same_upd hD, [], upd_same, .nil, List.nodup_nil, fun q hq => (List.not_mem_nil hq).elim⟩
theorem RI.turn {H3 H' : Hp} {D l : Addr} {ss : List (List V)} {s : List V} (h : RI H3 H' D ss) (hD : H3 D = none) (hl : H' l = none) (hs : ss.length ≤ 1000) :
    ∃ acc, (upd H' l (.lst s)) D = some (.lst acc) ∧ acc.length < sizeLine ∧ RI H3 (upd (upd H' l (.lst s)) D (.lst (acc ++ [.ref l]))) D (ss ++ [s]) := by
  obtain ⟨sm, rw, kD, rl, nd, hrw⟩ := h
  have n0 : H3 l = none := Same.free sm hl
  have nD : D ≠ l := ne_of_none kD hl
  have hrl := rowV_len rl
  have hl2 : l ∉ rw := rowV_free rl hl
  refine ⟨rw.map V.ref, by rw [upd_ne nD]; exact kD, ?_, same_of (same_of sm n0) hD, rw ++ [l], ?_, ?_, ?_, ?_⟩
  · rw [List.length_map, hrl]
    exact small1000 hs
  · rw [upd_same, List.map_append]
    rfl
  · refine rowV_snoc (by rw [upd_ne (Ne.symm nD), upd_same]) (rowV_imp (fun q hq o ho => ?_) rl)
    rw [upd_ne (hrw q hq).2, upd_ne (fun z : q = l => hl2 (by rw [← z]; exact hq))]
    exact ho
  · refine List.nodup_append.mpr ⟨nd, (by simp), fun x hx y hy z => ?_⟩
    rw [List.mem_singleton.mp hy] at z
    exact hl2 (by rw [← z]; exact hx)
  · intro q hq
    rcases List.mem_append.mp hq with hq | hq
    · exact hrw q hq
    · rw [List.mem_singleton.mp hq]
      exact ⟨n0, Ne.symm nD⟩
theorem plan_sq {K : PySem.W.Frag} {H H' : Hp} {p : Addr} {zs : List Int} {rs : List Ro} (x : PlanAt K H p zs rs) (e : ∀ a xs, SqT K H a xs → SqT K H' a xs) : PlanAt K H' p zs rs := by
  obtain ⟨a, b, h1, h2, h3⟩ := x.ex
  obtain ⟨qs, h4, h5⟩ := h3.ex
  exact ⟨a, b, e _ _ h1, e _ _ h2, qs, e _ _ h4, paired_imp (K := K) e h5⟩
/-! ### a lap in the heap -/
structure LapAt (H : Hp) (C a : Addr) (zs : List Int) (rs : List Ro) (t : Int) : Prop where
  ex : ∃ (dx st le ef : Addr) (fs : List (Str × V)) (srw lrw : List Addr), H a = some (.ins C dx fs) ∧ fs.lookup ("length" : Str) = some (.int (lc rs : Nat)) ∧ fs.lookup ("stops" : Str) = some (.ref st) ∧ fs.lookup ("lefts" : Str) = some (.ref le) ∧ fs.lookup ("effect" : Str) = some (.ref ef) ∧
    H st = some (.lst (srw.map V.ref)) ∧ RowV H srw (stopsV rs.length zs rs t (lc rs)) ∧ H le = some (.lst (lrw.map V.ref)) ∧ RowV H lrw (leftsV rs.length zs rs t (lc rs)) ∧ H ef = some (.tup (vN (wh rs.length zs rs t)))
theorem LapAt.same {H H' : Hp} {C a : Addr} {zs : List Int} {rs : List Ro} {t : Int} (h : LapAt H C a zs rs t) (e : Same H H') : LapAt H' C a zs rs t := by
  obtain ⟨dx, st, le, ef, fs, srw, lrw, h1, h2, h3, h4, h5, h6, h7, h8, h9, h10⟩ := h.ex
  exact ⟨dx, st, le, ef, fs, srw, lrw, e _ _ h1, h2, h3, h4, h5, e _ _ h6, rowV_imp (fun q _ o => e q o) h7, e _ _ h8, rowV_imp (fun q _ o => e q o) h9, e _ _ h10⟩
/-- a lap that is being made -/
structure LB (H H' : Hp) (x dx C st le : Addr) (fs : List (Str × V)) (srw lrw : List Addr) (ss ls : List (List V)) : Prop where
  o : Ox x H H'
  x : H' x = some (.ins C dx fs)
  s : H' st = some (.lst (srw.map V.ref))
  l : H' le = some (.lst (lrw.map V.ref))
  sr : RowV H' srw ss
  lr : RowV H' lrw ls
/-- what is new in it, each object apart -/
structure LN (H : Hp) (st le : Addr) (srw lrw : List Addr) : Prop where
  n1 : srw.Nodup
  n2 : lrw.Nodup
  d : ∀ q ∈ srw, q ∉ lrw
  s1 : st ∉ srw
  s2 : st ∉ lrw
  l1 : le ∉ srw
  l2 : le ∉ lrw
  f1 : ∀ q ∈ srw, H q = none
  f2 : ∀ q ∈ lrw, H q = none
section
variable {H H' H2 : Hp} {x dx C st le q : Addr} {fs : List (Str × V)} {srw lrw : List Addr} {ss ls : List (List V)}
theorem LB.same (b : LB H H' x dx C st le fs srw lrw ss ls) (e : Same H' H2) : LB H H2 x dx C st le fs srw lrw ss ls :=
  ⟨b.o.then e, e _ _ b.x, e _ _ b.s, e _ _ b.l, rowV_imp (fun q _ o => e q o) b.sr, rowV_imp (fun q _ o => e q o) b.lr⟩
theorem LB.put1 (b : LB H H' x dx C st le fs srw lrw ss ls) (n : LN H st le srw lrw) {i : Nat} (hi : srw[i]? = some q) (s : List V) : LB H (upd H' q (.lst s)) x dx C st le fs srw lrw (ss.set i s) ls := by
  have m := List.mem_of_getElem? hi
  obtain ⟨xs, hq⟩ := rowV_mem b.sr m
  have qx : x ≠ q := fun z => by rw [← z, b.x] at hq; cases hq
  refine ⟨b.o.at (n.f1 q m) _, by rw [upd_ne qx]; exact b.x, by rw [upd_ne (fun z => n.s1 (by rw [z]; exact m))]; exact b.s, by rw [upd_ne (fun z => n.l1 (by rw [z]; exact m))]; exact b.l, rowV_set n.n1 b.sr hi, rowV_imp (fun r hr o ho => ?_) b.lr⟩
  rw [upd_ne (fun z => n.d q m (by rw [← z]; exact hr))]
  exact ho
theorem LB.put2 (b : LB H H' x dx C st le fs srw lrw ss ls) (n : LN H st le srw lrw) {i : Nat} (hi : lrw[i]? = some q) (s : List V) : LB H (upd H' q (.lst s)) x dx C st le fs srw lrw ss (ls.set i s) := by
  have m := List.mem_of_getElem? hi
  obtain ⟨xs, hq⟩ := rowV_mem b.lr m
  have qx : x ≠ q := fun z => by rw [← z, b.x] at hq; cases hq
  refine ⟨b.o.at (n.f2 q m) _, by rw [upd_ne qx]; exact b.x, by rw [upd_ne (fun z => n.s2 (by rw [z]; exact m))]; exact b.s, by rw [upd_ne (fun z => n.l2 (by rw [z]; exact m))]; exact b.l, rowV_imp (fun r hr o ho => ?_) b.sr, rowV_set n.n2 b.lr hi⟩
  rw [upd_ne (fun z => n.d r hr (by rw [z]; exact m))]
  exact ho
end
end Sv


set_option maxHeartbeats 8000000
namespace Sv
open PySem PySem.Spec PyProof.Rows L2
section
variable {P : Program} {w : World} {K : PySem.W.Frag} {mg : Str → Option Value} {base : Heap}
/-! ### Lap.__init__ -/
def nLi : List Str := ["self", "plan", "time", "origins", "carried", "shelves", "step", "exchanges", "lefts", "place", "origin", "_", "shelf", "left", "row"]
def spLapInit (K : PySem.W.Frag) (C : Addr) : Sp := fun vs H Q _ => ∃ (x dx p : Addr) (t : Int) (zs : List Int) (rs : List Ro), vs = [.ref x, .ref p, .int t] ∧ H x = some (.ins C dx []) ∧ PlanAt K H p zs rs ∧ Val zs rs ∧
  ∀ H', Ox x H H' → LapAt H' C x zs rs t → Q .non H'
noncomputable abbrev fL1 (rs : List Ro) : List (Str × V) := putF "length" (.int (lc rs : Nat)) []
noncomputable abbrev fL2 (rs : List Ro) (st : Addr) : List (Str × V) := putF "stops" (.ref st) (fL1 rs)
noncomputable abbrev fL3 (rs : List Ro) (st le : Addr) : List (Str × V) := putF "lefts" (.ref le) (fL2 rs st)
noncomputable abbrev fL4 (rs : List Ro) (st le ef : Addr) : List (Str × V) := putF "effect" (.ref ef) (fL3 rs st le)
theorem fl2 (rs : List Ro) (st : Addr) : (fL2 rs st).length ≤ 2 := Nat.le_trans (length_putF _ _ _) (Nat.succ_le_succ (length_putF _ _ _))
theorem fl3 (rs : List Ro) (st le : Addr) : (fL3 rs st le).length ≤ 3 := Nat.le_trans (length_putF _ _ _) (Nat.succ_le_succ (fl2 rs st))
theorem lk3_length (rs : List Ro) (st le : Addr) : (fL3 rs st le).lookup ("length" : Str) = some (.int (lc rs : Nat)) := by
  rw [lk_ne (by decide), lk_ne (by decide), lk_same]
theorem lk3_stops (rs : List Ro) (st le : Addr) : (fL3 rs st le).lookup ("stops" : Str) = some (.ref st) := by
  rw [lk_ne (by decide), lk_same]
theorem lk3_lefts (rs : List Ro) (st le : Addr) : (fL3 rs st le).lookup ("lefts" : Str) = some (.ref le) := lk_same _ _ _
end
end Sv


set_option maxHeartbeats 4000000
namespace Sv
open PySem PySem.Spec PyProof.Rows L2
section
variable {P : Program} {w : World} {K : PySem.W.Frag} {mg : Str → Option Value} {base : Heap}
/-! ### effect_of_ticks -/
def nEt : List Str := ["plan", "time", "count", "lap", "laps", "rest", "place"]
theorem NewT.imp {H H1 : Hp} {g : List Nat} {Q : VK} (h : NewT H g Q) (e : Same H H1) : NewT H1 g Q := fun H' p sm hp hq => h H' p (e.trans sm) (Same.free e hp) hq
theorem same_make {H H' : Hp} {x dx C : Addr} {fs : List (Str × V)} (n1 : H x = none) (n2 : H dx = none) (o : Ox x (upd (upd H dx (.own x)) x (.ins C dx fs)) H') : Same H H' := fun b u e => by
  have h1 := ne_of_none e n1
  have h2 := ne_of_none e n2
  exact o b u h1 (by rw [upd_ne h1, upd_ne h2]; exact e)
/-- a new effect that is known to have no attributes of its own -/
def NewF (H : Hp) (g : List Nat) (Q : VK) : Prop := ∀ H' p o, Same H H' → H p = none → H' p = some (.frz o (.tup (vN g))) → o.dict = none → Q (.ref p) H'
theorem NewF.imp {H H1 : Hp} {g : List Nat} {Q : VK} (h : NewF H g Q) (e : Same H H1) : NewF H1 g Q := fun H' p o sm hp hq hd => h H' p o (e.trans sm) (Same.free e hp) hq hd
def spEffectTicks (K : PySem.W.Frag) : Sp := fun vs H Q _ => ∃ (p : Addr) (t c : Int) (zs : List Int) (rs : List Ro), vs = [.ref p, .int t, .int c] ∧ PlanAt K H p zs rs ∧ Val zs rs ∧ (NewT H (effT rs.length zs rs t c) Q ∨ NewF H (effT rs.length zs rs t c) Q)
/-! ### effect_of -/
def spEffectOf (K : PySem.W.Frag) (C CC : Addr) : Sp := fun vs H Q E => ∃ (p : Addr) (t c : Int) (zs : List Int) (rs : List Ro), vs = [.ref p, .int t, .int c] ∧ PlanAt K H p zs rs ∧ Small zs rs ∧ (bad zs rs = none → CtOk c → NewT H (effT rs.length zs rs t c) Q) ∧
  BadE C zs rs H E ∧ (bad zs rs = none → ¬ CtOk c → ∀ H', Same H H' → E (.ref CC) none H')
end
end Sv


set_option maxHeartbeats 4000000
/-! zip of a list and a tuple -/
namespace Sv
open PySem PySem.Spec PyProof.Rows L2
section
abbrev zmA (h : Heap) (a : Addr) : Heap := h.push { cls := .type "list_iterator", data := .fields #[.ref a, .int 0 0] }
abbrev zmB (h : Heap) (a b : Addr) : Heap := (zmA h a).push { cls := .type "tuple_iterator", data := .fields #[.ref b, .int 0 0] }
abbrev zmC (h : Heap) (a b : Addr) : Heap := (zmB h a b).push { cls := .type "tuple", data := .seq #[.ref h.objs.size, .ref (zmA h a).objs.size] }
abbrev zmD (h : Heap) (a b : Addr) : Heap := (zmC h a b).push { cls := .type "tuple", data := .seq #[.none, .none] }
abbrev zmE (h : Heap) (a b : Addr) : Heap := (zmD h a b).push { cls := .type "zip", data := .fields #[.none, .bool false, .bool false, .ref (zmB h a b).objs.size, .ref (zmC h a b).objs.size] }
theorem zm_meets (a b : Addr) (xs ys : Array Value) :
    Meets (Builtin.«zip.__new__» ⟨[.type "zip", .ref a, .ref b], []⟩) (fun _ R s => s.heap.IsList a xs ∧ s.heap.IsTuple b ys ∧ R (.ok (.ret (.ref (zmD s.heap a b).objs.size))) { s with heap := zmE s.heap a b }) :=
  .of_wp fun prog w A R s h => by
    obtain ⟨hp, g, d, tk, os⟩ := s
    obtain ⟨ha, hb, h⟩ := h
    have z1 := sub_zip
    have la : Heap.IsList (Shared.heap ⟨hp, g, d, tk, os⟩) a xs := ha
    have lb : Heap.IsTuple (Shared.heap ⟨zmA hp a, g, d, tk, os⟩) b ys := Heap.IsTuple.push hb _
    wp_walk using wpAny_pyIter_list la, wpAny_pyIter_tuple lb
    exact ⟨_, rfl, h⟩
end
section
variable {prog : Program} {w : World} {A : Around} {E : Value → Shared → Prop} {s : Shared}
theorem call_zipM {a b : Addr} {xs ys : Array Value} {Q : Value → Shared → Prop} (ha : s.heap.IsList a xs) (hb : s.heap.IsTuple b ys)
    (q : ∀ h', IsZip h' (s.heap.objs.size + 4) (s.heap.objs.size + 2) (s.heap.objs.size + 3) .none → IsTupOf2 h' (s.heap.objs.size + 2) (.ref s.heap.objs.size) (.ref (s.heap.objs.size + 1)) → IsTupOf2 h' (s.heap.objs.size + 3) .none .none →
      h'.IsListIter s.heap.objs.size a 0 → h'.IsTupleIter (s.heap.objs.size + 1) b 0 → h'.objs.size = s.heap.objs.size + 5 → (∀ c o, s.heap.get? c = some o → h'.get? c = some o) → Q (.ref (s.heap.objs.size + 4)) { s with heap := h' }) :
    wpAny (model prog w) A (call (.type "zip") [.ref a, .ref b]) Q E s := by
  refine callType_new F.called_zip (by decide) (F.typeCall_zip_2 _ _) (F.newCall_zip_2 _ _) (fun obj => F.args_object_init_3 obj _ _) F.entry_zip_new (zm_meets a b xs ys) ⟨ha, hb, ?_⟩
  have n1 : (zmA s.heap a).objs.size = s.heap.objs.size + 1 := Heap.size_push ..
  have n2 : (zmB s.heap a b).objs.size = s.heap.objs.size + 2 := by rw [Heap.size_push, n1]
  have n3 : (zmC s.heap a b).objs.size = s.heap.objs.size + 3 := by rw [Heap.size_push, n2]
  have n4 : (zmD s.heap a b).objs.size = s.heap.objs.size + 4 := by rw [Heap.size_push, n3]
  have n5 : (zmE s.heap a b).objs.size = s.heap.objs.size + 5 := by rw [Heap.size_push, n4]
  have up : ∀ {h : Heap} {c : Addr} {o : Obj} (o2 : Obj), h.get? c = some o → (h.push o2).get? c = some o := fun o2 e => Heap.get?_push_of_some _ e
  have t5 : (zmE s.heap a b).get? (zmD s.heap a b).objs.size = some _ := Heap.get?_push_size _ rfl
  have t4 : (zmE s.heap a b).get? (zmC s.heap a b).objs.size = some _ := up _ (Heap.get?_push_size _ rfl)
  have t3 : (zmE s.heap a b).get? (zmB s.heap a b).objs.size = some _ := up _ (up _ (Heap.get?_push_size _ rfl))
  have t2 : (zmE s.heap a b).get? (zmA s.heap a).objs.size = some _ := up _ (up _ (up _ (Heap.get?_push_size _ rfl)))
  have t1 : (zmE s.heap a b).get? s.heap.objs.size = some _ := up _ (up _ (up _ (up _ (Heap.get?_push_size _ rfl))))
  show _ ∧ _
  rw [n2, n3, n4] at t5
  rw [n1, n2] at t3
  rw [n3] at t4
  rw [n1] at t2
  rw [n4]
  exact ⟨⟨_, t5, rfl⟩, q _ t5 t3 t4 ⟨_, t1, rfl, rfl⟩ ⟨_, t2, rfl, rfl⟩ n5 fun c o e => up _ (up _ (up _ (up _ (up _ e))))⟩
end
/-- the list at a and the tuple at b as they stand at each turn -/
def ItzM (K : PySem.W.Frag) (a b : Addr) : It :=
  ⟨fun i H => ∃ (xs ys : List V) (x y : V), SqL K H a xs ∧ SqT K H b ys ∧ xs[i]? = some x ∧ ys[i]? = some y,
    fun i H v H' => ∃ T x y, v = .ref T ∧ H T = none ∧ H' = upd H T (.tup [x, y]) ∧ (∀ l, SqL K H a l → l[i]? = some x) ∧ ∀ l, SqT K H b l → l[i]? = some y,
    fun i H => ∃ xs ys : List V, SqL K H a xs ∧ SqT K H b ys ∧ i = xs.length ∧ i = ys.length⟩
theorem zm_sep {n a b : Nat} (ha : a < n) (hb : b < n) : ZipSep2 (n + 4) (n + 2) (n + 3) n (n + 1) [n, a] [n + 1, b] := by
  have ne : ∀ {x y : Nat}, x < y ∨ y < x → x ≠ y := fun h e => by omega
  constructor <;> first | (apply ne; omega) | (intro m; simp at m; exact ne (by omega) m) | simp
theorem turn_zipM {P : Program} {w : World} {K : PySem.W.Frag} {elts : List Expr} {kk : Nat} {tpos : Pos} {a b n : Nat} (ha : a < n) (hb : b < n) :
    Turn P w K (.Tuple elts kk tpos) (ItzM K a b) [n + 4, n + 2, n + 3, n, n + 1] (n + 4) (fun i h => IsZip h (n + 4) (n + 2) (n + 3) .none ∧ IsTupOf2 h (n + 2) (.ref n) (.ref (n + 1)) ∧ (∃ x y, IsTupOf2 h (n + 3) x y) ∧ h.IsListIter n a i ∧ h.IsTupleIter (n + 1) b i) where
  mem := by simp
  obj := fun i h st c hc => by
    obtain ⟨u1, u2, ⟨x, y, u3⟩, ⟨o1, u4, _, d1⟩, ⟨o2, u5, _, d2⟩⟩ := st
    have cs : c = n + 4 ∨ c = n + 2 ∨ c = n + 3 ∨ c = n ∨ c = n + 1 := by simpa using hc
    rcases cs with q | q | q | q | q <;> subst q
    · exact ⟨_, u1, fun v q => nomatch q⟩
    · exact ⟨_, u2, fun v q => nomatch q⟩
    · exact ⟨_, u3, fun v q => nomatch q⟩
    · exact ⟨o1, u4, fun v q => by rw [d1] at q; cases q⟩
    · exact ⟨o2, u5, fun v q => by rw [d2] at q; cases q⟩
  keep := fun i h h' st k => by
    obtain ⟨u1, u2, ⟨x, y, u3⟩, u4, u5⟩ := st
    exact ⟨k _ (by simp) _ u1, k _ (by simp) _ u2, ⟨x, y, k _ (by simp) _ u3⟩, u4.at fun o q => k _ (by simp) o q, u5.at fun o q => k _ (by simp) o q⟩
  item := by
    intro X hP hw hK hc i pins s σ H E I hf st hg
    subst hP hw hK
    obtain ⟨u1, u2, ⟨x0, y0, u3⟩, u4, u5⟩ := st
    obtain ⟨xs, ys, x, y, qx, qy, hx, hy⟩ := hg
    obtain ⟨ia, ra, pa, _⟩ := I.list qx
    obtain ⟨ib, rb, pb, _⟩ := I.tuple qy
    obtain ⟨ux, hux, rx⟩ := ra.get hx
    obtain ⟨uy, huy, ry⟩ := rb.get hy
    have la : i < ia.toArray.size := by simpa using (List.getElem?_eq_some_iff.mp hux).1
    have lb : i < ib.toArray.size := by simpa using (List.getElem?_eq_some_iff.mp huy).1
    have hh : X.A.in1.handled = none := by simpa using I.ok.hd hc
    have zl := Heap.lt_size u1
    refine wpAny_pyNext_zipD2_item (zm_sep ha hb) (Draws.list hh n a (Nat.ne_of_lt ha) ia.toArray) (Draws.tuple hh (n + 1) b (Nat.ne_of_lt (Nat.lt_succ_of_lt hb)) ib.toArray) u1 u2 u3 ⟨u4, pa.isList⟩ ⟨u5, pb⟩ la lb fun v1 v2 h' tk e1 e2 b1 b2 d1 d2 hT hsz hk => ?_
    obtain rfl : v1 = ux := by
      have z : ia.toArray[i]? = some v1 := e1
      rw [show ia.toArray[i]? = some ux by simpa using hux] at z
      exact (Option.some.inj z).symm
    obtain rfl : v2 = uy := by
      have z : ib.toArray[i]? = some v2 := e2
      rw [show ib.toArray[i]? = some uy by simpa using huy] at z
      exact (Option.some.inj z).symm
    refine ⟨_, rfl, wpAny_letOwnedTupleGo_zip (s := { s with heap := h', toks := tk }) b1 fun h'' z'' sb => ?_⟩
    have nz : ∀ c, c ≠ n + 4 → h''.get? c = h'.get? c := fun c hc => sb.2 c hc
    have T2 : h''.get? s.heap.objs.size = some { cls := .type "tuple", data := .seq #[v1, v2] } := (nz _ (Nat.ne_of_gt zl)).trans hT
    have new : ObjOk X.prog X.w (upd H s.heap.objs.size (.tup [x, y])) h'' s.heap.objs.size (.tup [x, y]) :=
      ⟨by show 2 ≤ sizeLine; decide, [v1, v2], .cons rx (.cons ry .nil), ⟨_, T2, rfl, _, rfl⟩⟩
    have I1 : Inv X pins σ (upd H s.heap.objs.size (.tup [x, y])) { s with heap := h'', toks := tk } :=
      I.turnedNew (ch := [n + 4, n + 2, n + 3, n, n + 1]) (fun c o hb q => by
        have m1 : c ≠ n + 4 := fun z => hb (by simp [z])
        exact (nz c m1).trans (hk c o m1 (fun z => hb (by simp [z])) (fun z => hb (by simp [z])) (fun z => hb (by simp [z])) q)) hf (Nat.le_refl _) new
    have neq : ∀ {x y : Nat}, x < y ∨ y < x → x ≠ y := fun h e => by omega
    refine ⟨.ref s.heap.objs.size, _, I1, rfl, ⟨_, x, y, rfl, I.hok.fresh (Nat.le_refl _), rfl, fun l hl => by rw [I.list_inj hl qx]; exact hx, fun l hl => by rw [I.tuple_inj hl qy]; exact hy⟩, ⟨z'', ?_, ⟨v1, v2, ?_⟩, ?_, ?_⟩, fun c hcm => ?_⟩
    · exact (nz _ (neq (by omega))).trans (hk _ _ (neq (by omega)) (neq (by omega)) (neq (by omega)) (neq (by omega)) u2)
    · exact (nz _ (neq (by omega))).trans b2
    · exact d1.1.at fun o q => (nz _ (neq (by omega))).trans q
    · exact d2.1.at fun o q => (nz _ (neq (by omega))).trans q
    · have lt : c < s.heap.objs.size := by
        have cs : c = n + 4 ∨ c = n + 2 ∨ c = n + 3 ∨ c = n ∨ c = n + 1 := by simpa using hcm
        have le4 : ∀ k, k ≤ 4 → n + k < s.heap.objs.size := fun k hk => Nat.lt_of_le_of_lt (Nat.add_le_add_left hk n) zl
        rcases cs with q | q | q | q | q <;> subst q
        · exact le4 4 (by decide)
        · exact le4 2 (by decide)
        · exact le4 3 (by decide)
        · exact le4 0 (by decide)
        · exact le4 1 (by decide)
      rw [upd_ne (Nat.ne_of_lt lt)]
      exact (hf c hcm).1
  done := by
    intro X hP hw hK hc i pins s σ H E I hf st hg
    subst hP hw hK
    obtain ⟨u1, u2, ⟨x0, y0, u3⟩, u4, u5⟩ := st
    obtain ⟨xs, ys, qx, qy, e1, e2⟩ := hg
    obtain ⟨ia, ra, pa, _⟩ := I.list qx
    obtain ⟨ib, rb, pb, _⟩ := I.tuple qy
    have l1 := ra.length
    have l2 := rb.length
    have hh : X.A.in1.handled = none := by simpa using I.ok.hd hc
    have s1 : i = ia.toArray.size := by simp; omega
    have s2 : i = ib.toArray.size := by simp; omega
    exact wpAny_pyNext_zipD2_end (zm_sep ha hb) (Draws.list hh n a (Nat.ne_of_lt ha) ia.toArray) (Draws.tuple hh (n + 1) b (Nat.ne_of_lt (Nat.lt_succ_of_lt hb)) ib.toArray) u1 u2 u3 ⟨u4, pa.isList⟩ ⟨u5, pb⟩ (Nat.le_of_eq s1) (Nat.le_of_eq s2) (.inl s1) fun h' tk hk =>
      ⟨rfl, I.turnedL (t' := tk) (ch := [n + 4, n + 2, n + 3, n, n + 1]) (fun c o hb q => hk c o (fun z => hb (by simp [z])) (fun z => hb (by simp [z])) (fun z => hb (by simp [z])) (fun z => hb (by simp [z])) q) hf⟩
  self := fun A i s Q E st h => wpAny_pyIter_zip st.1 h
def iZipM (K : PySem.W.Frag) (ta : TA) : TI := fun σ H R => ta σ H fun vs H1 => ∃ a b xs ys, vs = [.ref a, .ref b] ∧ SqL K H1 a xs ∧ SqT K H1 b ys ∧ R (ItzM K a b) H1
theorem pi_zipM {X : Cx} {e e2 : Expr} {ta : TA} {p pos tpos : Pos} {elts : List Expr} {kk : Nat} (hg : Gl X "zip") (hm : X.mg "zip" = none) (ha : PA X [e, e2] ta)
    (h1 : starEach [e, e2] X.env = (false, eval e X.env) :: starEach [e2] X.env := by rfl) (h2 : (backTo pos (starEach [e2] X.env)).any (·.1) = false := by rfl) : PI X (.Tuple elts kk tpos) (.Call (.Name "zip" p) [e, e2] [] pos) (iZipM X.K ta) := by
  refine ⟨fun pins s σ H R I h => Call_ (ld_blt I hg hm PyProof.Rows.boot_zip (PyProof.Rows.callWith_type1 (thn (ha.run pos pins s σ H _ I h) fun us s1 ⟨vs, H1, I1, r1, a, b, xs, ys, ex, qx, qy, q⟩ => ?_) h1 h2))⟩
  subst ex
  cases r1 with
  | cons r rr =>
  cases rr with
  | cons r' rr =>
  cases rr
  cases r
  cases r'
  obtain ⟨ia, ra, pa, _⟩ := I1.list qx
  obtain ⟨ib, rb, pb, _⟩ := I1.tuple qy
  have lb : b < s1.heap.objs.size := (let ⟨_, z, _⟩ := pb; Heap.lt_size z)
  refine call_zipM pa.isList pb fun h' z1 z2 z3 z4 z5 zs hk => wpAny_pyIter_zip z1 ?_
  have I2 : Inv X pins σ H1 { s1 with heap := h' } := I1.kept (t' := s1.toks) hk
  refine ⟨s1.heap.objs.size + 4, [s1.heap.objs.size + 4, s1.heap.objs.size + 2, s1.heap.objs.size + 3, s1.heap.objs.size, s1.heap.objs.size + 1], _, _, H1, rfl, I2, turn_zipM pa.lt lb, ⟨z1, z2, ⟨_, _, z3⟩, z4, z5⟩, fun c hcm => ?_, q⟩
  have le : s1.heap.objs.size ≤ c := by
    have cs : c = s1.heap.objs.size + 4 ∨ c = s1.heap.objs.size + 2 ∨ c = s1.heap.objs.size + 3 ∨ c = s1.heap.objs.size ∨ c = s1.heap.objs.size + 1 := by simpa using hcm
    rcases cs with z | z | z | z | z <;> rw [z] <;> first | exact Nat.le_refl _ | exact Nat.le_add_right _ _
  exact I1.fpOk le (I1.hok.fresh le)
/-- a loop over zip of a list and a tuple of one length -/
theorem for_zipM {K : PySem.W.Frag} {a b : Addr} {xs ys : List V} {g : TG} {tb : TS} {D : Ends} {σ : L2.St} {H : Hp} (hl : xs.length = ys.length) (Pv : Nat → L2.St → Hp → Prop) (h0 : Pv 0 σ H) (hq : ∀ i σ H, Pv i σ H → SqL K H a xs ∧ SqT K H b ys)
    (turn : ∀ (i : Nat) (x y : V) (T : Addr) (σ : L2.St) (H : Hp), xs[i]? = some x → ys[i]? = some y → Pv i σ H → H T = none → g (.ref T) σ (upd H T (.tup [x, y])) fun σ2 H2 => tb { D with nx := Pv (i + 1), ct := Pv (i + 1), bk := D.nx } σ2 H2) (after : ∀ σ H, Pv xs.length σ H → D.nx σ H) :
    ∃ W : Nat → Nat → L2.St → Hp → Prop, (∃ m, W 0 m σ H) ∧ ∀ i m σ H, W i m σ H →
      ((ItzM K a b).stop i H ∧ D.nx σ H) ∨ ((ItzM K a b).go i H ∧ ∃ N : L2.St → Hp → Prop, (∀ σ' H', N σ' H' → ∃ m', m' < m ∧ W (i + 1) m' σ' H') ∧ ∀ v H', (ItzM K a b).yld i H v H' → g v σ H' fun σ2 H2 => tb { D with nx := N, ct := N, bk := D.nx } σ2 H2) := by
  refine ⟨fun i m σ H => i + m = xs.length ∧ Pv i σ H, ⟨xs.length, Nat.zero_add _, h0⟩, fun i m σ H ⟨em, hP⟩ => ?_⟩
  obtain ⟨qx, qy⟩ := hq i σ H hP
  by_cases hi : i < xs.length
  · have gx : xs[i]? = some xs[i] := List.getElem?_eq_getElem hi
    have gy : ys[i]? = some (ys[i]'(by omega)) := List.getElem?_eq_getElem (by omega)
    refine .inr ⟨⟨xs, ys, _, _, qx, qy, gx, gy⟩, Pv (i + 1), fun σ' H' z => ⟨m - 1, by omega, by omega, z⟩, fun v H' hy => ?_⟩
    obtain ⟨T, x', y', rfl, nT, rfl, f1, f2⟩ := hy
    exact turn i x' y' T σ H (f1 xs qx) (f2 ys qy) hP nT
  · have e : i = xs.length := by omega
    subst e
    exact .inl ⟨⟨xs, ys, qx, qy, rfl, hl⟩, after σ H hP⟩
end Sv


set_option maxHeartbeats 4000000
/-! len(set(xs)), xs a list of ints, also where some stand twice -/
namespace Sv
open PySem PySem.Spec PyProof.Rows L2
theorem range_getD (ns : List Int) : (List.range ns.length).map (fun i => ns.getD i 0) = ns := by
  refine List.ext_getElem? fun i => ?_
  by_cases h : i < ns.length
  · rw [List.getElem?_map, List.getElem?_range h, Option.map_some, List.getD_eq_getElem?_getD, List.getElem?_eq_getElem h]
    rfl
  · rw [List.getElem?_eq_none (by simp; omega), List.getElem?_eq_none (by omega)]
theorem any_mem (ns : List Int) (k : Int) : (ns.any (· == k)) = decide (k ∈ ns) := by
  rw [Bool.eq_iff_iff, List.any_eq_true, decide_eq_true_iff]
  exact ⟨fun ⟨x, hx, e⟩ => by rw [← beq_iff_eq.mp e]; exact hx, fun h => ⟨k, h, beq_self_eq_true k⟩⟩
theorem fm_nodup (val : Nat → Int) : ∀ i, (PyProof.Rows.firstMet val i).Nodup
  | 0 => by rw [PyProof.Rows.firstMet_zero]; exact List.nodup_nil
  | i + 1 => by
    rw [PyProof.Rows.firstMet_succ]
    have ih := fm_nodup val i
    unfold PyProof.Rows.step_dedup
    split
    · exact ih
    · rename_i h
      refine List.nodup_append.mpr ⟨ih, by simp, fun x hx y hy z => h ?_⟩
      rw [List.mem_singleton.mp hy] at z
      exact List.any_eq_true.mpr ⟨x, hx, beq_iff_eq.mpr z⟩
def tLenSetL (K : PySem.W.Frag) (ta : TE) : TE := fun σ H Q => ta σ H fun x H1 => ∃ (l : Addr) (ns : List Int), x = .ref l ∧ SqL K H1 l (ns.map V.int) ∧ ns.length ≤ 4000 ∧ ∀ c : Nat, c ≤ ns.length → (c = ns.length ↔ ns.Nodup) → Q (.int c) H1
theorem pe_lenSetL {X : Cx} {a : Expr} {ta : TE} {p p2 q pos : Pos} (hg : Gl X "len") (hm : X.mg "len" = none) (hg2 : Gl X "set") (hm2 : X.mg "set" = none) (ha : PE X a ta) (hc : X.calm = true := by rfl)
    (na : starEach [a] X.env = (false, eval a X.env) :: starEach [] X.env := by rfl) : PE X (.Call (.Name "len" p) [.Call (.Name "set" p2) [a] [] q] [] pos) (tLenSetL X.K ta) := by
  refine ⟨fun pins s σ H Q I h => Call_ (ld_blt I hg hm boot_len (PyProof.Rows.callWith_builtin1 (PyProof.Rows.args_cons (Call_ (ld_blt I hg2 hm2 boot_set ?_)) rfl) rfl rfl))⟩
  refine PyProof.Rows.callWith_type1 (PyProof.Rows.args_cons (thn (ha.run pins s σ H _ I h) fun v s1 ⟨x, H1, I1, r1, l, ns, ex, hq, hl, q1⟩ => PyProof.Rows.args_nil ?_) na) na rfl
  subst ex
  cases r1
  obtain ⟨its, r, pl, hz⟩ := I1.list hq
  have hlen : its.toArray.size = ns.length := by rw [List.size_toArray, ← r.length, List.length_map]
  refine call_set_list (I1.ok.hd hc) pl.isList (by simpa using RZ.intsAre_vals r) (by rw [hlen]; unfold scanBound; omega) fun h' tk hS hk => PyProof.Rows.args_nil ?_
  have fl := PyProof.Rows.firstMet_length_le (fun i => ns.getD i 0) its.toArray.size
  have fm : ∀ k, k ∈ PyProof.Rows.firstMet (fun i => ns.getD i 0) its.toArray.size ↔ k ∈ ns := fun k => by
    have z := PyProof.Rows.firstMet_any (fun i => ns.getD i 0) its.toArray.size k
    rw [hlen, range_getD, any_mem, any_mem] at z
    rw [hlen]
    simpa using z
  have fn := fm_nodup (fun i => ns.getD i 0) its.toArray.size
  generalize (PyProof.Rows.firstMet (fun i => ns.getD i 0) its.toArray.size) = m at hS fl fm fn
  obtain ⟨o, es, ep, t, ho, hex, hd, _, _, _, hf, hn⟩ := hS
  have I2 : Inv X pins σ H1 { s1 with heap := h', toks := tk } := I1.kept fun b o e => hk b o (Heap.lt_size e) e
  refine call_len_set ho hex hd hf (by rw [hn]; have : (4000 : Nat) < 2 ^ 63 := by decide
                                       omega) ⟨.int m.length, H1, I2.tok _, ⟨_, by rw [hn]⟩, q1 m.length (by omega) ⟨fun e => ?_, fun e => ?_⟩⟩
  · exact nodup_of_len fn (fun x hx => (fm x).mp hx) (by rw [e]; exact Nat.le_refl _)
  · have z := nodup_sub_len e fun x hx => (fm x).mpr hx
    omega
end Sv


set_option maxHeartbeats 4000000
namespace Sv
open PySem PySem.Spec PyProof.Rows L2
/-! ### states -/
abbrev TimeOk (t : Int) : Prop := -1000000000000000000000000000000 ≤ t ∧ t ≤ 1000000000000000000000000000000
def OkP (ns : List Int) : Prop := (∀ x ∈ ns, 1 ≤ x ∧ x ≤ 999) ∧ ns.Nodup
instance (ns : List Int) : Decidable (OkP ns) := by unfold OkP; infer_instance
instance (n : Nat) (zs : List Int) (L : Lay Int) : Decidable (Fits n zs L) := by unfold Fits; infer_instance
structure StOk (zs : List Int) (rs : List Ro) (t : Int) (L : Lay Int) : Prop where
  t : TimeOk t
  f : Fits rs.length zs L
  p : OkP (join L)
instance (zs : List Int) (rs : List Ro) (t : Int) (L : Lay Int) : Decidable (StOk zs rs t L) :=
  if h : TimeOk t ∧ Fits rs.length zs L ∧ OkP (join L) then isTrue ⟨h.1, h.2.1, h.2.2⟩ else isFalse fun z => h ⟨z.t, z.f, z.p⟩
/-- a state in its place -/
structure StateAt (K : PySem.W.Frag) (H : Hp) (s : Addr) (t : Int) (L : Lay Int) : Prop where
  ex : ∃ ca sh : Addr, SqT K H s [.int t, .ref ca, .ref sh] ∧ LayT K H ca sh L.1 L.2
theorem StateAt.imp {K : PySem.W.Frag} {H H' : Hp} {s : Addr} {t : Int} {L : Lay Int} (x : StateAt K H s t L) (e : ∀ a xs, SqT K H a xs → SqT K H' a xs) : StateAt K H' s t L := by
  obtain ⟨ca, sh, h1, h2⟩ := x.ex
  exact ⟨ca, sh, e _ _ h1, h2.imp e⟩
theorem StateAt.same {K : PySem.W.Frag} {H H' : Hp} {s : Addr} {t : Int} {L : Lay Int} (x : StateAt K H s t L) (e : Same H H') : StateAt K H' s t L := x.imp fun _ _ => sqT_same e
/-- not too long to be looked at -/
def LSm (L : Lay Int) : Prop := L.1.length ≤ 1000 ∧ L.2.length ≤ 1000 ∧ ∀ s ∈ L.2, s.length ≤ 1000
section
variable {P : Program} {w : World} {K : PySem.W.Frag} {mg : Str → Option Value} {base : Heap}
def spTupOf (K : PySem.W.Frag) : Sp := fun vs H Q _ => ∃ (a : Addr) (n : Int) (xs : List V), vs = [.ref a, .int n] ∧ SqT K H a xs ∧ Q (.bl (decide ((xs.length : Int) = n))) H
theorem int_eqV (a b : Int) : decide (V.int a = V.int b) = decide (a = b) := by
  by_cases h : a = b
  · rw [decide_eq_true h, decide_eq_true (by rw [h])]
  · rw [decide_eq_false h, decide_eq_false fun z => h (V.int.inj z)]
/-! ### are_parcels -/
def spParcels (K : PySem.W.Frag) : Sp := fun vs H Q _ => ∃ (l : Addr) (ns : List Int), vs = [.ref l] ∧ SqL K H l (ns.map V.int) ∧ ns.length ≤ 2000 ∧ Q (.bl (decide (OkP ns))) H
/-! ### fits_plan -/
def nFi : List Str := ["plan", "carried", "shelves", "sizes", "routes", "size", "shelf"]
def spFits (K : PySem.W.Frag) : Sp := fun vs H Q _ => ∃ (p ca sh : Addr) (zs : List Int) (rs : List Ro) (L : Lay Int), vs = [.ref p, .ref ca, .ref sh] ∧ PlanAt K H p zs rs ∧ (∀ z ∈ zs, 0 ≤ z) ∧ LayT K H ca sh L.1 L.2 ∧ ∀ H', Same H H' → Q (.bl (decide (Fits rs.length zs L))) H'
theorem fits_no {n : Nat} {zs : List Int} {L : Lay Int} {i : Nat} {z : Int} {s : List Int} (hz : zs[i]? = some z) (h0 : 0 ≤ z) (hs : L.2[i]? = some s) (h : ¬ (s.length : Int) = z) : ¬ Fits n zs L := fun f => by
  have h1 : (L.2.map List.length)[i]? = some s.length := by rw [List.getElem?_map, hs]; rfl
  rw [f.2, List.getElem?_map, hz] at h1
  have := Option.some.inj h1
  omega
end
end Sv


set_option maxHeartbeats 4000000
namespace Sv
open PySem PySem.Spec PyProof.Rows L2
/-- the first k things moved by an effect -/
def mvN (e : List Nat) (cs : List Int) : Nat → List Int
  | 0 => cs
  | k + 1 => (mvN e cs k).set (ap e k) (cs.getD k 0)
theorem mvN_len (e : List Nat) (cs : List Int) : ∀ k, (mvN e cs k).length = cs.length
  | 0 => rfl
  | k + 1 => by
    show ((mvN e cs k).set _ _).length = _
    rw [List.length_set, mvN_len e cs k]
theorem mvN_at {e : List Nat} (E : Eff e) {cs : List Int} (hl : cs.length = e.length) : ∀ k, k ≤ e.length → ∀ i, i < k → (mvN e cs k)[ap e i]? = some (cs.getD i 0)
  | 0, _, i, hi => by omega
  | k + 1, hk, i, hi => by
    show ((mvN e cs k).set (ap e k) (cs.getD k 0))[ap e i]? = _
    by_cases h : i = k
    · subst h
      rw [List.getElem?_set_self (by rw [mvN_len, hl]; exact ap_lt E (by omega))]
    · rw [List.getElem?_set_ne fun q => h (ap_inj E (by omega) (by omega) q).symm]
      exact mvN_at E hl k (by omega) i (by omega)
/-- all things moved -/
def move (e : List Nat) (cs : List Int) : List Int := (inv e).map fun i => cs.getD i 0
theorem move_len (e : List Nat) (cs : List Int) : (move e cs).length = e.length := by unfold move; rw [List.length_map, inv_len]
theorem mvN_move {e : List Nat} (E : Eff e) {cs : List Int} (hl : cs.length = e.length) : mvN e cs e.length = move e cs := by
  refine List.ext_getElem? fun q => ?_
  by_cases hq : q < e.length
  · have h1 : ap (inv e) q < e.length := by
      have := ap_lt (inv_eff E) (x := q) (by rw [inv_len]; exact hq)
      rwa [inv_len] at this
    have h2 := mvN_at E hl e.length (Nat.le_refl _) (ap (inv e) q) h1
    rw [ap_inv E hq] at h2
    rw [h2]
    unfold move
    rw [List.getElem?_map, ap_at (by rw [inv_len]; exact hq)]
    rfl
  · rw [List.getElem?_eq_none (by rw [mvN_len]; omega), List.getElem?_eq_none (by rw [move_len]; omega)]
section
variable {P : Program} {w : World} {K : PySem.W.Frag} {mg : Str → Option Value} {base : Heap}
/-! ### check_state -/
def nCs : List Str := ["plan", "state", "time", "carried", "shelves"]
def spCheckState (K : PySem.W.Frag) (CS : Addr) : Sp := fun vs H Q E => ∃ (p s : Addr) (zs : List Int) (rs : List Ro) (t : Int) (L : Lay Int), vs = [.ref p, .ref s] ∧ PlanAt K H p zs rs ∧ Val zs rs ∧ StateAt K H s t L ∧
  (StOk zs rs t L → ∀ H', Same H H' → Q .non H') ∧ (¬ StOk zs rs t L → ∀ H', Same H H' → E (.ref CS) none H')
end
end Sv


set_option maxHeartbeats 4000000
namespace Sv
open PySem PySem.Spec PyProof.Rows L2
section
variable {P : Program} {w : World} {K : PySem.W.Frag} {mg : Str → Option Value} {base : Heap}
/-! ### parcels_in, moved -/
def spParcelsIn (K : PySem.W.Frag) : Sp := fun vs H Q _ => ∃ (s : Addr) (t : Int) (L : Lay Int), vs = [.ref s] ∧ StateAt K H s t L ∧ (join L).length ≤ 1000 ∧ NewL H (join L) Q
theorem NewL.imp {H H1 : Hp} {l : List Int} {Q : VK} (h : NewL H l Q) (e : Same H H1) : NewL H1 l Q := fun H' f sm hf => h H' f (e.trans sm) (Same.free e hf)
/-- a new state -/
def NewSt (K : PySem.W.Frag) (H : Hp) (t : Int) (L : Lay Int) (Q : VK) : Prop := ∀ H' s, Same H H' → H s = none → StateAt K H' s t L → Q (.ref s) H'
theorem NewSt.imp {K : PySem.W.Frag} {H H1 : Hp} {t : Int} {L : Lay Int} {Q : VK} (h : NewSt K H t L Q) (e : Same H H1) : NewSt K H1 t L Q := fun H' s sm hs => h H' s (e.trans sm) (Same.free e hs)
/-- a state with the same time, its parcels moved -/
def mvL (n : Nat) (zs : List Int) (e : List Nat) (L : Lay Int) : Lay Int := spl n zs (move e (join L))
def spApply (K : PySem.W.Frag) (C CS CE CD : Addr) : Sp := fun vs H Q E => ∃ (p s a : Addr) (zs : List Int) (rs : List Ro) (t : Int) (L : Lay Int) (ns : List Int), vs = [.ref p, .ref s, .ref a] ∧ PlanAt K H p zs rs ∧ Small zs rs ∧ StateAt K H s t L ∧ SqT K H a (ns.map V.int) ∧ ns.length ≤ 1000 ∧
  BadE C zs rs H E ∧ (bad zs rs = none → ¬ StOk zs rs t L → ∀ H', Same H H' → E (.ref CS) none H') ∧ (bad zs rs = none → StOk zs rs t L → ¬ EffI ns → ∀ H', Same H H' → E (.ref CE) none H') ∧
  (bad zs rs = none → StOk zs rs t L → EffI ns → ns.length ≠ rs.length + sumN zs → ∀ H', Same H H' → E (.ref CD) none H') ∧
  (∀ e, bad zs rs = none → StOk zs rs t L → ns = nInts e → Eff e → e.length = rs.length + sumN zs → NewSt K H t (mvL rs.length zs e L) Q)
theorem scStateOf : FnScope ["plan", "time", "parcels", "carried", "shelves"] ["plan", "time", "parcels"] (defScope sStateOf) := ⟨rfl, rfl, rfl, by decide +kernel, rfl, by decide +kernel, by decide +kernel⟩
def spStateOf (K : PySem.W.Frag) : Sp := fun vs H Q _ => ∃ (p l : Addr) (zs : List Int) (rs : List Ro) (t : Int) (cs : List Int), vs = [.ref p, .int t, .ref l] ∧ PlanAt K H p zs rs ∧ Val zs rs ∧ SqL K H l (cs.map V.int) ∧ cs.length ≤ 1000 ∧ NewSt K H t (spl rs.length zs cs) Q
theorem ok_stateOf (T : Bd P K mg) : FnOk P w K mg base CX0 2 T.aStateOf T.dStateOf ["plan", "time", "parcels"] (spStateOf K) := by
  have GL : FnOk P w K mg base CX0 1 T.aSplit T.dSplit ["plan", "contents"] (spSplit K) := ok_split T
  refine T.StateOf.F.ok scStateOf (fun vs H Q E h => ?_) (fun cdv A outer s H vs Q E hr h => ?_)
  · obtain ⟨p, l, zs, rs, t, cs, rfl, _⟩ := h
    rfl
  · obtain ⟨p, l, zs, rs, t, cs, rfl, hp, hv, hl, hc, q⟩ := h
    refine ⟨_, (pss_cons (ps_asg (pe_call (E := E0) GL (hr.mono (by decide)) (by rfl) T.Split.g T.Split.F.kp T.Split.b .nil pass0 (pa_cons (pv 0) (pa_cons (pv 2) pa_nil))) (pg_tup rfl (pgs_cons (pg_name (i := 3) scStateOf.nd rfl (.inl rfl)) (pgs_cons (pg_name (i := 4) scStateOf.nd rfl (.inl rfl)) pgs_nil))))
      (pss_one (ps_ret (pe_tup (pa_cons (pv 1) (pa_cons (pv 3) (pa_cons (pv 4) pa_nil))))))), ?_⟩
    refine ⟨.ref p, rfl, .ref l, rfl, p, l, zs, rs, cs, rfl, hp, hl, hv.z2, hv.z1.2, hv.r1.2, hc, fun H5 tp c2 s2 sm5 ht lay => ?_⟩
    refine ⟨tp, _, rfl, .inl (.inl ht), rfl, _, _, rfl, _, _, rfl, rfl, ?_⟩
    refine ⟨.int t, rfl, .ref c2, rfl, .ref s2, rfl, (by show 3 ≤ sizeLine; decide), fun t2 ht2 => ?_⟩
    have sm6 := same_upd (o := .tup [.int t, .ref c2, .ref s2]) ht2
    exact q _ t2 (sm5.trans sm6) (Same.free sm5 ht2) ⟨c2, s2, .inl (.inl upd_same), (lay.same sm6).t⟩
def nMv : List Str := ["plan", "state", "effect", "before", "after", "parcel", "target"]
def spMoved (K : PySem.W.Frag) : Sp := fun vs H Q _ => ∃ (p s a : Addr) (zs : List Int) (rs : List Ro) (t : Int) (L : Lay Int) (e : List Nat), vs = [.ref p, .ref s, .ref a] ∧ PlanAt K H p zs rs ∧ Val zs rs ∧ StateAt K H s t L ∧ Fits rs.length zs L ∧ SqT K H a (vN e) ∧ Eff e ∧ e.length = rs.length + sumN zs ∧ NewSt K H t (mvL rs.length zs e L) Q
/-! ### apply_effect -/
end
end Sv


set_option maxHeartbeats 4000000
namespace Sv
open PySem PySem.Spec PyProof.Rows L2
section
variable {P : Program} {w : World} {K : PySem.W.Frag} {mg : Str → Option Value} {base : Heap}
def spPlanG (K : PySem.W.Frag) : Sp := fun vs H Q _ => ∃ (h l : Addr) (ns nc : Int), vs = [.ref h, .int ns, .int nc] ∧ LawH H h l ∧ (1 ≤ ns ∧ ns ≤ 12) ∧ (1 ≤ nc ∧ nc ≤ 6) ∧ ∀ H' p zs rs, St h l H H' → PlanAt K H' p zs rs → Val zs rs → (zs.length : Int) ≤ ns → (rs.length : Int) ≤ nc → Q (.ref p) H'
theorem ok_planG (T : Bd P K mg) : FnOk P w K mg base CX0 2 T.aLPlan T.dLPlan ["_law_h", "_law_shelves", "_law_carriers"] (spPlanG K) := by
  have GN : FnOk P w K mg base CX0 1 T.aLNext T.dLNext ["_law_h", "_law_limit"] qNext := by unfold qNext; exact ok_next T.LNext.F T.bt
  refine T.LPlan.F.ok scPlan (fun vs H Q E h => ?_) (fun cdv A outer s H vs Q E hr h => ?_)
  · obtain ⟨h, l, ns, nc, rfl, _⟩ := h
    rfl
  · obtain ⟨h, l, ns, nc, rfl, LH, hns, hnc, q⟩ := h
    have p64 : (1000 : Int) < 2 ^ 64 := by decide
    have p62 : (1000 : Int) < 2 ^ 62 := by decide
    refine ⟨_, pss_cons (ps_set (i := 3) scPlan.nd rfl (Or.inl rfl) (pe_lst pa_nil))
      (pss_cons (ps_for PassesOwn.never rfl (pi_range1 (by rfl) T.bt.range (pa_cons (pe_op op_add pe_int (pe_call (E := E0) GN hr (by rfl) T.LNext.g T.LNext.F.kp T.LNext.b .nil pass0 (pa_cons (pv 0) (pa_cons (pv 1) pa_nil)))) pa_nil)) (pg_name (i := 4) scPlan.nd rfl (Or.inl rfl))
        (pss_one (ps_expr (pe_bm PySem.F.plainAttrs_list PySem.F.slot_list_append PySem.F.type_list_append mt_append (pv 3) (pa_cons (pe_ix ix_list (pe_lst (pa_cons (pe_call (E := E0) GN hr (by rfl) T.LNext.g T.LNext.F.kp T.LNext.b .nil pass0 (pa_cons (pv 0) (pa_cons pe_int pa_nil))) (pa_cons (pe_call (E := E0) GN hr (by rfl) T.LNext.g T.LNext.F.kp T.LNext.b .nil pass0 (pa_cons (pv 0) (pa_cons pe_int pa_nil))) pa_nil)))
          (pe_op op_fdiv (pe_call (E := E0) GN hr (by rfl) T.LNext.g T.LNext.F.kp T.LNext.b .nil pass0 (pa_cons (pv 0) (pa_cons pe_int pa_nil))) pe_int) (fun _ _ => rfl)) pa_nil)))))
      (pss_cons (ps_set (i := 5) scPlan.nd rfl (Or.inl rfl) (pe_lst pa_nil))
      (pss_cons (ps_for PassesOwn.never rfl (pi_range1 (by rfl) T.bt.range (pa_cons (pe_op op_add pe_int (pe_call (E := E0) GN hr (by rfl) T.LNext.g T.LNext.F.kp T.LNext.b .nil pass0 (pa_cons (pv 0) (pa_cons (pv 2) pa_nil)))) pa_nil)) (pg_name (i := 6) scPlan.nd rfl (Or.inl rfl))
        (pss_cons (ps_set (i := 7) scPlan.nd rfl (Or.inl rfl) (pe_lst pa_nil))
        (pss_cons (ps_for PassesOwn.never rfl (pi_range1 (by rfl) T.bt.range (pa_cons (pe_op op_add pe_int (pe_call (E := E0) GN hr (by rfl) T.LNext.g T.LNext.F.kp T.LNext.b .nil pass0 (pa_cons (pv 0) (pa_cons (pe_ix ix_list (pe_lst (pa_cons pe_int (pa_cons pe_int pa_nil))) (pe_call (E := E0) GN hr (by rfl) T.LNext.g T.LNext.F.kp T.LNext.b .nil pass0 (pa_cons (pv 0) (pa_cons pe_int pa_nil))) (fun _ _ => rfl)) pa_nil)))) pa_nil)) (pg_name (i := 8) scPlan.nd rfl (Or.inl rfl))
          (pss_one (ps_expr (pe_bm PySem.F.plainAttrs_list PySem.F.slot_list_append PySem.F.type_list_append mt_append (pv 7) (pa_cons (pe_ifExp (pt_cmpR op_eq (pe_call (E := E0) GN hr (by rfl) T.LNext.g T.LNext.F.kp T.LNext.b .nil pass0 (pa_cons (pv 0) (pa_cons pe_int pa_nil))) pe_int (nomark _)) pe_non
            (pe_call (E := E0) GN hr (by rfl) T.LNext.g T.LNext.F.kp T.LNext.b .nil pass0 (pa_cons (pv 0) (pa_cons (pe_callB call_len_seq (by rfl) T.bt.len b_len (pa_cons (pv 3) pa_nil)) pa_nil)))) pa_nil)))))
        (pss_one (ps_expr (pe_bm PySem.F.plainAttrs_list PySem.F.slot_list_append PySem.F.type_list_append mt_append (pv 5) (pa_cons (pe_callTy call_tuple_of (by rfl) T.bt.tuple b_tuple (pa_cons (pv 7) pa_nil)) pa_nil)))))))
      (pss_one (ps_ret (pe_tup (pa_cons (pe_callTy call_tuple_of (by rfl) T.bt.tuple b_tuple (pa_cons (pv 3) pa_nil)) (pa_cons (pe_callTy call_tuple_of (by rfl) T.bt.tuple b_tuple (pa_cons (pv 5) pa_nil)) pa_nil)))))))), ?_⟩
    refine ⟨Nat.zero_le _, fun fs hfs => ?_⟩
    obtain ⟨fh, fl⟩ := LH.nh hfs
    have S1 := (St.refl LH).upd (o := .lst []) hfs fh fl
    have k1 : (upd H fs (.lst [])) fs = some (.lst []) := upd_same
    generalize upd H fs (.lst []) = H1 at S1 k1 ⊢
    -- the sizes
    refine ⟨.ref h, rfl, .int ns, rfl, ?_⟩
    show qNext _ _ _ _
    refine go_next S1.law (by omega) (by omega) fun n1 H2 hn1 L2 x2 => ⟨1, n1, rfl, rfl, _, rfl, by omega, by omega, ?_⟩
    refine for_range (lo := 0) (n := ((1 : Int) + (n1 : Nat)).toNat) (fun i σ H' => (∃ y4, σ = [some (.ref h), some (.int ns), some (.int nc), some (.ref fs), y4, none, none, none, none]) ∧ St h l H H' ∧ ∃ zs : List Int, zs.length = i ∧ (∀ z ∈ zs, 0 ≤ z ∧ z ≤ 9) ∧ H' fs = some (.lst (zs.map V.int)))
      ⟨⟨none, rfl⟩, S1.next L2 x2, [], rfl, fun z hz => (List.not_mem_nil hz).elim, x2 _ _ fh fl k1⟩ (fun i σ H' hi ⟨⟨y4, es⟩, S, zs, zl, hz, kf⟩ => ?_) (fun σ H' ⟨⟨y4, es⟩, S, zs, zl, hz, kf⟩ => ?_)
    · subst es
      have hi12 : i < 12 := by omega
      refine ⟨.ref fs, rfl, .inl ⟨rfl, _, .inl (.inl kf)⟩, .ref h, rfl, ?_⟩
      show qNext _ _ _ _
      refine go_next S.law (by decide) (by decide) fun a H3 ha L3 x3 => ⟨.ref h, rfl, ?_⟩
      have S3 := S.next L3 x3
      show qNext _ _ _ _
      refine go_next S3.law (by decide) (by decide) fun b H4 hb L4 x4 => ⟨(by show 2 ≤ sizeLine; decide), fun D hD => ⟨.ref h, rfl, ?_⟩⟩
      have S4 := S3.next L4 x4
      obtain ⟨Dh, Dl⟩ := L4.nh hD
      have S5 := S4.same (same_upd (o := .lst [.int (a : Nat), .int (b : Nat)]) hD)
      have kD : (upd H4 D (.lst [.int (a : Nat), .int (b : Nat)])) D = some (.lst [.int (a : Nat), .int (b : Nat)]) := upd_same
      have kf5 := (same_upd (o := .lst [.int (a : Nat), .int (b : Nat)]) hD) _ _ (x4 _ _ fh fl (x3 _ _ fh fl kf))
      generalize upd H4 D (.lst [.int (a : Nat), .int (b : Nat)]) = H5 at S5 kD kf5 ⊢
      show qNext _ _ _ _
      refine go_next S5.law (by decide) (by decide) fun c H6 hc L6 x6 => ⟨c, 4, rfl, rfl, ⟨by decide, by decide⟩, ?_⟩
      have S6 := S5.next L6 x6
      have kD6 := x6 _ _ Dh Dl kD
      have kf6 := x6 _ _ fh fl kf5
      obtain ⟨z, hz0, hat⟩ : ∃ z : Int, (0 ≤ z ∧ z ≤ 9) ∧ atI [V.int (a : Nat), V.int (b : Nat)] ((c : Int) / 4) = some (.int z) := by
        have : c = 0 ∨ c = 1 ∨ c = 2 ∨ c = 3 ∨ c = 4 := by omega
        rcases this with rfl | rfl | rfl | rfl | rfl
        · exact ⟨a, ⟨by omega, by omega⟩, rfl⟩
        · exact ⟨a, ⟨by omega, by omega⟩, rfl⟩
        · exact ⟨a, ⟨by omega, by omega⟩, rfl⟩
        · exact ⟨a, ⟨by omega, by omega⟩, rfl⟩
        · exact ⟨b, ⟨by omega, by omega⟩, rfl⟩
      refine ⟨D, _, _, _, rfl, rfl, .inl (.inl kD6), hat, fs, _, _, rfl, rfl, kf6, ?_, ⟨_, rfl⟩, S6.upd hfs fh fl, zs ++ [z], by rw [List.length_append, zl]; rfl, fun y hy => ?_, ?_⟩
      · rw [List.length_map]
        exact small1000 (by omega)
      · rcases List.mem_append.mp hy with hy | hy
        · exact hz y hy
        · rw [List.mem_singleton.mp hy]
          exact hz0
      · rw [upd_same, List.map_append]
        rfl
    subst es
    have zl12 : 1 ≤ zs.length ∧ zs.length ≤ 12 := by rw [zl]; omega
    -- the routes
    refine ⟨Nat.zero_le _, fun fr hfr => ?_⟩
    obtain ⟨rh, rl⟩ := S.law.nh hfr
    have nfr := S.none hfr
    have S7 := S.same (same_upd (o := .lst []) hfr)
    have kr : (upd H' fr (.lst [])) fr = some (.lst []) := upd_same
    have kf7 := (same_upd (o := .lst []) hfr) _ _ kf
    generalize upd H' fr (.lst []) = H7 at S7 kr kf7 ⊢
    refine ⟨.ref h, rfl, .int nc, rfl, ?_⟩
    show qNext _ _ _ _
    refine go_next S7.law (by omega) (by omega) fun n2 H8 hn2 L8 x8 => ⟨1, n2, rfl, rfl, _, rfl, by omega, by omega, ?_⟩
    refine for_range (lo := 0) (n := ((1 : Int) + (n2 : Nat)).toNat) (fun i σ H' => (∃ y4 y6 y7 y8, σ = [some (.ref h), some (.int ns), some (.int nc), some (.ref fs), y4, some (.ref fr), y6, y7, y8]) ∧ St h l H H' ∧ H' fs = some (.lst (zs.map V.int)) ∧
        ∃ (qs : List Addr) (rs : List Ro), rs.length = i ∧ H' fr = some (.lst (qs.map V.ref)) ∧ Paired (fun q r => SqT K H' q (rV r)) qs rs ∧ ∀ r ∈ rs, (1 ≤ r.length ∧ r.length ≤ 6) ∧ ∀ e ∈ r, okE zs.length e = true)
      ⟨⟨_, _, _, _, rfl⟩, S7.next L8 x8, x8 _ _ fh fl kf7, [], [], rfl, x8 _ _ rh rl kr, .nil, fun r hr => (List.not_mem_nil hr).elim⟩ (fun i σ H9 hi ⟨⟨y4, y6, y7, y8, es⟩, S9, kf9, qs, rs, rl9, kr9, hP, hR⟩ => ?_) (fun σ H9 ⟨⟨y4, y6, y7, y8, es⟩, S9, kf9, qs, rs, rl9, kr9, hP, hR⟩ => ?_)
    · subst es
      have hi6 : i < 6 := by omega
      refine ⟨Nat.zero_le _, fun fe hfe => ?_⟩
      obtain ⟨eh, el⟩ := S9.law.nh hfe
      have ef : fe ≠ fs := (ne_of_none kf9 hfe).symm
      have er : fe ≠ fr := (ne_of_none kr9 hfe).symm
      have T10 := (St.refl S9.law).upd (o := .lst []) hfe eh el
      have ke : (upd H9 fe (.lst [])) fe = some (.lst []) := upd_same
      generalize upd H9 fe (.lst []) = H10 at T10 ke ⊢
      refine ⟨.ref h, rfl, (by show 2 ≤ sizeLine; decide), fun D hD => ⟨.ref h, rfl, ?_⟩⟩
      obtain ⟨Dh, Dl⟩ := T10.law.nh hD
      have T11 := T10.same (same_upd (o := .lst [.int 3, .int 6]) hD)
      have kD : (upd H10 D (.lst [.int 3, .int 6])) D = some (.lst [.int 3, .int 6]) := upd_same
      have ke11 := (same_upd (o := .lst [.int 3, .int 6]) hD) _ _ ke
      generalize upd H10 D (.lst [.int 3, .int 6]) = H11 at T11 kD ke11 ⊢
      show qNext _ _ _ _
      refine go_next T11.law (by decide) (by decide) fun u H12 hu L12 x12 => ?_
      have T12 := T11.next L12 x12
      obtain ⟨lim, l1, l2, hat⟩ : ∃ lim : Int, 0 < lim ∧ lim ≤ 6 ∧ atI [V.int 3, V.int 6] (u : Nat) = some (.int lim) := by
        have : u = 0 ∨ u = 1 := by omega
        rcases this with rfl | rfl
        · exact ⟨3, by decide, by decide, rfl⟩
        · exact ⟨6, by decide, by decide, rfl⟩
      refine ⟨D, _, _, _, rfl, rfl, .inl (.inl (x12 _ _ Dh Dl kD)), hat, ?_⟩
      show qNext _ _ _ _
      have p64 : (1000 : Int) < 2 ^ 64 := by decide
      refine go_next T12.law l1 (by omega) fun n3 H13 hn3 L13 x13 => ⟨1, n3, rfl, rfl, _, rfl, by omega, by omega, ?_⟩
      have T13 := T12.next L13 x13
      have ke13 := x13 _ _ eh el (x12 _ _ eh el ke11)
      refine for_range (lo := 0) (n := ((1 : Int) + (n3 : Nat)).toNat) (fun j σ H' => (∃ y8, σ = [some (.ref h), some (.int ns), some (.int nc), some (.ref fs), y4, some (.ref fr), some (.int (0 + (i : Nat))), some (.ref fe), y8]) ∧ St h l H9 H' ∧ ∃ r : Ro, r.length = j ∧ H' fe = some (.lst (rV r)) ∧ ∀ e ∈ r, okE zs.length e = true)
        ⟨⟨_, rfl⟩, T13, [], rfl, ke13, fun e he => (List.not_mem_nil he).elim⟩ (fun j σ H14 hj ⟨⟨y8, es⟩, T14, r, rlen, ke14, hre⟩ => ?_) (fun σ H14 ⟨⟨y8, es⟩, T14, r, rlen, ke14, hre⟩ => ?_)
      · subst es
        have hj6 : j < 6 := by omega
        refine ⟨.ref fe, rfl, .inl ⟨rfl, _, .inl (.inl ke14)⟩, .ref h, rfl, ?_⟩
        show qNext _ _ _ _
        refine go_next T14.law (by decide) (by decide) fun v H15 hv L15 x15 => ⟨rfl, _, rfl, ?_⟩
        have T15 := T14.next L15 x15
        have ke15 := x15 _ _ eh el ke14
        by_cases hv0 : v = 0
        · rw [decide_eq_true (by rw [hv0]; rfl)]
          refine iteT ⟨fe, _, _, rfl, rfl, ke15, ?_, ⟨_, rfl⟩, T15.upd hfe eh el, r ++ [none], by rw [List.length_append, rlen]; rfl, ?_, fun x hx => ?_⟩
          · rw [rV_len]
            exact small1000 (by omega)
          · rw [upd_same]
            unfold rV
            rw [List.map_append]
            rfl
          · rcases List.mem_append.mp hx with hx | hx
            · exact hre x hx
            · rw [List.mem_singleton.mp hx]
              rfl
        · rw [decide_eq_false fun z => hv0 (by have := V.int.inj z; omega)]
          have kf15 := T15.k _ _ fh fl kf9
          refine iteF ⟨.ref h, rfl, .ref fs, rfl, fs, _, rfl, .inl (.inl (.inl kf15)), ?_⟩
          rw [List.length_map]
          show qNext _ _ _ _
          refine go_next T15.law (by omega) (by omega) fun e H16 he L16 x16 => ?_
          have T16 := T15.next L16 x16
          refine ⟨fe, _, _, rfl, rfl, x16 _ _ eh el ke15, ?_, ⟨_, rfl⟩, T16.upd hfe eh el, r ++ [some (e : Int)], by rw [List.length_append, rlen]; rfl, ?_, fun x hx => ?_⟩
          · rw [rV_len]
            exact small1000 (by omega)
          · rw [upd_same]
            unfold rV
            rw [List.map_append]
            rfl
          · rcases List.mem_append.mp hx with hx | hx
            · exact hre x hx
            · rw [List.mem_singleton.mp hx]
              exact decide_eq_true ⟨by omega, by omega⟩
      · subst es
        have kr14 := T14.k _ _ rh rl kr9
        refine ⟨.ref fr, rfl, .inl ⟨rfl, _, .inl (.inl kr14)⟩, .ref fe, rfl, fe, _, rfl, .inl ⟨.inl (.inl ke14), fun t ht => ?_⟩⟩
        have U15 := T14.same (same_upd (o := .tup (rV r)) ht)
        have kt : (upd H14 t (.tup (rV r))) t = some (.tup (rV r)) := upd_same
        generalize upd H14 t (.tup (rV r)) = H15 at U15 kt ⊢
        have kr15 := U15.k _ _ rh rl kr9
        have kf15 := U15.k _ _ fh fl kf9
        have hql : qs.length = i := by rw [paired_len hP, rl9]
        refine ⟨fr, _, _, rfl, rfl, kr15, ?_, ⟨_, _, _, _, rfl⟩, (S9.trans U15).upd nfr rh rl, ?_, qs ++ [t], rs ++ [r], by rw [List.length_append, rl9]; rfl, ?_, ?_, fun x hx => ?_⟩
        · rw [List.length_map]
          exact small1000 (by omega)
        · rw [upd_ne (ne_of_none kf hfr)]
          exact kf15
        · rw [upd_same, List.map_append]
          rfl
        · exact paired_snoc (sqT_lst kr15 (.inl (.inl kt))) (paired_imp (fun a xs s => sqT_lst kr15 (sqT_x S9.law U15.k s)) hP)
        · rcases List.mem_append.mp hx with hx | hx
          · exact hR x hx
          · rw [List.mem_singleton.mp hx]
            exact ⟨by rw [rlen]; omega, hre⟩
    subst es
    refine ⟨.ref fs, rfl, fs, _, rfl, .inl ⟨.inl (.inl kf9), fun a ha => ?_⟩⟩
    have ma : Same H9 (upd H9 a (.tup (zs.map V.int))) := same_upd ha
    have ka : (upd H9 a (.tup (zs.map V.int))) a = some (.tup (zs.map V.int)) := upd_same
    generalize upd H9 a (.tup (zs.map V.int)) = Ha at ma ka ⊢
    refine ⟨.ref fr, rfl, fr, _, rfl, .inl ⟨.inl (.inl (ma _ _ kr9)), fun b hb => ?_⟩⟩
    have mb : Same Ha (upd Ha b (.tup (qs.map V.ref))) := same_upd hb
    have kb : (upd Ha b (.tup (qs.map V.ref))) b = some (.tup (qs.map V.ref)) := upd_same
    generalize upd Ha b (.tup (qs.map V.ref)) = Hb at mb kb ⊢
    refine ⟨(by show 2 ≤ sizeLine; decide), fun p hp => ?_⟩
    have mp : Same Hb (upd Hb p (.tup [.ref a, .ref b])) := same_upd hp
    refine q _ p zs rs (((S9.same ma).same mb).same mp) ⟨a, b, .inl (.inl upd_same), .inl (.inl (mp _ _ (mb _ _ ka))), qs, .inl (.inl (mp _ _ kb)), paired_same ((ma.trans mb).trans mp) hP⟩ ⟨⟨zl12, hz, ?_, fun r hr => (hR r hr).1⟩, fun r hr => (hR r hr).2⟩ ?_ ?_
    · rw [rl9]
      omega
    · rw [zl]
      omega
    · rw [rl9]
      omega
end
end Sv


set_option maxHeartbeats 4000000
namespace Sv
open PySem PySem.Spec PyProof.Rows L2
/-! ### drawn states -/
theorem cop997 : ∀ s : Fin 997, s = 0 ∨ Nat.gcd 997 s = 1 := by decide +kernel
theorem far997 {s d : Nat} (h1 : 1 ≤ s) (h2 : s ≤ 996) (d1 : 1 ≤ d) (d2 : d < 997) : (s * d) % 997 ≠ 0 := fun z => by
  have c : Nat.Coprime 997 s := by
    rcases cop997 ⟨s, by omega⟩ with q | q
    · have := congrArg Fin.val q
      simp at this
      omega
    · exact q
  have := Nat.le_of_dvd d1 (c.dvd_of_dvd_mul_left (Nat.dvd_of_mod_eq_zero z))
  omega
/-- the parcel with the number k -/
def prcl (a s : Nat) (k : Nat) : Int := 1 + (((a + s * k) % 997 : Nat) : Int)
def prcls (a s n : Nat) : List Int := (List.range n).map (prcl a s)
theorem prcls_len (a s n : Nat) : (prcls a s n).length = n := by unfold prcls; simp
theorem prcls_succ (a s n : Nat) : prcls a s (n + 1) = prcls a s n ++ [prcl a s n] := by
  unfold prcls
  rw [List.range_succ, List.map_append]
  rfl
theorem prcl_ne {a s i j : Nat} (h1 : 1 ≤ s) (h2 : s ≤ 996) (hij : i < j) (hj : j < 997) : prcl a s i ≠ prcl a s j := fun e => by
  unfold prcl at e
  have e2 : (a + s * i) % 997 = (a + s * j) % 997 := by omega
  have e3 : s * j = s * i + s * (j - i) := by rw [← Nat.mul_add]; congr 1; omega
  rw [e3] at e2
  exact far997 (s := s) (d := j - i) h1 h2 (by omega) (by omega) (by omega)
theorem prcls_ok {a s n : Nat} (h1 : 1 ≤ s) (h2 : s ≤ 996) (hn : n ≤ 997) : OkP (prcls a s n) := by
  refine ⟨fun x hx => ?_, ?_⟩
  · obtain ⟨k, _, rfl⟩ := List.mem_map.mp hx
    unfold prcl
    have := Nat.mod_lt (a + s * k) (by decide : 0 < 997)
    omega
  · refine List.pairwise_iff_getElem.mpr fun i j hi hj hij => ?_
    simp only [prcls, List.getElem_map, List.getElem_range]
    rw [prcls_len] at hj
    exact prcl_ne h1 h2 hij (by omega)
section
variable {P : Program} {w : World} {K : PySem.W.Frag} {mg : Str → Option Value} {base : Heap}
def nLs : List Str := ["_law_h", "_law_plan_here", "_law_start", "_law_step_here", "_law_parcels", "_law_time", "_law_carried", "_law_shelves", "_law_spot", "_law_size", "_law_k"]
def spState (K : PySem.W.Frag) : Sp := fun vs H Q _ => ∃ (h l p : Addr) (zs : List Int) (rs : List Ro), vs = [.ref h, .ref p] ∧ LawH H h l ∧ PlanAt K H p zs rs ∧ Val zs rs ∧
  ∀ H' s t L, St h l H H' → StateAt K H' s t L → StOk zs rs t L → (-50 ≤ t ∧ t ≤ 1000000000000000) → Q (.ref s) H'
end
end Sv


set_option maxHeartbeats 4000000
namespace Sv
open PySem PySem.Spec PyProof.Rows L2
/-! ### places by parcels -/
def spKV (ks : List Int) (ps : List Addr) : List (Key × V) := (ks.zip ps).map fun x => (Sum.inl x.1, V.ref x.2)
theorem spKV_snoc {ks : List Int} {ps : List Addr} (h : ks.length = ps.length) (k : Int) (p : Addr) : spKV (ks ++ [k]) (ps ++ [p]) = spKV ks ps ++ [(Sum.inl k, V.ref p)] := by
  unfold spKV
  rw [List.zip_append h, List.map_append]
  rfl
theorem spKV_len {ks : List Int} {ps : List Addr} (h : ks.length = ps.length) : (spKV ks ps).length = ks.length := by
  unfold spKV
  rw [List.length_map, List.length_zip]
  omega
theorem spKV_new {ks : List Int} {ps : List Addr} {k : Int} {v : V} (h : k ∉ ks) : putK (spKV ks ps) (Sum.inl k) v = spKV ks ps ++ [(Sum.inl k, v)] := by
  unfold putK
  rw [if_neg]
  intro z
  obtain ⟨kv, hkv, e⟩ := List.any_eq_true.mp z
  unfold spKV at hkv
  obtain ⟨⟨a, b⟩, hab, rfl⟩ := List.mem_map.mp hkv
  have e1 : (Sum.inl a : Key) = Sum.inl k := of_decide_eq_true e
  have e2 : a = k := Sum.inl.inj e1
  exact h (by rw [← e2]; exact (List.of_mem_zip hab).1)
/-- at d the places ts by the parcels ks -/
structure SpotsAt (H : Hp) (d : Addr) (ks : List Int) (ts : List (List V)) : Prop where
  ex : ∃ ps : List Addr, H d = some (.dK (spKV ks ps)) ∧ TupsV H ps ts ∧ ks.length = ps.length
theorem SpotsAt.same {H H' : Hp} {d : Addr} {ks : List Int} {ts : List (List V)} (x : SpotsAt H d ks ts) (e : Same H H') : SpotsAt H' d ks ts := by
  obtain ⟨ps, h1, h2, h3⟩ := x.ex
  exact ⟨ps, e _ _ h1, tupsV_same e h2, h3⟩
theorem SpotsAt.push {H : Hp} {d p : Addr} {ks : List Int} {ts : List (List V)} {k : Int} {t : List V} {kvs : List (Key × V)} (x : SpotsAt H d ks ts) (hd : H d = some (.dK kvs)) (hp : H p = some (.tup t)) (hk : k ∉ ks) :
    SpotsAt (upd H d (.dK (putK kvs (Sum.inl k) (.ref p)))) d (ks ++ [k]) (ts ++ [t]) := by
  obtain ⟨ps, h1, h2, h3⟩ := x.ex
  rw [hd] at h1
  obtain rfl : kvs = spKV ks ps := by injection Option.some.inj h1
  refine ⟨ps ++ [p], by rw [upd_same, spKV_new hk, spKV_snoc h3], tupsV_imp (fun b xs q => ?_) (tupsV_snoc h2 hp), by rw [List.length_append, List.length_append, h3]; rfl⟩
  rw [upd_ne (fun z => by rw [z, hd] at q; cases q)]
  exact q
theorem nodup_take {l : List Int} {i : Nat} {x : Int} (nd : l.Nodup) (h : l[i]? = some x) : x ∉ l.take i := fun m => by
  obtain ⟨j, hj⟩ := List.mem_iff_getElem?.mp m
  have hlt := (List.getElem?_eq_some_iff.mp hj).1
  rw [List.length_take] at hlt
  rw [List.getElem?_take_of_lt (by omega)] at hj
  obtain ⟨h1, e1⟩ := List.getElem?_eq_some_iff.mp h
  obtain ⟨h2, e2⟩ := List.getElem?_eq_some_iff.mp hj
  have := (List.getElem_inj nd).mp (e1.trans e2.symm)
  omega
section
variable {P : Program} {w : World} {K : PySem.W.Frag} {mg : Str → Option Value} {base : Heap}
def nSp : List Str := ["_law_state_here", "_law_found", "_law_carrier", "_law_shelf", "_law_position"]
def spSpots (K : PySem.W.Frag) : Sp := fun vs H Q _ => ∃ (s : Addr) (t : Int) (zs : List Int) (n : Nat) (L : Lay Int), vs = [.ref s] ∧ StateAt K H s t L ∧ Fits n zs L ∧ (join L).Nodup ∧ n ≤ 6 ∧ zs.length ≤ 12 ∧ (∀ z ∈ zs, 0 ≤ z ∧ z ≤ 9) ∧
  ∀ H' d, Same H H' → H d = none → SpotsAt H' d (join L) (placesV zs n) → Q (.ref d) H'
end
end Sv


set_option maxHeartbeats 4000000
namespace Sv
open PySem PySem.Spec PyProof.Rows L2
/-! ### a world of lists -/
def wKV (t : Int) (hc hs : Addr) : List (Key × V) := [(Sum.inr "time", .int t), (Sum.inr "carried", .ref hc), (Sum.inr "shelves", .ref hs)]
theorem wKV_t (t : Int) (hc hs : Addr) : valV (wKV t hc hs) (Sum.inr ("time" : Str)) = some (.int t) := rfl
theorem wKV_c (t : Int) (hc hs : Addr) : valV (wKV t hc hs) (Sum.inr ("carried" : Str)) = some (.ref hc) := rfl
theorem wKV_s (t : Int) (hc hs : Addr) : valV (wKV t hc hs) (Sum.inr ("shelves" : Str)) = some (.ref hs) := rfl
theorem wKV_put (t u : Int) (hc hs : Addr) : putK (wKV t hc hs) (Sum.inr ("time" : Str)) (.int u) = wKV u hc hs := rfl
/-- at w time, carried and shelves as they are now -/
structure W3 (H : Hp) (wa hc hs : Addr) (rw : List Addr) (t : Int) (L : Lay Int) : Prop where
  w : H wa = some (.dK (wKV t hc hs))
  c : H hc = some (.lst (L.1.map V.int))
  s : H hs = some (.lst (rw.map V.ref))
  r : RowL H rw L.2
  nd : rw.Nodup
  hcr : hc ∉ rw
  hsr : hs ∉ rw
  hcs : hc ≠ hs
theorem W3.wc {H : Hp} {wa hc hs : Addr} {rw : List Addr} {t : Int} {L : Lay Int} (x : W3 H wa hc hs rw t L) : wa ≠ hc ∧ wa ≠ hs ∧ wa ∉ rw := by
  refine ⟨fun z => ?_, fun z => ?_, fun m => ?_⟩
  · have := x.c
    rw [← z, x.w] at this
    cases this
  · have := x.s
    rw [← z, x.w] at this
    cases this
  · obtain ⟨xs, e⟩ := rowL_mem x.r m
    rw [x.w] at e
    cases e
theorem W3.same {H H' : Hp} {wa hc hs : Addr} {rw : List Addr} {t : Int} {L : Lay Int} (x : W3 H wa hc hs rw t L) (e : Same H H') : W3 H' wa hc hs rw t L :=
  ⟨e _ _ x.w, e _ _ x.c, e _ _ x.s, rowL_imp (fun q _ o ho => e _ _ ho) x.r, x.nd, x.hcr, x.hsr, x.hcs⟩
/-- all but F stays -/
def Off (F : List Addr) (H H' : Hp) : Prop := ∀ b o, b ∉ F → H b = some o → H' b = some o
theorem Off.refl (F : List Addr) (H : Hp) : Off F H H := fun _ _ _ h => h
theorem Off.trans {F : List Addr} {H H1 H2 : Hp} (a : Off F H H1) (b : Off F H1 H2) : Off F H H2 := fun c o n h => b c o n (a c o n h)
theorem Off.of {F : List Addr} {H H' : Hp} (e : Same H H') : Off F H H' := fun b o _ h => e b o h
theorem Off.upd {F : List Addr} {H : Hp} {p : Addr} {o : HO} (h : p ∈ F) : Off F H (L2.upd H p o) := fun b u n e => by
  rw [upd_ne (fun z : b = p => n (by rw [z]; exact h))]
  exact e
abbrev foot (wa hc : Addr) (rw : List Addr) : List Addr := wa :: hc :: rw
theorem W3.not_tup {H : Hp} {wa hc hs : Addr} {rw : List Addr} {t : Int} {L : Lay Int} (x : W3 H wa hc hs rw t L) {b : Addr} {o : HO} (h : H b = some o) (hl : ∀ xs, o ≠ .lst xs) (hd : ∀ kvs, o ≠ .dK kvs) : b ∉ foot wa hc rw := fun m => by
  rcases List.mem_cons.mp m with z | m
  · rw [z, x.w] at h
    exact hd _ (Option.some.inj h).symm
  rcases List.mem_cons.mp m with z | m
  · rw [z, x.c] at h
    exact hl _ (Option.some.inj h).symm
  · obtain ⟨xs, e⟩ := rowL_mem x.r m
    rw [e] at h
    exact hl _ (Option.some.inj h).symm
theorem sqT_off {K : PySem.W.Frag} {H H' : Hp} {wa hc hs a : Addr} {rw : List Addr} {t : Int} {L : Lay Int} {xs : List V} (x : W3 H wa hc hs rw t L) (e : Off (foot wa hc rw) H H') (s : SqT K H a xs) : SqT K H' a xs := by
  rcases s with (s | ⟨o, s⟩) | s
  · exact .inl (.inl (e _ _ (x.not_tup s (fun _ z => by cases z) (fun _ z => by cases z)) s))
  · exact .inl (.inr ⟨o, e _ _ (x.not_tup s (fun _ z => by cases z) (fun _ z => by cases z)) s⟩)
  · exact .inr s
/-! ### visits one by one -/
def visN (rs : List Ro) (t : Int) (i : Nat) : List (Nat × Nat) := (prs rs t i).map fun p => (p.1, p.2.toNat)
theorem visN_none {rs : List Ro} {t : Int} {i : Nat} {r : Ro} (h : rs[i]? = some r) (e : ent r t = none) : visN rs t (i + 1) = visN rs t i := by
  unfold visN
  conv => lhs; unfold prs
  rw [h]
  simp only [e, List.append_nil]
theorem visN_some {rs : List Ro} {t : Int} {i : Nat} {r : Ro} {z : Int} (h : rs[i]? = some r) (e : ent r t = some z) : visN rs t (i + 1) = visN rs t i ++ [(i, z.toNat)] := by
  unfold visN
  conv => lhs; unfold prs
  rw [h]
  simp only [e, List.map_append]
  rfl
theorem exN_app (ps : List (Nat × Nat)) (p : Nat × Nat) (L : Lay Int) : ∀ k, k ≤ ps.length → exN (ps ++ [p]) L k = exN ps L k
  | 0, _ => rfl
  | k + 1, hk => by
    unfold exN
    rw [exN_app ps p L k (by omega), List.getElem?_append_left (by omega), List.take_append_of_le_length (by omega)]
theorem exL_snoc (ps : List (Nat × Nat)) (p : Nat × Nat) (L : Lay Int) : exL (ps ++ [p]) L = exL ps L ++ [exch (steps ps L) p] := by
  unfold exL
  rw [List.length_append]
  show exN (ps ++ [p]) L (ps.length + 1) = _
  rw [exN_succ (p := p) (by rw [List.getElem?_append_right (Nat.le_refl _), Nat.sub_self]; rfl), exN_app _ _ _ _ (Nat.le_refl _), List.take_append_of_le_length (Nat.le_refl _), List.take_length]
theorem exL_len (ps : List (Nat × Nat)) (L : Lay Int) : (exL ps L).length ≤ ps.length := exN_len _ _ _
theorem visN_len (rs : List Ro) (t : Int) (i : Nat) : (visN rs t i).length ≤ i := by
  unfold visN
  rw [List.length_map]
  have := meetN_len rs t i
  rw [prs_meet, List.length_map] at this
  exact this
section
variable {P : Program} {w : World} {K : PySem.W.Frag} {mg : Str → Option Value} {base : Heap}
/-! ### _law_begun -/
def nBe : List Str := ["_law_state_here", "_law_shelf"]
def spBegun (K : PySem.W.Frag) : Sp := fun vs H Q _ => ∃ (s : Addr) (t : Int) (L : Lay Int), vs = [.ref s] ∧ StateAt K H s t L ∧ L.2.length ≤ 1000 ∧
  ∀ H' wa hc hs rw, Same H H' → W3 H' wa hc hs rw t L → (∀ b ∈ wa :: hc :: hs :: rw, H b = none) → Q (.ref wa) H'
/-! ### _law_seen -/
def nSe : List Str := ["_law_w", "_law_shelf"]
def spSeen (K : PySem.W.Frag) : Sp := fun vs H Q _ => ∃ (wa hc hs : Addr) (rw : List Addr) (t : Int) (L : Lay Int), vs = [.ref wa] ∧ W3 H wa hc hs rw t L ∧ L.2.length ≤ 1000 ∧ NewSt K H t L Q
end
end Sv


set_option maxHeartbeats 4000000
namespace Sv
open PySem PySem.Spec PyProof.Rows L2
section
variable {P : Program} {w : World} {K : PySem.W.Frag} {mg : Str → Option Value} {base : Heap}
/-! ### _law_step -/
def nSt : List Str := ["_law_plan_here", "_law_w", "_law_found", "_law_carrier", "_law_route", "_law_shelf", "_law_parcel"]
def spStep (K : PySem.W.Frag) : Sp := fun vs H Q _ => ∃ (p wa hc hs : Addr) (rw : List Addr) (zs : List Int) (rs : List Ro) (t : Int) (L : Lay Int), vs = [.ref p, .ref wa] ∧ PlanAt K H p zs rs ∧ Val zs rs ∧ W3 H wa hc hs rw t L ∧ Fits rs.length zs L ∧
  ∀ H' x, Off (foot wa hc rw) H H' → W3 H' wa hc hs rw (t + 1) (tickL rs t L) → H x = none → TL H' x (exL (vis rs t) L) → Q (.ref x) H'
end
end Sv


set_option maxHeartbeats 4000000
namespace Sv
open PySem PySem.Spec PyProof.Rows L2
/-! ### states as data -/
def dTi (l : List Int) : PyData := .tuple (l.map PyData.int)
def dSt (t : Int) (L : Lay Int) : PyData := .tuple [.int t, dTi L.1, .tuple (L.2.map dTi)]
theorem dpAll_int {K : PySem.W.Frag} {H : Hp} : ∀ l : List Int, DpAll K H (l.map V.int) (l.map PyData.int)
  | [] => .nil
  | i :: l => .cons (.int i) (dpAll_int l)
theorem dp_ti {K : PySem.W.Frag} {H : Hp} {a : Addr} {l : List Int} (h : SqT K H a (l.map V.int)) : Dp K H (.ref a) (dTi l) := .tup h (dpAll_int l)
theorem dpAll_ti {K : PySem.W.Frag} {H : Hp} : ∀ {qs : List Addr} {ss : List (List Int)}, Paired (fun q s => SqT K H q (s.map V.int)) qs ss → DpAll K H (qs.map V.ref) (ss.map dTi)
  | _, _, .nil => .nil
  | _, _, .cons h t => .cons (dp_ti h) (dpAll_ti t)
theorem dp_state {K : PySem.W.Frag} {H : Hp} {s : Addr} {t : Int} {L : Lay Int} (x : StateAt K H s t L) : Dp K H (.ref s) (dSt t L) := by
  obtain ⟨ca, sh, h1, h2⟩ := x.ex
  obtain ⟨qs, h3, h4⟩ := h2.s
  exact .tup h1 (.cons (.int t) (.cons (dp_ti h2.c) (.cons (.tup h3 (dpAll_ti h4)) .nil)))
theorem okD_i (n : Nat) (i : Int) : okD n (.int i) = true := by cases n <;> rfl
theorem okDs_int (n : Nat) : ∀ l : List Int, okDs n (l.map PyData.int) = true
  | [] => by unfold okDs; rfl
  | i :: l => by
    rw [List.map_cons]
    unfold okDs
    rw [okDs_int n l, Bool.and_true]
    exact okD_i n i
theorem okD_ti {n : Nat} {l : List Int} (h : l.length ≤ 1000) : okD (n + 1) (dTi l) = true := by
  unfold dTi okD
  rw [okDs_int, List.length_map, decide_eq_true h]
  rfl
theorem okDs_ti {n : Nat} : ∀ {ss : List (List Int)}, (∀ s ∈ ss, s.length ≤ 1000) → okDs (n + 1) (ss.map dTi) = true
  | [], _ => by unfold okDs; rfl
  | s :: ss, h => by
    rw [List.map_cons]
    unfold okDs
    rw [okD_ti (h s (List.mem_cons_self ..)), okDs_ti fun x hx => h x (List.mem_cons_of_mem _ hx)]
    rfl
theorem okD_st {n : Nat} {t : Int} {L : Lay Int} (h1 : L.1.length ≤ 1000) (h2 : L.2.length ≤ 1000) (h3 : ∀ s ∈ L.2, s.length ≤ 1000) : okD (n + 3) (dSt t L) = true := by
  have e1 : okD (n + 2) (PyData.int t) = true := okD_i _ t
  have e2 : okD (n + 2) (dTi L.1) = true := okD_ti h1
  have e3 : okD (n + 2) (.tuple (L.2.map dTi)) = true := by
    unfold okD
    rw [okDs_ti h3, List.length_map, decide_eq_true h2]
    rfl
  unfold dSt okD
  have : okDs (n + 2) [PyData.int t, dTi L.1, .tuple (L.2.map dTi)] = true := by
    simp only [okDs, e1, e2, e3]
    rfl
  rw [this]
  rfl
end Sv


set_option maxHeartbeats 4000000
/-! sorted(d), d a dict of ints, any number of them -/
namespace Sv
open PySem PySem.Spec PyProof.Rows L2
def rSortDN : List V → Hp → VK → Prop := fun xs H Q => ∃ (a : Addr) (kvs : List (Key × V)) (ks : List Int), xs = [.ref a] ∧ Rd H a (.dK kvs) ∧ kvs.map (·.1) = ks.map Sum.inl ∧
  ∀ (ys : List Int) (p : Addr), ys.Perm ks → ys.Pairwise (· ≤ ·) → H p = none → Q (.ref p) (upd H p (.lst (ys.map V.int)))
theorem call_sortedDN {X : Cx} (hcalm : X.calm = true) : CallR X (.builtin "sorted") rSortDN := by
  intro pins s σ H xs us Q I r ⟨a, kvs, ks, ex, hd, hks, q⟩
  subst ex
  obtain ⟨u, eu, rx⟩ := vals1 r
  subst eu
  cases rx
  obtain ⟨z, lo, vs, rel, dd⟩ := dk_rd I.hok hd
  obtain ⟨ep, hat⟩ := dd.dictAt
  have hk : vs.map (·.1) = ks.map Sum.inl := rel.keys.symm.trans hks
  have hl : vs.length = ks.length := by simpa using congrArg List.length hk
  have hz : vs.length ≤ sizeLine := by rw [← rel.length]; exact z
  refine Calls.call_function_entry PyProof.Rows.kind_sorted PyProof.Rows.plain_sorted PyProof.Rows.entry_sorted (PyProof.Rows.args_sorted1 _) ?_
  unfold Builtin.«sorted»
  refine wpAny_bind (m := checkCount "sorted" 1 1 _) (wpAny_pure (wpAny_bind (PySem.W.kdu_collect (A := X.A.in1) (PySem.W.kdl_dict (knd := mixKind X.prog X.w) (kvs := vs) (ep := ep) lo) (I.ok.hd hcalm) hat hz fun h' tk acc kp hacc => ?_)))
  have al : acc.toList.length = ks.length := by rw [Array.length_toList, hacc.1, hl]
  have hI : IntsAre acc.toList ks := ints_each al fun j v e => by
    obtain ⟨k, x, e1, e2⟩ := hacc.2 j v (by rw [← Array.getElem?_toList]; exact e)
    have e3 : (vs.map (·.1))[j]? = some k := by rw [List.getElem?_map, e1]; rfl
    rw [hk, List.getElem?_map] at e3
    cases e4 : ks[j]? with
    | none => rw [e4] at e3; cases e3
    | some y =>
      rw [e4] at e3
      obtain rfl : Sum.inl y = k := Option.some.inj e3
      rcases keyIs_shape (show keyIs (Sum.inl y) v = true from e2) with ⟨i, t, ek, ev⟩ | ⟨z, t, ek, ev⟩
      · cases ek
        exact ⟨y, t, rfl, ev⟩
      · cases ek
  have I1 : Inv X pins σ H { s with heap := h', toks := tk } := I.kept kp
  refine wpAny_bind (wpAny_newList ?_ (by rw [al, ← hl]; exact hz))
  have hoL : (h'.push (seqObj "list" acc.toList.toArray 0)).get? h'.objs.size = some (seqObj "list" acc.toList.toArray 0) := Heap.get?_push_size _ rfl
  show wpAny _ _ _ _ _ { s with heap := h'.push (seqObj "list" acc.toList.toArray 0), toks := tk }
  refine wpAny_bind (wpAny_holding (wpAny_call_entry PyProof.Rows.slot_list_sort ⟨_, hoL, rfl⟩ PyProof.Rows.entry_list_sort
    (SrtO.list_sort_ord SrtO.swo_int hoL (by rw [al, ← hl]; exact hz) (fun h2 => SrtO.ints_sortable hI h2) fun out g1 g2 => ⟨_, rfl, ?_⟩) (PyProof.Rows.args_list_sort _)))
  obtain ⟨k1, k2, k3⟩ := SrtO.ints_out hI g1 g2
  obtain ⟨e', he'⟩ := PyProof.Rows.sortedHeap_at (vs := acc.toList) (out := out.toArray) hoL
  have hlen : ((out.map SrtO.iv).map V.int).length ≤ sizeLine := by
    rw [List.length_map, k2.length_eq, ← hl]
    exact hz
  refine wpAny_pure ⟨_, rfl, .ref h'.objs.size, upd H h'.objs.size (.lst ((out.map SrtO.iv).map V.int)), I1.laid (t' := tk) (fun b u e => ?_) (Nat.le_refl _) (show ObjOk X.prog X.w _ _ _ (.lst ((out.map SrtO.iv).map V.int)) from ⟨hlen, out, e', vals_of_ints k1, he'⟩), rfl, q _ _ k2 k3 (I1.hok.fresh (Nat.le_refl _))⟩
  have hb : b < h'.objs.size := Heap.lt_size e
  rw [PyProof.Rows.sortedHeap_old (Nat.ne_of_lt hb) (by rw [size_push']; exact Nat.lt_succ_of_lt hb)]
  exact Heap.get?_push_of_some _ e
end Sv


set_option maxHeartbeats 1000000
/-! layouts after any number of ticks, the mathematics alone -/
namespace Sv
/-- all things moved -/
def moveA {α : Type} (d : α) (e : List Nat) (cs : List α) : List α := (inv e).map fun i => cs.getD i d
theorem moveA_len {α : Type} (d : α) (e : List Nat) (cs : List α) : (moveA d e cs).length = e.length := by unfold moveA; rw [List.length_map, inv_len]
theorem getD_map {α : Type} (d : α) (f : Nat → α) {l : List Nat} {i : Nat} (h : i < l.length) : (l.map f).getD i d = f (ap l i) := by
  rw [List.getD_eq_getElem?_getD, List.getElem?_map, ap_at h]
  rfl
theorem moveA_at {α : Type} (d : α) {e : List Nat} (E : Eff e) {cs : List α} (hl : cs.length = e.length) {i : Nat} (hi : i < e.length) : (moveA d e cs)[ap e i]? = cs[i]? := by
  unfold moveA
  rw [List.getElem?_map, ap_at (by rw [inv_len]; exact ap_lt E hi), inv_ap E hi, Option.map_some, List.getD_eq_getElem?_getD, List.getElem?_eq_getElem (by omega)]
  rfl
theorem moveA_comp {α : Type} (d : α) {a b : List Nat} (A : Eff a) (B : Eff b) (hl : a.length = b.length) (cs : List α) : moveA d b (moveA d a cs) = moveA d (comp a b) cs := by
  unfold moveA
  rw [inv_comp A B hl]
  unfold comp
  rw [List.map_map]
  refine List.map_congr_left fun q hq => ?_
  have h1 : q < (inv a).length := by
    rw [inv_len, hl]
    have := (inv_eff B).1 q hq
    rwa [inv_len] at this
  exact getD_map d _ h1
theorem moveA_range {α : Type} (d : α) (cs : List α) : moveA d (List.range cs.length) cs = cs := by
  unfold moveA
  rw [inv_range, map_getD]
section
variable {α : Type} (d : α) (zs : List Int) (rs : List Ro)
/-- a layout of the time t after c ticks -/
noncomputable def advA (t c : Int) (L : Lay α) : Lay α := spl rs.length zs (moveA d (effT rs.length zs rs t c) (join L))
theorem advA_fits (t c : Int) (L : Lay α) : Fits rs.length zs (advA d zs rs t c L) := spl_fits (by rw [moveA_len, effT_len])
theorem join_advA (t c : Int) (L : Lay α) : join (advA d zs rs t c L) = moveA d (effT rs.length zs rs t c) (join L) := join_spl (by rw [moveA_len, effT_len])
variable {rs}
variable (h : ∀ r ∈ rs, r ≠ []) (hp : 1 ≤ lc rs)
include h hp
theorem advA_add (t a b : Int) (L : Lay α) : advA d zs rs (t + a) b (advA d zs rs t a L) = advA d zs rs t (a + b) L := by
  unfold advA
  have e1 := join_advA d zs rs t a L
  unfold advA at e1
  rw [e1, moveA_comp d (effT_eff ..) (effT_eff ..) (by rw [effT_len, effT_len]), effT_add rs.length zs h hp]
theorem advA_zero (t : Int) {L : Lay α} (hf : Fits rs.length zs L) : advA d zs rs t 0 L = L := by
  unfold advA
  rw [effT_zero rs.length zs h hp, ← join_len hf, moveA_range, spl_join hf]
theorem advA_nat (t : Int) (k : Nat) {L : Lay α} (hf : Fits rs.length zs L) : advA d zs rs t (k : Nat) L = run rs t k L := by
  unfold advA
  rw [effT_nat rs.length zs h hp]
  unfold fwd moveA
  rw [inv_inv (org_eff ..), ← run_org d hf, spl_join (run_fits rs t k hf)]
theorem advA_one (t : Int) {L : Lay α} (hf : Fits rs.length zs L) : advA d zs rs t 1 L = tickL rs t L := by
  have := advA_nat d zs h hp t 1 hf
  rw [show ((1 : Nat) : Int) = 1 from rfl] at this
  rw [this]
  show tickL rs (t + ((0 : Nat) : Int)) L = _
  congr 1
  omega
/-- from one of the states of a run to another -/
theorem advA_run (t : Int) (i j : Nat) {L : Lay α} (hf : Fits rs.length zs L) : advA d zs rs (t + (i : Nat)) ((j : Int) - (i : Nat)) (run rs t i L) = run rs t j L := by
  rw [← advA_nat d zs h hp t i hf, advA_add d zs h hp, ← advA_nat d zs h hp t j hf]
  congr 1
  omega
end
end Sv


set_option maxHeartbeats 4000000
namespace Sv
open PySem PySem.Spec PyProof.Rows L2
/-! ### what the program's functions of movement do where all is valid -/
/-- a valid plan, one of its states -/
structure PS0 (K : PySem.W.Frag) (H : Hp) (p s : Addr) (zs : List Int) (rs : List Ro) (t : Int) (L : Lay Int) : Prop where
  p : PlanAt K H p zs rs
  v : Val zs rs
  s : StateAt K H s t L
  o : StOk zs rs t L
theorem PS0.imp {K : PySem.W.Frag} {H H' : Hp} {p s : Addr} {zs : List Int} {rs : List Ro} {t : Int} {L : Lay Int} (x : PS0 K H p s zs rs t L) (e : ∀ a xs, SqT K H a xs → SqT K H' a xs) : PS0 K H' p s zs rs t L := by
  obtain ⟨a, b, h1, h2, h3⟩ := x.p.ex
  obtain ⟨qs, h4, h5⟩ := h3.ex
  exact ⟨⟨a, b, e _ _ h1, e _ _ h2, qs, e _ _ h4, paired_imp (K := K) e h5⟩, x.v, x.s.imp e, x.o⟩
theorem plan_imp {K : PySem.W.Frag} {H H' : Hp} {p : Addr} {zs : List Int} {rs : List Ro} (x : PlanAt K H p zs rs) (e : ∀ a xs, SqT K H a xs → SqT K H' a xs) : PlanAt K H' p zs rs := by
  obtain ⟨a, b, h1, h2, h3⟩ := x.ex
  obtain ⟨qs, h4, h5⟩ := h3.ex
  exact ⟨a, b, e _ _ h1, e _ _ h2, qs, e _ _ h4, paired_imp (K := K) e h5⟩
def vAdvance (K : PySem.W.Frag) : Sp := fun vs H Q _ => ∃ (p s : Addr) (zs : List Int) (rs : List Ro) (t c : Int) (L : Lay Int), vs = [.ref p, .ref s, .int c] ∧ PS0 K H p s zs rs t L ∧ CtOk c ∧
  ∀ H' s', Same H H' → StateAt K H' s' (t + c) (advA 0 zs rs t c L) → Q (.ref s') H'
def vLocate (K : PySem.W.Frag) : Sp := fun vs H Q _ => ∃ (p s : Addr) (zs : List Int) (rs : List Ro) (t x c : Int) (L : Lay Int), vs = [.ref p, .ref s, .int x, .int c] ∧ PS0 K H p s zs rs t L ∧ x ∈ join L ∧ CtOk c ∧
  ∀ H' u (i : Nat) pl, Same H H' → (join (advA 0 zs rs t c L))[i]? = some x → (placesV zs rs.length)[i]? = some pl → SqT K H' u pl → Q (.ref u) H'
def vParcelAt (K : PySem.W.Frag) : Sp := fun vs H Q _ => ∃ (p s u : Addr) (zs : List Int) (rs : List Ro) (t c : Int) (L : Lay Int) (i : Nat) (pl : List V), vs = [.ref p, .ref s, .ref u, .int c] ∧ PS0 K H p s zs rs t L ∧ SqT K H u pl ∧ (placesV zs rs.length)[i]? = some pl ∧ CtOk c ∧
  ∀ H' x, Same H H' → (join (advA 0 zs rs t c L))[i]? = some x → Q (.int x) H'
/-! ### short ways into the law's own defs -/
@[irreducible] def qPlanG (K : PySem.W.Frag) : Sp := spPlanG K
@[irreducible] def qState (K : PySem.W.Frag) : Sp := spState K
@[irreducible] def qBegun (K : PySem.W.Frag) : Sp := spBegun K
@[irreducible] def qSeen (K : PySem.W.Frag) : Sp := spSeen K
@[irreducible] def qStep (K : PySem.W.Frag) : Sp := spStep K
@[irreducible] def qSpots (K : PySem.W.Frag) : Sp := spSpots K
@[irreducible] def qAlike (K : PySem.W.Frag) : Sp := spAlike K 6
@[irreducible] def qAdvance (K : PySem.W.Frag) : Sp := vAdvance K
@[irreducible] def qLocate (K : PySem.W.Frag) : Sp := vLocate K
@[irreducible] def qParcelAt (K : PySem.W.Frag) : Sp := vParcelAt K
section
variable {K : PySem.W.Frag} {H : Hp} {Q : VK} {E : XK}
theorem go_planG {h l : Addr} {ns nc : Int} (L : LawH H h l) (h1 : 1 ≤ ns ∧ ns ≤ 12) (h2 : 1 ≤ nc ∧ nc ≤ 6) (q : ∀ H' p zs rs, St h l H H' → PlanAt K H' p zs rs → Val zs rs → (zs.length : Int) ≤ ns → (rs.length : Int) ≤ nc → Q (.ref p) H') : qPlanG K [.ref h, .int ns, .int nc] H Q E := by
  unfold qPlanG
  exact ⟨h, l, ns, nc, rfl, L, h1, h2, q⟩
theorem go_state {h l p : Addr} {zs : List Int} {rs : List Ro} (L : LawH H h l) (hp : PlanAt K H p zs rs) (hv : Val zs rs) (q : ∀ H' s t L, St h l H H' → StateAt K H' s t L → StOk zs rs t L → (-50 ≤ t ∧ t ≤ 1000000000000000) → Q (.ref s) H') : qState K [.ref h, .ref p] H Q E := by
  unfold qState
  exact ⟨h, l, p, zs, rs, rfl, L, hp, hv, q⟩
theorem go_begun {s : Addr} {t : Int} {L : Lay Int} (hs : StateAt K H s t L) (hl : L.2.length ≤ 1000) (q : ∀ H' wa hc hs rw, Same H H' → W3 H' wa hc hs rw t L → (∀ b ∈ wa :: hc :: hs :: rw, H b = none) → Q (.ref wa) H') : qBegun K [.ref s] H Q E := by
  unfold qBegun
  exact ⟨s, t, L, rfl, hs, hl, q⟩
theorem go_seen {wa hc hs : Addr} {rw : List Addr} {t : Int} {L : Lay Int} (W : W3 H wa hc hs rw t L) (hl : L.2.length ≤ 1000) (q : NewSt K H t L Q) : qSeen K [.ref wa] H Q E := by
  unfold qSeen
  exact ⟨wa, hc, hs, rw, t, L, rfl, W, hl, q⟩
theorem go_step {p wa hc hs : Addr} {rw : List Addr} {zs : List Int} {rs : List Ro} {t : Int} {L : Lay Int} (hp : PlanAt K H p zs rs) (hv : Val zs rs) (W : W3 H wa hc hs rw t L) (hf : Fits rs.length zs L)
    (q : ∀ H' x, Off (foot wa hc rw) H H' → W3 H' wa hc hs rw (t + 1) (tickL rs t L) → H x = none → TL H' x (exL (vis rs t) L) → Q (.ref x) H') : qStep K [.ref p, .ref wa] H Q E := by
  unfold qStep
  exact ⟨p, wa, hc, hs, rw, zs, rs, t, L, rfl, hp, hv, W, hf, q⟩
theorem go_spots {s : Addr} {t : Int} {zs : List Int} {rs : List Ro} {L : Lay Int} (hs : StateAt K H s t L) (hv : Val zs rs) (hf : Fits rs.length zs L) (nd : (join L).Nodup) (q : ∀ H' d, Same H H' → H d = none → SpotsAt H' d (join L) (placesV zs rs.length) → Q (.ref d) H') : qSpots K [.ref s] H Q E := by
  unfold qSpots
  exact ⟨s, t, zs, rs.length, L, rfl, hs, hf, nd, hv.r1.2, hv.z1.2, hv.z2, q⟩
theorem go_alike {x y : V} {d : PyData} (h1 : Dp K H x d) (h2 : Dp K H y d) (o : okD 6 d = true) (q : ∀ H', Same H H' → Q (.bl true) H') : qAlike K [x, y] H Q E := by
  unfold qAlike
  exact ⟨x, y, d, rfl, h1, h2, o, q⟩
theorem go_advance {p s : Addr} {zs : List Int} {rs : List Ro} {t c : Int} {L : Lay Int} (x : PS0 K H p s zs rs t L) (hc : CtOk c) (q : ∀ H' s', Same H H' → StateAt K H' s' (t + c) (advA 0 zs rs t c L) → Q (.ref s') H') : qAdvance K [.ref p, .ref s, .int c] H Q E := by
  unfold qAdvance
  exact ⟨p, s, zs, rs, t, c, L, rfl, x, hc, q⟩
theorem go_locate {p s : Addr} {zs : List Int} {rs : List Ro} {t x c : Int} {L : Lay Int} (y : PS0 K H p s zs rs t L) (hx : x ∈ join L) (hc : CtOk c)
    (q : ∀ H' u (i : Nat) pl, Same H H' → (join (advA 0 zs rs t c L))[i]? = some x → (placesV zs rs.length)[i]? = some pl → SqT K H' u pl → Q (.ref u) H') : qLocate K [.ref p, .ref s, .int x, .int c] H Q E := by
  unfold qLocate
  exact ⟨p, s, zs, rs, t, x, c, L, rfl, y, hx, hc, q⟩
theorem go_parcelAt {p s u : Addr} {zs : List Int} {rs : List Ro} {t c : Int} {L : Lay Int} {i : Nat} {pl : List V} (y : PS0 K H p s zs rs t L) (hu : SqT K H u pl) (hi : (placesV zs rs.length)[i]? = some pl) (hc : CtOk c)
    (q : ∀ H' x, Same H H' → (join (advA 0 zs rs t c L))[i]? = some x → Q (.int x) H') : qParcelAt K [.ref p, .ref s, .ref u, .int c] H Q E := by
  unfold qParcelAt
  exact ⟨p, s, u, zs, rs, t, c, L, i, pl, rfl, y, hu, hi, hc, q⟩
end
/-! ### what the source's owner keeps in mind -/
theorem sqT_st {K : PySem.W.Frag} {h l : Addr} {H H' : Hp} (L : LawH H h l) (S : St h l H H') : ∀ a xs, SqT K H a xs → SqT K H' a xs := fun a xs s => sqT_x L S.k s
theorem sqT_s {K : PySem.W.Frag} {H H' : Hp} (e : Same H H') : ∀ a xs, SqT K H a xs → SqT K H' a xs := fun _ _ => sqT_same e
/-- states behind ticks are valid, too -/
theorem moveA_mem {d : Int} {e : List Nat} (E : Eff e) {cs : List Int} (hl : cs.length = e.length) : (moveA d e cs).Perm cs := by
  have p1 : (inv e).Perm (List.range cs.length) := by
    have I := inv_eff E
    have il := inv_len e
    refine (List.perm_ext_iff_of_nodup I.2 List.nodup_range).mpr fun x => ⟨fun hx => ?_, fun hx => ?_⟩
    · have := I.1 x hx
      exact List.mem_range.mpr (by omega)
    · have hx' := List.mem_range.mp hx
      have h1 := ap_at (e := inv e) (x := ap e x) (by rw [il]; exact ap_lt E (by omega))
      rw [inv_ap E (by omega)] at h1
      exact List.mem_of_getElem? h1
  have := p1.map fun i => cs.getD i d
  rw [map_getD d cs] at this
  exact this
theorem okP_perm {a b : List Int} (p : a.Perm b) (h : OkP b) : OkP a := ⟨fun x hx => h.1 x (p.mem_iff.mp hx), p.nodup_iff.mpr h.2⟩
theorem advA_perm {zs : List Int} {rs : List Ro} (t c : Int) {L : Lay Int} (hf : Fits rs.length zs L) : (join (advA 0 zs rs t c L)).Perm (join L) := by
  rw [join_advA]
  exact moveA_mem (effT_eff ..) (by rw [join_len hf, effT_len])
theorem advA_ok {zs : List Int} {rs : List Ro} {t c : Int} {L : Lay Int} (o : StOk zs rs t L) (h : TimeOk (t + c)) : StOk zs rs (t + c) (advA 0 zs rs t c L) :=
  ⟨h, advA_fits .., okP_perm (advA_perm t c o.f) o.p⟩
theorem Val.rne {zs : List Int} {rs : List Ro} (v : Val zs rs) : ∀ r ∈ rs, r ≠ [] := fun r hr => (v.ne r hr).1
theorem Val.lc1 {zs : List Int} {rs : List Ro} (v : Val zs rs) : 1 ≤ lc rs := (lc_le v.r2).1
theorem run_ok {zs : List Int} {rs : List Ro} {t : Int} {L : Lay Int} (v : Val zs rs) (o : StOk zs rs t L) (k : Nat) (h : TimeOk (t + (k : Nat))) : StOk zs rs (t + (k : Nat)) (run rs t k L) := by
  rw [← advA_nat 0 zs v.rne v.lc1 t k o.f]
  exact advA_ok o h
theorem placesV_len (zs : List Int) (n : Nat) (h : ∀ z ∈ zs, 0 ≤ z) : (placesV zs n).length = n + sumN zs := by
  unfold placesV
  rw [List.length_append, carV_len]
  congr 1
  have : ∀ k, k ≤ zs.length → (shN zs k).length = sumN (zs.take k) := by
    intro k
    induction k with
    | zero => intro _; rfl
    | succ k ih =>
      intro hk
      unfold shN
      rw [List.length_append, ih (by omega), posV_len]
      have g : zs[k]? = some zs[k] := List.getElem?_eq_getElem (by omega)
      rw [List.take_add_one, g, List.getD_eq_getElem?_getD, g]
      show sumN (zs.take k) + zs[k].toNat = sumN (zs.take k ++ [zs[k]])
      rw [sumN_snoc]
  have := this zs.length (Nat.le_refl _)
  rw [List.take_length] at this
  exact this
end Sv


set_option maxHeartbeats 4000000
namespace Sv
open PySem PySem.Spec PyProof.Rows L2
theorem LawH.off {h l : Addr} {F : List Addr} {H H' : Hp} (L : LawH H h l) (hh : h ∉ F) (hl : l ∉ F) (e : Off F H H') : LawH H' h l := by
  obtain ⟨m, i, cs, e1, e2, e3⟩ := L.ex
  exact ⟨m, i, cs, e _ _ hh e1, e _ _ hl e2, e3⟩
theorem LawH.nn {h l b : Addr} {H : Hp} (L : LawH H h l) (hb : H b = none) : h ≠ b ∧ l ≠ b := by
  obtain ⟨m, i, cs, e1, e2, e3⟩ := L.ex
  exact ⟨ne_of_none e1 hb, ne_of_none e2 hb⟩
/-- another list of ours is changed -/
theorem W3.upd {H : Hp} {wa hc hs f : Addr} {rw : List Addr} {t : Int} {L : Lay Int} {o : HO} (x : W3 H wa hc hs rw t L) (h1 : f ∉ foot wa hc rw) (h2 : f ≠ hs) : W3 (L2.upd H f o) wa hc hs rw t L := by
  have n1 : wa ≠ f := fun z => h1 (by rw [← z]; exact List.mem_cons_self ..)
  have n2 : hc ≠ f := fun z => h1 (by rw [← z]; exact List.mem_cons_of_mem _ (List.mem_cons_self ..))
  have n3 : ∀ q ∈ rw, q ≠ f := fun q hq z => h1 (by rw [← z]; exact List.mem_cons_of_mem _ (List.mem_cons_of_mem _ hq))
  exact ⟨by rw [upd_ne n1]; exact x.w, by rw [upd_ne n2]; exact x.c, by rw [upd_ne (Ne.symm h2)]; exact x.s, rowL_imp (fun q hq o ho => by rw [upd_ne (n3 q hq)]; exact ho) x.r, x.nd, x.hcr, x.hsr, x.hcs⟩
theorem W3.new {H : Hp} {wa hc hs f : Addr} {rw : List Addr} {t : Int} {L : Lay Int} (x : W3 H wa hc hs rw t L) (h : H f = none) : f ∉ foot wa hc rw ∧ f ≠ hs := by
  refine ⟨fun m => ?_, fun z => by rw [z, x.s] at h; cases h⟩
  rcases List.mem_cons.mp m with z | m
  · rw [z, x.w] at h
    cases h
  rcases List.mem_cons.mp m with z | m
  · rw [z, x.c] at h
    cases h
  · exact rowL_free x.r h m
/-! ### exchanges as data -/
def exI (L : Lay Int) (p : Nat × Nat) : List Int := [(p.1 : Nat), (p.2 : Nat), L.1.getD p.1 0, (L.2.getD p.2 []).headD (L.1.getD p.1 0)]
theorem exch_I (L : Lay Int) (p : Nat × Nat) : exch L p = (exI L p).map V.int := rfl
theorem exN_I (ps : List (Nat × Nat)) (L : Lay Int) : ∀ k, ∃ is : List (List Int), exN ps L k = is.map (List.map V.int) ∧ (∀ r ∈ is, r.length = 4) ∧ is.length ≤ k
  | 0 => ⟨[], rfl, fun r hr => (List.not_mem_nil hr).elim, Nat.le_refl _⟩
  | k + 1 => by
    obtain ⟨is, e1, e2, e3⟩ := exN_I ps L k
    unfold exN
    cases ps[k]? with
    | none => exact ⟨is, by rw [e1]; simp, e2, by omega⟩
    | some p =>
      refine ⟨is ++ [exI (steps (ps.take k) L) p], by rw [e1, List.map_append]; rfl, fun r hr => ?_, by rw [List.length_append]; simp; omega⟩
      rcases List.mem_append.mp hr with hr | hr
      · exact e2 r hr
      · rw [List.mem_singleton.mp hr]
        rfl
theorem dp_tl {K : PySem.W.Frag} {H : Hp} {x : Addr} {is : List (List Int)} (h : TL H x (is.map (List.map V.int))) : Dp K H (.ref x) (.list (is.map dTi)) := by
  obtain ⟨ps, h1, h2⟩ := h.ex
  refine .lst (.inl (.inl h1)) ?_
  have key : ∀ (ps : List Addr) (is : List (List Int)), TupsV H ps (is.map (List.map V.int)) → DpAll K H (ps.map V.ref) (is.map dTi) := by
    intro ps
    induction ps with
    | nil =>
      intro is h
      cases is with
      | nil => exact .nil
      | cons => cases h
    | cons p ps ih =>
      intro is h
      cases is with
      | nil => cases h
      | cons i is =>
        cases h with
        | cons a b => exact .cons (dp_ti (.inl (.inl a))) (ih is b)
  exact key ps is h2
theorem okD_l {n : Nat} {ds : List PyData} (h : ds.length ≤ 1000) (o : okDs n ds = true) : okD (n + 1) (.list ds) = true := by
  unfold okD
  rw [o, decide_eq_true h]
  rfl
theorem okD_t {n : Nat} {ds : List PyData} (h : ds.length ≤ 1000) (o : okDs n ds = true) : okD (n + 1) (.tuple ds) = true := by
  unfold okD
  rw [o, decide_eq_true h]
  rfl
theorem okDs_2 {n : Nat} {a b : PyData} (h1 : okD n a = true) (h2 : okD n b = true) : okDs n [a, b] = true := by
  simp only [okDs, h1, h2]
  rfl
/-! ### places as data -/
def vD : V → PyData
  | .int i => .int i
  | .str x => .str x
  | .bl b => .bool b
  | _ => .none
def flI : V → Bool
  | .int _ => true
  | .str _ => true
  | _ => false
theorem dpAll_fl {K : PySem.W.Frag} {H : Hp} : ∀ {pl : List V}, (∀ v ∈ pl, flI v = true) → DpAll K H pl (pl.map vD)
  | [], _ => .nil
  | v :: pl, h => by
    have h1 := h v (List.mem_cons_self ..)
    have h2 := dpAll_fl (K := K) (H := H) fun x hx => h x (List.mem_cons_of_mem v hx)
    cases v with
    | int i => exact .cons (.int i) h2
    | str x => exact .cons (.str x) h2
    | _ => cases h1
theorem okDs_fl {n : Nat} : ∀ {pl : List V}, okDs n (pl.map vD) = true
  | [] => by unfold okDs; rfl
  | v :: pl => by
    rw [List.map_cons]
    unfold okDs
    rw [okDs_fl, Bool.and_true]
    cases v <;> cases n <;> rfl
theorem placesV_fl {zs : List Int} {n : Nat} : ∀ pl ∈ placesV zs n, (∀ v ∈ pl, flI v = true) ∧ pl.length ≤ 3 := by
  intro pl h
  unfold placesV at h
  rcases List.mem_append.mp h with h | h
  · unfold carV at h
    obtain ⟨c, _, rfl⟩ := List.mem_map.mp h
    exact ⟨fun v hv => by
      rcases List.mem_cons.mp hv with z | hv
      · rw [z]; rfl
      · rw [List.mem_singleton.mp hv]; rfl, by show 2 ≤ 3; decide⟩
  · have key : ∀ k, ∀ pl ∈ shN zs k, (∀ v ∈ pl, flI v = true) ∧ pl.length ≤ 3 := by
      intro k
      induction k with
      | zero => intro pl h; cases h
      | succ k ih =>
        intro pl h
        unfold shN at h
        rcases List.mem_append.mp h with h | h
        · exact ih pl h
        · unfold posV at h
          obtain ⟨c, _, rfl⟩ := List.mem_map.mp h
          exact ⟨fun v hv => by
            rcases List.mem_cons.mp hv with z | hv
            · rw [z]; rfl
            rcases List.mem_cons.mp hv with z | hv
            · rw [z]; rfl
            · rw [List.mem_singleton.mp hv]; rfl, by show 3 ≤ 3; decide⟩
    exact key _ pl h
theorem dp_place {K : PySem.W.Frag} {H : Hp} {u : Addr} {zs : List Int} {n i : Nat} {pl : List V} (h : SqT K H u pl) (e : (placesV zs n)[i]? = some pl) : Dp K H (.ref u) (.tuple (pl.map vD)) := .tup h (dpAll_fl (placesV_fl pl (List.mem_of_getElem? e)).1)
theorem okD_place {zs : List Int} {n i m : Nat} {pl : List V} (e : (placesV zs n)[i]? = some pl) : okD (m + 1) (.tuple (pl.map vD)) = true := by
  have := (placesV_fl pl (List.mem_of_getElem? e)).2
  exact okD_t (by rw [List.length_map]; omega) okDs_fl
/-! ### the place of a parcel in a dict -/
theorem spKV_get : ∀ {ks : List Int} {ps : List Addr} {i : Nat} {x : Int} {u : Addr}, ks.Nodup → ks[i]? = some x → ps[i]? = some u → valV (spKV ks ps) (Sum.inl x) = some (.ref u)
  | [], _, i, _, _, _, e, _ => by simp at e
  | _ :: _, [], i, _, _, _, _, e => by simp at e
  | k :: ks, p :: ps, 0, x, u, nd, e1, e2 => by
    obtain rfl := Option.some.inj e1
    obtain rfl := Option.some.inj e2
    exact valV_pos rfl
  | k :: ks, p :: ps, i + 1, x, u, nd, e1, e2 => by
    have e1' : ks[i]? = some x := by simpa using e1
    have hne : ¬ (Sum.inl k : Key) = Sum.inl x := fun z => by
      have z := Sum.inl.inj z
      exact (List.nodup_cons.mp nd).1 (by rw [z]; exact List.mem_of_getElem? e1')
    show valV ((Sum.inl k, V.ref p) :: spKV ks ps) (Sum.inl x) = _
    rw [valV_neg (p := (Sum.inl k, V.ref p)) hne]
    exact spKV_get (List.nodup_cons.mp nd).2 e1' (by simpa using e2)
theorem spKV_keys {ks : List Int} {ps : List Addr} (h : ks.length = ps.length) : (spKV ks ps).map (·.1) = ks.map Sum.inl := by
  unfold spKV
  rw [List.map_map]
  show (ks.zip ps).map (Sum.inl ∘ Prod.fst) = _
  rw [← List.map_map, List.map_fst_zip (by omega)]
theorem nodup_ix {l : List Int} {i j : Nat} {x : Int} (nd : l.Nodup) (h1 : l[i]? = some x) (h2 : l[j]? = some x) : i = j := by
  obtain ⟨a, e1⟩ := List.getElem?_eq_some_iff.mp h1
  obtain ⟨b, e2⟩ := List.getElem?_eq_some_iff.mp h2
  exact (List.getElem_inj nd).mp (e1.trans e2.symm)
end Sv


set_option maxHeartbeats 4000000
namespace Sv
open PySem PySem.Spec PyProof.Rows L2
/-! ### data that is equal just where it is the same -/
mutual
/-- no bools, no dicts; texts that can lie anywhere -/
def pld : PyData → Bool
  | .none => true
  | .int _ => true
  | .str x => PyData.canLay0 (.str x)
  | .list xs => pldAll xs
  | .tuple xs => pldAll xs
  | _ => false
def pldAll : List PyData → Bool
  | [] => true
  | d :: ds => pld d && pldAll ds
end
mutual
theorem eqv_pld : ∀ a b : PyData, pld a = true → pld b = true → (PyData.eqv a b = true ↔ a = b)
  | .none, .none, _, _ => by simp [PyData.eqv]
  | .none, .int _, _, _ => by simp [PyData.eqv]
  | .none, .str _, _, _ => by simp [PyData.eqv]
  | .none, .list _, _, _ => by simp [PyData.eqv]
  | .none, .tuple _, _, _ => by simp [PyData.eqv]
  | .int i, .none, _, _ => by simp [PyData.eqv]
  | .int i, .int j, _, _ => by simp [PyData.eqv]
  | .int i, .str _, _, _ => by simp [PyData.eqv]
  | .int i, .list _, _, _ => by simp [PyData.eqv]
  | .int i, .tuple _, _, _ => by simp [PyData.eqv]
  | .str x, .none, _, _ => by simp [PyData.eqv]
  | .str x, .int _, _, _ => by simp [PyData.eqv]
  | .str x, .str y, _, _ => by simp [PyData.eqv]
  | .str x, .list _, _, _ => by simp [PyData.eqv]
  | .str x, .tuple _, _, _ => by simp [PyData.eqv]
  | .list x, .none, _, _ => by simp [PyData.eqv]
  | .list x, .int _, _, _ => by simp [PyData.eqv]
  | .list x, .str _, _, _ => by simp [PyData.eqv]
  | .list x, .tuple _, _, _ => by simp [PyData.eqv]
  | .list x, .list y, h1, h2 => by
    unfold pld at h1 h2
    rw [PyData.eqv, eqv_pldAll x y h1 h2]
    exact ⟨fun e => by rw [e], fun e => by injection e⟩
  | .tuple x, .none, _, _ => by simp [PyData.eqv]
  | .tuple x, .int _, _, _ => by simp [PyData.eqv]
  | .tuple x, .str _, _, _ => by simp [PyData.eqv]
  | .tuple x, .list _, _, _ => by simp [PyData.eqv]
  | .tuple x, .tuple y, h1, h2 => by
    unfold pld at h1 h2
    rw [PyData.eqv, eqv_pldAll x y h1 h2]
    exact ⟨fun e => by rw [e], fun e => by injection e⟩
  | .bool _, _, h, _ => by simp [pld] at h
  | .dict _, _, h, _ => by simp [pld] at h
  | .none, .bool _, _, h => by simp [pld] at h
  | .none, .dict _, _, h => by simp [pld] at h
  | .int _, .bool _, _, h => by simp [pld] at h
  | .int _, .dict _, _, h => by simp [pld] at h
  | .str _, .bool _, _, h => by simp [pld] at h
  | .str _, .dict _, _, h => by simp [pld] at h
  | .list _, .bool _, _, h => by simp [pld] at h
  | .list _, .dict _, _, h => by simp [pld] at h
  | .tuple _, .bool _, _, h => by simp [pld] at h
  | .tuple _, .dict _, _, h => by simp [pld] at h
theorem eqv_pldAll : ∀ a b : List PyData, pldAll a = true → pldAll b = true → (PyData.eqvAll a b = true ↔ a = b)
  | [], [], _, _ => by simp [PyData.eqvAll]
  | [], _ :: _, _, _ => by simp [PyData.eqvAll]
  | _ :: _, [], _, _ => by simp [PyData.eqvAll]
  | x :: a, y :: b, h1, h2 => by
    unfold pldAll at h1 h2
    rw [Bool.and_eq_true] at h1 h2
    rw [PyData.eqvAll, Bool.and_eq_true, eqv_pld x y h1.1 h2.1, eqv_pldAll a b h1.2 h2.2, List.cons.injEq]
end
mutual
theorem can_pld : ∀ a : PyData, pld a = true → PyData.canLay0 a = true
  | .none, _ => by simp [PyData.canLay0]
  | .int _, _ => by simp [PyData.canLay0]
  | .str x, h => by unfold pld at h; exact h
  | .list x, h => by
    unfold pld at h
    rw [PyData.canLay0]
    exact can_pldAll x h
  | .tuple x, h => by
    unfold pld at h
    rw [PyData.canLay0]
    exact can_pldAll x h
  | .bool _, h => by simp [pld] at h
  | .dict _, h => by simp [pld] at h
theorem can_pldAll : ∀ a : List PyData, pldAll a = true → PyData.canLayAll0 a = true
  | [], _ => by simp [PyData.canLayAll0]
  | x :: a, h => by
    unfold pldAll at h
    rw [Bool.and_eq_true] at h
    rw [PyData.canLayAll0, can_pld x h.1, can_pldAll a h.2]
    rfl
end
mutual
theorem dep_okD : ∀ (n : Nat) (a : PyData), okD n a = true → PyData.depth a ≤ n
  | _, .none, _ => by simp [PyData.depth]
  | _, .int _, _ => by simp [PyData.depth]
  | _, .str _, _ => by simp [PyData.depth]
  | _, .bool _, _ => by simp [PyData.depth]
  | 0, .list _, h => by simp [okD] at h
  | 0, .tuple _, h => by simp [okD] at h
  | n + 1, .list x, h => by
    unfold okD at h
    rw [Bool.and_eq_true] at h
    rw [PyData.depth]
    have := dep_okDs n x h.2
    omega
  | n + 1, .tuple x, h => by
    unfold okD at h
    rw [Bool.and_eq_true] at h
    rw [PyData.depth]
    have := dep_okDs n x h.2
    omega
  | 0, .dict _, h => by simp [okD] at h
  | n + 1, .dict _, h => by simp [okD] at h
theorem dep_okDs : ∀ (n : Nat) (a : List PyData), okDs n a = true → PyData.depthAll a ≤ n
  | _, [], _ => by simp [PyData.depthAll]
  | n, x :: a, h => by
    unfold okDs at h
    rw [Bool.and_eq_true] at h
    rw [PyData.depthAll]
    have h1 := dep_okD n x h.1
    have h2 := dep_okDs n a h.2
    omega
end
theorem shaped_of {a : PyData} {n : Nat} (h : pld a = true) (o : okD n a = true) (hn : n ≤ 64) : SeqAt.shaped a = true := by
  unfold SeqAt.shaped
  rw [can_pld a h, decide_eq_true (Nat.le_trans (dep_okD n a o) hn)]
  rfl
open Classical in
theorem ne_go {K : PySem.W.Frag} {H : Hp} {x y : V} {a b : PyData} {Q : VK} {n m : Nat} (h1 : Dp K H x a) (h2 : Dp K H y b) (p1 : pld a = true) (p2 : pld b = true) (o1 : okD n a = true) (o2 : okD m b = true) (hn : n ≤ 64) (hm : m ≤ 64) (q : Q (.bl (!decide (a = b))) H) : qNe K x y H Q := by
  unfold qNe
  refine ⟨a, b, h1, h2, shaped_of p1 o1 hn, shaped_of p2 o2 hm, ?_⟩
  have e : PyData.eqv a b = decide (a = b) := by
    rw [Bool.eq_iff_iff, eqv_pld a b p1 p2, decide_eq_true_iff]
  rw [e]
  exact q
open Classical in
theorem eq_go {K : PySem.W.Frag} {H : Hp} {x y : V} {a b : PyData} {Q : VK} {n m : Nat} (h1 : Dp K H x a) (h2 : Dp K H y b) (p1 : pld a = true) (p2 : pld b = true) (o1 : okD n a = true) (o2 : okD m b = true) (hn : n ≤ 64) (hm : m ≤ 64) (q : Q (.bl (decide (a = b))) H) : qEq K x y H Q := by
  unfold qEq
  refine ⟨a, b, h1, h2, shaped_of p1 o1 hn, shaped_of p2 o2 hm, ?_⟩
  have e : PyData.eqv a b = decide (a = b) := by
    rw [Bool.eq_iff_iff, eqv_pld a b p1 p2, decide_eq_true_iff]
  rw [e]
  exact q
section
open Classical
variable {K : PySem.W.Frag} {H : Hp} {x y : V} {a b : PyData} {Q : VK} {n m : Nat}
theorem ne_same (h1 : Dp K H x a) (h2 : Dp K H y a) (p : pld a = true) (o : okD n a = true) (hn : n ≤ 64) (q : Q (.bl false) H) : qNe K x y H Q :=
  ne_go h1 h2 p p o o hn hn (by rw [decide_eq_true rfl]; exact q)
theorem ne_diff (h1 : Dp K H x a) (h2 : Dp K H y b) (p1 : pld a = true) (p2 : pld b = true) (o1 : okD n a = true) (o2 : okD m b = true) (hn : n ≤ 64) (hm : m ≤ 64) (d : a ≠ b) (q : Q (.bl true) H) : qNe K x y H Q :=
  ne_go h1 h2 p1 p2 o1 o2 hn hm (by rw [decide_eq_false d]; exact q)
theorem eq_same (h1 : Dp K H x a) (h2 : Dp K H y a) (p : pld a = true) (o : okD n a = true) (hn : n ≤ 64) (q : Q (.bl true) H) : qEq K x y H Q :=
  eq_go h1 h2 p p o o hn hn (by rw [decide_eq_true rfl]; exact q)
theorem eq_diff (h1 : Dp K H x a) (h2 : Dp K H y b) (p1 : pld a = true) (p2 : pld b = true) (o1 : okD n a = true) (o2 : okD m b = true) (hn : n ≤ 64) (hm : m ≤ 64) (d : a ≠ b) (q : Q (.bl false) H) : qEq K x y H Q :=
  eq_go h1 h2 p1 p2 o1 o2 hn hm (by rw [decide_eq_false d]; exact q)
end
/-! ### which data is so -/
theorem pldAll_int : ∀ l : List Int, pldAll (l.map PyData.int) = true
  | [] => by unfold pldAll; rfl
  | i :: l => by
    rw [List.map_cons]
    unfold pldAll
    rw [pldAll_int l, Bool.and_true]
    unfold pld
    rfl
theorem pld_ti (l : List Int) : pld (dTi l) = true := by
  unfold dTi pld
  exact pldAll_int l
theorem pldAll_ti : ∀ ss : List (List Int), pldAll (ss.map dTi) = true
  | [] => by unfold pldAll; rfl
  | s :: ss => by
    rw [List.map_cons]
    unfold pldAll
    rw [pld_ti, pldAll_ti ss]
    rfl
/-- what is carried and on the shelves -/
def dTl (L : Lay Int) : PyData := .tuple [dTi L.1, .tuple (L.2.map dTi)]
theorem pld_tl (L : Lay Int) : pld (dTl L) = true := by
  unfold dTl
  simp only [pld, pldAll, pld_ti, pldAll_ti]
  rfl
theorem map_int_inj {a b : List Int} (h : a.map PyData.int = b.map PyData.int) : a = b := by
  have := congrArg (List.map fun d => match d with | .int i => i | _ => (0 : Int)) h
  rwa [List.map_map, List.map_map, show ((fun d => match d with | .int i => i | _ => (0 : Int)) ∘ PyData.int) = id from rfl, List.map_id, List.map_id] at this
theorem dTi_inj {a b : List Int} (h : dTi a = dTi b) : a = b := by
  unfold dTi at h
  injection h with h
  exact map_int_inj h
theorem map_ti_inj : ∀ {a b : List (List Int)}, a.map dTi = b.map dTi → a = b
  | [], [], _ => rfl
  | [], _ :: _, h => by cases h
  | _ :: _, [], h => by cases h
  | x :: a, y :: b, h => by
    rw [List.map_cons, List.map_cons] at h
    injection h with h1 h2
    rw [dTi_inj h1, map_ti_inj h2]
theorem dTl_inj {L M : Lay Int} (h : dTl L = dTl M) : L = M := by
  unfold dTl at h
  injection h with h
  injection h with h1 h2
  injection h2 with h2 _
  injection h2 with h2
  exact Prod.ext (dTi_inj h1) (map_ti_inj h2)
theorem okD_tl {n : Nat} {L : Lay Int} (h1 : L.1.length ≤ 1000) (h2 : L.2.length ≤ 1000) (h3 : ∀ s ∈ L.2, s.length ≤ 1000) : okD (n + 3) (dTl L) = true :=
  okD_t (by show 2 ≤ 1000; decide) (okDs_2 (okD_ti h1) (okD_t (by rw [List.length_map]; exact h2) (okDs_ti h3)))
theorem can_car : PyData.canLay0 (.str ("carrier" : Str)) = true := by decide +kernel
theorem can_she : PyData.canLay0 (.str ("shelf" : Str)) = true := by decide +kernel
theorem pld_car (c : Nat) : pld (.tuple ([V.str "carrier", V.int (c : Nat)].map vD)) = true := by
  simp only [List.map_cons, List.map_nil, vD, pld, pldAll, can_car]
  rfl
theorem pld_pos (s p : Nat) : pld (.tuple ([V.str "shelf", V.int (s : Nat), V.int (p : Nat)].map vD)) = true := by
  simp only [List.map_cons, List.map_nil, vD, pld, pldAll, can_she]
  rfl
/-- the places, told apart -/
inductive IsPl : List V → Prop
  | car (c : Nat) : IsPl [V.str "carrier", V.int (c : Nat)]
  | pos (s p : Nat) : IsPl [V.str "shelf", V.int (s : Nat), V.int (p : Nat)]
theorem isPl_pld {pl : List V} (h : IsPl pl) : pld (.tuple (pl.map vD)) = true := by
  cases h with
  | car c => exact pld_car c
  | pos s p => exact pld_pos s p
theorem isPl_inj {a b : List V} (ha : IsPl a) (hb : IsPl b) (h : PyData.tuple (a.map vD) = .tuple (b.map vD)) : a = b := by
  injection h with h
  cases ha with
  | car c =>
    cases hb with
    | car d =>
      simp only [List.map_cons, List.map_nil, vD, List.cons.injEq, PyData.int.injEq, and_true, true_and] at h
      rw [h]
    | pos s p => simp [vD] at h
  | pos s p =>
    cases hb with
    | car d => simp [vD] at h
    | pos t q =>
      simp only [List.map_cons, List.map_nil, vD, List.cons.injEq, PyData.int.injEq, and_true, true_and] at h
      rw [h.1, h.2]
theorem placesV_is {zs : List Int} {n : Nat} : ∀ pl ∈ placesV zs n, IsPl pl := by
  intro pl h
  unfold placesV at h
  rcases List.mem_append.mp h with h | h
  · unfold carV at h
    obtain ⟨c, _, rfl⟩ := List.mem_map.mp h
    exact .car c
  · have key : ∀ k, ∀ pl ∈ shN zs k, IsPl pl := by
      intro k
      induction k with
      | zero => intro pl h; cases h
      | succ k ih =>
        intro pl h
        unfold shN at h
        rcases List.mem_append.mp h with h | h
        · exact ih pl h
        · unfold posV at h
          obtain ⟨c, _, rfl⟩ := List.mem_map.mp h
          exact .pos k c
    exact key _ pl h
theorem shN_lt {zs : List Int} : ∀ k, ∀ pl ∈ shN zs k, ∃ s p : Nat, s < k ∧ pl = [V.str "shelf", V.int (s : Nat), V.int (p : Nat)]
  | 0, pl, h => by cases h
  | k + 1, pl, h => by
    unfold shN at h
    rcases List.mem_append.mp h with h | h
    · obtain ⟨s, p, hs, e⟩ := shN_lt k pl h
      exact ⟨s, p, by omega, e⟩
    · unfold posV at h
      obtain ⟨c, _, rfl⟩ := List.mem_map.mp h
      exact ⟨k, c, by omega, rfl⟩
theorem V_int_nat {a b : Nat} (h : V.int (a : Int) = V.int (b : Int)) : a = b := by
  have := V.int.inj h
  omega
theorem shN_nodup {zs : List Int} : ∀ k, (shN zs k).Nodup
  | 0 => List.nodup_nil
  | k + 1 => by
    unfold shN
    refine List.nodup_append.mpr ⟨shN_nodup k, ?_, fun a ha b hb e => ?_⟩
    · unfold posV
      refine List.pairwise_map.mpr (List.nodup_range.imp fun {a b} h e => h ?_)
      simp only [List.cons.injEq, and_true, true_and] at e
      exact V_int_nat e
    · obtain ⟨s, p, hs, ea⟩ := shN_lt k a ha
      unfold posV at hb
      obtain ⟨c, _, rfl⟩ := List.mem_map.mp hb
      rw [ea] at e
      simp only [List.cons.injEq, and_true, true_and] at e
      have := V_int_nat e.1
      omega
theorem placesV_nodup (zs : List Int) (n : Nat) : (placesV zs n).Nodup := by
  unfold placesV
  refine List.nodup_append.mpr ⟨?_, shN_nodup _, fun a ha b hb e => ?_⟩
  · unfold carV
    refine List.pairwise_map.mpr (List.nodup_range.imp fun {a b} h e => h ?_)
    simp only [List.cons.injEq, and_true, true_and] at e
    exact V_int_nat e
  · unfold carV at ha
    obtain ⟨c, _, rfl⟩ := List.mem_map.mp ha
    obtain ⟨s, p, _, eb⟩ := shN_lt _ b hb
    rw [eb] at e
    simp at e
theorem places_ix {zs : List Int} {n i j : Nat} {pl : List V} (h1 : (placesV zs n)[i]? = some pl) (h2 : (placesV zs n)[j]? = some pl) : i = j := by
  obtain ⟨a, e1⟩ := List.getElem?_eq_some_iff.mp h1
  obtain ⟨b, e2⟩ := List.getElem?_eq_some_iff.mp h2
  exact (List.getElem_inj (placesV_nodup zs n)).mp (e1.trans e2.symm)
theorem pld_int (i : Int) : pld (.int i) = true := by unfold pld; rfl
end Sv


set_option maxHeartbeats 4000000
namespace Sv
open PySem PySem.Spec PyProof.Rows L2
section
variable {P : Program} {w : World} {K : PySem.W.Frag} {mg : Str → Option Value} {base : Heap}
/-! ### tick -/
def nTi : List Str := ["plan", "state", "time", "carried", "shelves", "exchanges"]
def spTick (K : PySem.W.Frag) (C CS : Addr) : Sp := fun vs H Q E => ∃ (p s : Addr) (zs : List Int) (rs : List Ro) (t : Int) (L : Lay Int), vs = [.ref p, .ref s] ∧ PlanAt K H p zs rs ∧ Small zs rs ∧ StateAt K H s t L ∧ BadE C zs rs H E ∧
  (bad zs rs = none → ¬ StOk zs rs t L → ∀ H', Same H H' → E (.ref CS) none H') ∧
  (bad zs rs = none → StOk zs rs t L → ∀ H' u s' x, Same H H' → H u = none → H' u = some (.tup [.ref s', .ref x]) → StateAt K H' s' (t + 1) (tickL rs t L) → TL H' x (exL (vis rs t) L) → H x = none → Q (.ref u) H')
end
end Sv


set_option maxHeartbeats 4000000
namespace Sv
open PySem PySem.Spec PyProof.Rows L2
section
variable {P : Program} {w : World} {K : PySem.W.Frag} {mg : Str → Option Value} {base : Heap}
/-! ### parcels -/
theorem room65 {A : Around} {k : Nat} (hr : Room k A) : A.units + 65 < cLine := by
  have := hr.un
  omega
theorem flat_ints (ns : List Int) : (ns.map V.int).all flatV = true := by
  rw [List.all_map]
  exact List.all_eq_true.mpr fun _ _ => rfl
theorem eqV_int (a b : Int) : eqV (.int a) (.int b) = decide (a = b) := by
  show (a == b) = _
  by_cases h : a = b <;> simp [h]
theorem inV_ints (x : Int) (ns : List Int) : inV (.int x) (ns.map V.int) = decide (x ∈ ns) := by
  unfold inV
  rw [List.any_map]
  by_cases h : x ∈ ns
  · rw [decide_eq_true h]
    exact List.any_eq_true.mpr ⟨x, h, by show eqV (.int x) (.int x) = true; rw [eqV_int]; simp⟩
  · rw [decide_eq_false h]
    refine List.any_eq_false.mpr fun y hy => ?_
    show ¬ eqV (.int y) (.int x) = true
    rw [eqV_int]
    simp only [decide_eq_true_eq]
    exact fun e => h (by rw [← e]; exact hy)
def spCheckParcel (K : PySem.W.Frag) (CU : Addr) : Sp := fun vs H Q E => ∃ (l : Addr) (ns : List Int) (x : Int), vs = [.ref l, .int x] ∧ (SqL K H l (ns.map V.int) ∨ SqT K H l (ns.map V.int)) ∧ (∀ y ∈ ns, 1 ≤ y ∧ y ≤ 999) ∧ (x ∈ ns → Q .non H) ∧ (x ∉ ns → E (.ref CU) none H)
def spPlaceOfParcel (K : PySem.W.Frag) (CU : Addr) : Sp := fun vs H Q E => ∃ (s : Addr) (x t : Int) (L : Lay Int), vs = [.ref s, .int x] ∧ StateAt K H s t L ∧ (join L).length ≤ 1000 ∧ OkP (join L) ∧
  (∀ i : Nat, (join L)[i]? = some x → ∀ H', Same H H' → Q (.int (i : Nat)) H') ∧ (x ∉ join L → ∀ H', Same H H' → E (.ref CU) none H')
def spStart (K : PySem.W.Frag) (C CS CU : Addr) : Sp := fun vs H Q E => ∃ (p s : Addr) (zs : List Int) (rs : List Ro) (t x : Int) (L : Lay Int), vs = [.ref p, .ref s, .int x] ∧ PlanAt K H p zs rs ∧ Small zs rs ∧ StateAt K H s t L ∧ BadE C zs rs H E ∧
  (bad zs rs = none → ¬ StOk zs rs t L → ∀ H', Same H H' → E (.ref CS) none H') ∧
  (bad zs rs = none → StOk zs rs t L → ∀ i : Nat, (join L)[i]? = some x → ∀ H', Same H H' → Q (.int (i : Nat)) H') ∧
  (bad zs rs = none → StOk zs rs t L → x ∉ join L → ∀ H', Same H H' → E (.ref CU) none H')
/-! ### places -/
def spTruths (K : PySem.W.Frag) : Sp := fun vs H Q _ => ∃ (u : Addr) (pl : List V), vs = [.ref u] ∧ SqT K H u pl ∧ (∀ v ∈ pl, flI v = true) ∧ Q (.bl false) H
def dPl (pl : List V) : PyData := .tuple (pl.map vD)
theorem dpAll_tups {H : Hp} : ∀ {ps : List Addr} {ts : List (List V)}, (∀ t ∈ ts, ∀ v ∈ t, flI v = true) → TupsV H ps ts → DpAll K H (ps.map V.ref) (ts.map dPl)
  | _, _, _, .nil => .nil
  | _, _, f, .cons h t => .cons (.tup (.inl (.inl h)) (dpAll_fl (f _ (List.mem_cons_self ..)))) (dpAll_tups (fun x hx => f x (List.mem_cons_of_mem _ hx)) t)
theorem pldAll_places : ∀ {ts : List (List V)}, (∀ t ∈ ts, IsPl t) → pldAll (ts.map dPl) = true
  | [], _ => by unfold pldAll; rfl
  | t :: ts, h => by
    rw [List.map_cons]
    unfold pldAll
    rw [pldAll_places fun x hx => h x (List.mem_cons_of_mem _ hx), Bool.and_true]
    exact isPl_pld (h t (List.mem_cons_self ..))
theorem okDs_places : ∀ {ts : List (List V)}, (∀ t ∈ ts, t.length ≤ 3) → okDs 1 (ts.map dPl) = true
  | [], _ => by unfold okDs; rfl
  | t :: ts, h => by
    rw [List.map_cons]
    unfold okDs
    rw [okDs_places fun x hx => h x (List.mem_cons_of_mem _ hx), Bool.and_true]
    have := h t (List.mem_cons_self ..)
    exact okD_t (by rw [List.length_map]; omega) okDs_fl
/-- a flat tuple of numbers and texts, as a caller may pass for a place -/
structure FlP (pl : List V) : Prop where
  f : ∀ v ∈ pl, flI v = true
  d : ∀ v ∈ pl, pld (vD v) = true
  l : pl.length ≤ 8
theorem isPl_flP {pl : List V} (h : IsPl pl) : FlP pl := by
  cases h with
  | car c => exact ⟨by simp [flI], by intro v hv; simp only [List.mem_cons, List.not_mem_nil, or_false] at hv; rcases hv with rfl | rfl; exact can_car; rfl, by show 2 ≤ 8; decide⟩
  | pos s p => exact ⟨by simp [flI], by intro v hv; simp only [List.mem_cons, List.not_mem_nil, or_false] at hv; rcases hv with rfl | rfl | rfl; exact can_she; rfl; rfl, by show 3 ≤ 8; decide⟩
theorem pldAll_flP : ∀ {pl : List V}, (∀ v ∈ pl, pld (vD v) = true) → pldAll (pl.map vD) = true
  | [], _ => by unfold pldAll; rfl
  | v :: pl, h => by
    rw [List.map_cons]
    unfold pldAll
    rw [pldAll_flP fun x hx => h x (List.mem_cons_of_mem _ hx), Bool.and_true]
    exact h v (List.mem_cons_self ..)
theorem FlP.pld {pl : List V} (h : FlP pl) : pld (dPl pl) = true := by
  unfold dPl Sv.pld
  exact pldAll_flP h.d
theorem vD_inj : ∀ {a b : List V}, (∀ v ∈ a, flI v = true) → (∀ v ∈ b, flI v = true) → a.map vD = b.map vD → a = b
  | [], [], _, _, _ => rfl
  | [], _ :: _, _, _, h => by simp at h
  | _ :: _, [], _, _, h => by simp at h
  | x :: a, y :: b, h1, h2, h => by
    rw [List.map_cons, List.map_cons] at h
    injection h with e1 e2
    have f1 := h1 x (List.mem_cons_self ..)
    have f2 := h2 y (List.mem_cons_self ..)
    have e3 := vD_inj (fun v hv => h1 v (List.mem_cons_of_mem _ hv)) (fun v hv => h2 v (List.mem_cons_of_mem _ hv)) e2
    rw [e3]
    cases x <;> cases y <;> simp_all [flI, vD]
theorem FlP.inj {a b : List V} (ha : FlP a) (hb : FlP b) (h : dPl a = dPl b) : a = b := by
  unfold dPl at h
  injection h with h
  exact vD_inj ha.f hb.f h
theorem FlP.eqv {a b : List V} (ha : FlP a) (hb : FlP b) : PyData.eqv (dPl a) (dPl b) = true ↔ a = b :=
  (eqv_pld _ _ ha.pld hb.pld).trans ⟨ha.inj hb, fun e => by rw [e]⟩
theorem FlP.okd {pl : List V} (h : FlP pl) (m : Nat) : okD (m + 1) (dPl pl) = true := okD_t (by rw [List.length_map]; have := h.l; omega) okDs_fl
theorem FlP.sh {pl : List V} (h : FlP pl) : SeqAt.shaped (dPl pl) = true := shaped_of (n := 1) h.pld (h.okd 0) (by decide)
theorem pldAll_flPs : ∀ {ts : List (List V)}, (∀ t ∈ ts, FlP t) → pldAll (ts.map dPl) = true
  | [], _ => by unfold pldAll; rfl
  | t :: ts, h => by
    rw [List.map_cons]
    unfold pldAll
    rw [pldAll_flPs fun x hx => h x (List.mem_cons_of_mem _ hx), Bool.and_true]
    exact (h t (List.mem_cons_self ..)).pld
theorem okDs_flPs : ∀ {ts : List (List V)}, (∀ t ∈ ts, FlP t) → okDs 1 (ts.map dPl) = true
  | [], _ => by unfold okDs; rfl
  | t :: ts, h => by
    rw [List.map_cons]
    unfold okDs
    rw [okDs_flPs fun x hx => h x (List.mem_cons_of_mem _ hx), Bool.and_true]
    exact (h t (List.mem_cons_self ..)).okd 0
theorem flPs_sh {ts : List (List V)} (h : ∀ t ∈ ts, FlP t) (hl : ts.length ≤ 1000) : SeqAt.shaped (.list (ts.map dPl)) = true := shaped_of (n := 2) (by unfold pld; exact pldAll_flPs h) (okD_l (by rw [List.length_map]; omega) (okDs_flPs h)) (by decide)
theorem flPs_any {ts : List (List V)} (h : ∀ t ∈ ts, FlP t) {pl : List V} (hp : FlP pl) : ((ts.map dPl).any fun z => PyData.eqv z (dPl pl)) = decide (pl ∈ ts) := by
  rw [List.any_map]
  by_cases hm : pl ∈ ts
  · rw [decide_eq_true hm]
    exact List.any_eq_true.mpr ⟨pl, hm, (FlP.eqv hp hp).mpr rfl⟩
  · rw [decide_eq_false hm]
    refine List.any_eq_false.mpr fun y hy => ?_
    show ¬ PyData.eqv (dPl y) (dPl pl) = true
    rw [FlP.eqv (h y hy) hp]
    exact fun e => hm (by rw [← e]; exact hy)
theorem placesV_flP {zs : List Int} {n : Nat} : ∀ t ∈ placesV zs n, FlP t := fun t ht => isPl_flP (placesV_is t ht)
/-- a list of places -/
def PlsAt (H : Hp) (f : Addr) (ts : List (List V)) : Prop := ∃ ps : List Addr, H f = some (.lst (ps.map V.ref)) ∧ TupsV H ps ts
theorem PlsAt.same {H H' : Hp} {f : Addr} {ts : List (List V)} (h : PlsAt H f ts) (e : Same H H') : PlsAt H' f ts := by
  obtain ⟨ps, h1, h2⟩ := h
  exact ⟨ps, e _ _ h1, tupsV_same e h2⟩
def spIsPlace (K : PySem.W.Frag) : Sp := fun vs H Q _ => ∃ (f u : Addr) (ts : List (List V)) (pl : List V), vs = [.ref f, .ref u] ∧ PlsAt H f ts ∧ (∀ t ∈ ts, FlP t) ∧ ts.length ≤ 1000 ∧ SqT K H u pl ∧ FlP pl ∧ Q (.bl (decide (pl ∈ ts))) H
def spNumPl (K : PySem.W.Frag) (CU : Addr) : Sp := fun vs H Q E => ∃ (p u : Addr) (zs : List Int) (rs : List Ro) (pl : List V), vs = [.ref p, .ref u] ∧ PlanAt K H p zs rs ∧ Val zs rs ∧ SqT K H u pl ∧ FlP pl ∧
  (∀ i : Nat, (placesV zs rs.length)[i]? = some pl → ∀ H', Same H H' → Q (.int (i : Nat)) H') ∧ (pl ∉ placesV zs rs.length → ∀ H', Same H H' → E (.ref CU) none H')
def spNumberOfPlace (K : PySem.W.Frag) : Sp := fun vs H Q _ => ∃ (p u : Addr) (zs : List Int) (rs : List Ro) (i : Nat) (pl : List V), vs = [.ref p, .ref u] ∧ PlanAt K H p zs rs ∧ Val zs rs ∧ SqT K H u pl ∧ (placesV zs rs.length)[i]? = some pl ∧ ∀ H', Same H H' → Q (.int (i : Nat)) H'
end
end Sv


set_option maxHeartbeats 4000000
namespace Sv
open PySem PySem.Spec PyProof.Rows L2
section
variable {P : Program} {w : World} {K : PySem.W.Frag} {mg : Str → Option Value} {base : Heap}
/-! ### advance, locate, parcel_at -/
theorem PS0.bad {H : Hp} {p s : Addr} {zs : List Int} {rs : List Ro} {t : Int} {L : Lay Int} (x : PS0 K H p s zs rs t L) : bad zs rs = none := x.v.bad
def spAdvance (K : PySem.W.Frag) (C CS CC : Addr) : Sp := fun vs H Q E => ∃ (p s : Addr) (zs : List Int) (rs : List Ro) (t c : Int) (L : Lay Int), vs = [.ref p, .ref s, .int c] ∧ PlanAt K H p zs rs ∧ Small zs rs ∧ StateAt K H s t L ∧ BadE C zs rs H E ∧
  (bad zs rs = none → ¬ StOk zs rs t L → ∀ H', Same H H' → E (.ref CS) none H') ∧ (bad zs rs = none → StOk zs rs t L → ¬ CtOk c → ∀ H', Same H H' → E (.ref CC) none H') ∧
  (bad zs rs = none → StOk zs rs t L → CtOk c → NewSt K H (t + c) (advA 0 zs rs t c L) Q)
/-- the place at which something is that was at place i -/
theorem loc_at {zs : List Int} {rs : List Ro} {t c x : Int} {L : Lay Int} {i : Nat} (hf : Fits rs.length zs L) (hi : (join L)[i]? = some x) : (join (advA 0 zs rs t c L))[ap (effT rs.length zs rs t c) i]? = some x := by
  have jl := join_len hf
  have il := (List.getElem?_eq_some_iff.mp hi).1
  rw [join_advA, moveA_at 0 (effT_eff ..) (by rw [effT_len, jl]) (by rw [effT_len]; omega)]
  exact hi
def spLocate (K : PySem.W.Frag) (C CS CC CU : Addr) : Sp := fun vs H Q E => ∃ (p s : Addr) (zs : List Int) (rs : List Ro) (t x c : Int) (L : Lay Int), vs = [.ref p, .ref s, .int x, .int c] ∧ PlanAt K H p zs rs ∧ Small zs rs ∧ StateAt K H s t L ∧ BadE C zs rs H E ∧
  (bad zs rs = none → ¬ StOk zs rs t L → ∀ H', Same H H' → E (.ref CS) none H') ∧ (bad zs rs = none → StOk zs rs t L → x ∉ join L → ∀ H', Same H H' → E (.ref CU) none H') ∧
  (bad zs rs = none → StOk zs rs t L → x ∈ join L → ¬ CtOk c → ∀ H', Same H H' → E (.ref CC) none H') ∧
  (bad zs rs = none → StOk zs rs t L → CtOk c → ∀ H' u (i : Nat) pl, Same H H' → (join (advA 0 zs rs t c L))[i]? = some x → (placesV zs rs.length)[i]? = some pl → SqT K H' u pl → Q (.ref u) H')
def spParcelAt (K : PySem.W.Frag) (C CS CC : Addr) : Sp := fun vs H Q E => ∃ (p s u : Addr) (zs : List Int) (rs : List Ro) (t c : Int) (L : Lay Int) (i : Nat) (pl : List V), vs = [.ref p, .ref s, .ref u, .int c] ∧ PlanAt K H p zs rs ∧ Small zs rs ∧ StateAt K H s t L ∧ SqT K H u pl ∧ BadE C zs rs H E ∧
  (bad zs rs = none → ¬ StOk zs rs t L → ∀ H', Same H H' → E (.ref CS) none H') ∧ (placesV zs rs.length)[i]? = some pl ∧ (bad zs rs = none → StOk zs rs t L → ¬ CtOk c → ∀ H', Same H H' → E (.ref CC) none H') ∧
  (bad zs rs = none → StOk zs rs t L → CtOk c → ∀ H' x, Same H H' → (join (advA 0 zs rs t c L))[i]? = some x → Q (.int x) H')
end
end Sv


set_option maxHeartbeats 1000000
/-! returns and periods, the mathematics alone -/
namespace Sv
section
variable {α : Type} (d : α) (zs : List Int) {rs : List Ro}
variable (h : ∀ r ∈ rs, r ≠ []) (hp : 1 ≤ lc rs)
include h hp
theorem effT_mul (t q : Int) : effT rs.length zs rs t (q * (lc rs : Int)) = rep (wh rs.length zs rs t) q := by
  have := effT_key rs.length zs h hp t q 0
  rw [fwd_zero, comp_rg (rep_eff (wh_eff ..) q) (by rw [rep_len, wh_len])] at this
  rw [this]
  congr 1
  omega
/-- the whole period -/
noncomputable def perT (zs : List Int) (rs : List Ro) (t : Int) : Nat := lc rs * ord (wh rs.length zs rs t)
/-- the return time of place i -/
noncomputable def retT (zs : List Int) (rs : List Ro) (t : Int) (i : Nat) : Nat := lc rs * per (wh rs.length zs rs t) i
omit h hp in
theorem ret_dvd (t : Int) {i : Nat} (hi : i < rs.length + sumN zs) : retT zs rs t i ∣ perT zs rs t :=
  Nat.mul_dvd_mul_left _ (per_dvd_ord (wh_eff ..) (by rw [wh_len]; exact hi))
theorem perT_pos (t : Int) : 0 < perT zs rs t := Nat.mul_pos (by omega) (ord_pos (wh_eff ..))
theorem retT_pos (t : Int) {i : Nat} (hi : i < rs.length + sumN zs) : 0 < retT zs rs t i := Nat.mul_pos (by omega) (per_pos (wh_eff ..) (by rw [wh_len]; exact hi))
theorem adv_period (t k : Int) {L : Lay α} (hf : Fits rs.length zs L) : advA d zs rs t (k * (perT zs rs t : Nat)) L = L := by
  have e : k * ((perT zs rs t : Nat) : Int) = (k * (ord (wh rs.length zs rs t) : Nat)) * (lc rs : Int) := by
    unfold perT
    rw [Int.natCast_mul, Int.mul_assoc, Int.mul_comm (lc rs : Int)]
  have e2 : rep (wh rs.length zs rs t) (k * (ord (wh rs.length zs rs t) : Nat)) = List.range (rs.length + sumN zs) := by
    have z := rep_mod (wh_eff rs.length zs rs t) (c := k * (ord (wh rs.length zs rs t) : Nat)) (d := 0) (by rw [Int.mul_emod_left, Int.zero_emod])
    rw [z, rep_zero, wh_len]
  unfold advA
  rw [e, effT_mul zs h hp, e2, ← join_len hf, moveA_range, spl_join hf]
theorem loc_mul (t k : Int) {L : Lay α} (hf : Fits rs.length zs L) {i : Nat} (hi : i < rs.length + sumN zs) : (join (advA d zs rs t (k * (lc rs : Int)) L))[rp (wh rs.length zs rs t) k i]? = (join L)[i]? := by
  rw [join_advA, effT_mul zs h hp]
  have hl : (wh rs.length zs rs t).length = rs.length + sumN zs := wh_len ..
  have e := moveA_at d (rep_eff (wh_eff rs.length zs rs t) k) (cs := join L) (by rw [join_len hf, rep_len, hl]) (i := i) (by rw [rep_len, hl]; exact hi)
  rwa [rep_ap (by rw [hl]; exact hi)] at e
theorem loc_return (t k : Int) {L : Lay α} (hf : Fits rs.length zs L) {i : Nat} (hi : i < rs.length + sumN zs) : (join (advA d zs rs t (k * (retT zs rs t i : Nat)) L))[i]? = (join L)[i]? := by
  have hl : (wh rs.length zs rs t).length = rs.length + sumN zs := wh_len ..
  have e : k * ((retT zs rs t i : Nat) : Int) = (k * (per (wh rs.length zs rs t) i : Nat)) * (lc rs : Int) := by
    unfold retT
    rw [Int.natCast_mul, Int.mul_assoc, Int.mul_comm (lc rs : Int)]
  have e2 : rp (wh rs.length zs rs t) (k * (per (wh rs.length zs rs t) i : Nat)) i = i := by
    unfold rp
    rw [Int.mul_emod_left]
    rfl
  have := loc_mul d zs h hp t (k * (per (wh rs.length zs rs t) i : Nat)) hf hi
  rw [e2] at this
  rw [e]
  exact this
theorem loc_step (t : Int) {k : Nat} {L : Lay α} (hf : Fits rs.length zs L) {i : Nat} (hi : i < rs.length + sumN zs) (h1 : 1 ≤ k) (h2 : k < per (wh rs.length zs rs t) i) :
    ∃ j, j ≠ i ∧ (join (advA d zs rs t ((k : Int) * (lc rs : Int)) L))[j]? = (join L)[i]? := by
  have hl : (wh rs.length zs rs t).length = rs.length + sumN zs := wh_len ..
  refine ⟨_, fun z => ?_, loc_mul d zs h hp t (k : Int) hf hi⟩
  rw [rp_nat (wh_eff ..) k (by rw [hl]; exact hi)] at z
  exact (per_spec (wh_eff rs.length zs rs t) (s := i) (by rw [hl]; exact hi)).2.2.1 k h1 h2 z
theorem adv_part (t : Int) {f : Nat} (h2 : 2 ≤ f) (hd : ord (wh rs.length zs rs t) % f = 0) {L : Lay α} (hf : Fits rs.length zs L) (nd : (join L).Nodup) : advA d zs rs t (((ord (wh rs.length zs rs t) / f : Nat) : Int) * (lc rs : Int)) L ≠ L := fun z => by
  have hl : (wh rs.length zs rs t).length = rs.length + sumN zs := wh_len ..
  refine ord_least (wh_eff rs.length zs rs t) h2 hd ?_
  refine ext_ap (by rw [rep_len, List.length_range]) fun p hp2 => ?_
  rw [rep_len] at hp2
  have hi : p < rs.length + sumN zs := by omega
  have e := loc_mul d zs h hp t ((ord (wh rs.length zs rs t) / f : Nat) : Int) hf hi
  rw [z] at e
  rw [rep_ap hp2, range_ap hp2]
  have jl := join_len hf
  have r1 : rp (wh rs.length zs rs t) ((ord (wh rs.length zs rs t) / f : Nat) : Int) p < (join L).length := by
    have := rp_lt (wh_eff rs.length zs rs t) (c := ((ord (wh rs.length zs rs t) / f : Nat) : Int)) hp2
    omega
  rw [List.getElem?_eq_getElem r1, List.getElem?_eq_getElem (by omega)] at e
  exact (List.getElem_inj nd).mp (Option.some.inj e)
end
end Sv


set_option maxHeartbeats 1000000
/-! the order of an effect of up to 120 places is below 2 ^ 64 -/
namespace Sv
theorem cube_le : ∀ k : Nat, k ^ 3 ≤ 3 ^ k
  | 0 => by decide
  | 1 => by decide
  | 2 => by decide
  | 3 => by decide
  | k + 4 => by
    have ih := cube_le (k + 3)
    have e1 : (k + 4) ^ 3 = (k + 4) * ((k + 4) * (k + 4)) := by
      rw [Nat.pow_succ, Nat.pow_succ, Nat.pow_one, Nat.mul_assoc]
    have e2 : (k + 3) ^ 3 = (k + 3) * ((k + 3) * (k + 3)) := by
      rw [Nat.pow_succ, Nat.pow_succ, Nat.pow_one, Nat.mul_assoc]
    have e3 : 3 ^ (k + 4) = 3 ^ (k + 3) * 3 := Nat.pow_succ ..
    rw [e2] at ih
    rw [e1, e3]
    refine Nat.le_trans ?_ (Nat.mul_le_mul_right 3 ih)
    have h1 : (k + 4) * (k + 4) = k * k + 8 * k + 16 := by simp only [Nat.mul_add, Nat.add_mul]; omega
    have h2 : (k + 3) * (k + 3) = k * k + 6 * k + 9 := by simp only [Nat.mul_add, Nat.add_mul]; omega
    rw [h1, h2]
    have h3 : (k + 4) * (k * k + 8 * k + 16) = k * (k * k) + 12 * (k * k) + 48 * k + 64 := by simp only [Nat.mul_add, Nat.add_mul, ← Nat.mul_assoc, Nat.mul_comm k 8]; simp only [Nat.mul_assoc]; omega
    have h4 : (k + 3) * (k * k + 6 * k + 9) = k * (k * k) + 9 * (k * k) + 27 * k + 27 := by simp only [Nat.mul_add, Nat.add_mul, ← Nat.mul_assoc, Nat.mul_comm k 6]; simp only [Nat.mul_assoc]; omega
    rw [h3, h4]
    omega
theorem lcmL_cube (cs : List (List Nat)) : (lcmL cs) ^ 3 ≤ 3 ^ cs.flatten.length := by
  induction cs using snoc_ind with
  | h0 => decide
  | h1 l a ih =>
    rw [lcmL_snoc, List.flatten_append, List.length_append]
    have h : Nat.lcm (lcmL l) a.length ≤ lcmL l * a.length := by
      by_cases z : lcmL l * a.length = 0
      · rcases Nat.mul_eq_zero.mp z with z | z
        · rw [z, Nat.lcm_zero_left]
          exact Nat.zero_le _
        · rw [z, Nat.lcm_zero_right]
          exact Nat.zero_le _
      · exact Nat.le_of_dvd (by omega) (Nat.lcm_dvd (Nat.dvd_mul_right ..) (Nat.dvd_mul_left ..))
    refine Nat.le_trans (Nat.pow_le_pow_left h 3) ?_
    rw [Nat.mul_pow, Nat.pow_add]
    refine Nat.mul_le_mul ih ?_
    have : [a].flatten.length = a.length := by simp
    rw [this]
    exact cube_le _
theorem lcmL_64 {cs : List (List Nat)} (h : cs.flatten.length ≤ 120) : lcmL cs < 2 ^ 64 := by
  have h1 : (lcmL cs) ^ 3 ≤ (3 ^ 40) ^ 3 := by
    rw [← Nat.pow_mul]
    exact Nat.le_trans (lcmL_cube cs) (Nat.pow_le_pow_right (by decide) h)
  have h2 : lcmL cs ≤ 3 ^ 40 := (Nat.pow_le_pow_iff_left (by decide)).mp h1
  exact Nat.lt_of_le_of_lt h2 (by decide)
end Sv


set_option maxHeartbeats 4000000
namespace Sv
open PySem PySem.Spec PyProof.Rows L2
section
variable {P : Program} {w : World} {K : PySem.W.Frag} {mg : Str → Option Value} {base : Heap}
/-! ### order_of -/
def spOrderOf (K : PySem.W.Frag) : Sp := fun vs H Q _ => ∃ (a : Addr) (e : List Nat), vs = [.ref a] ∧ SqT K H a (vN e) ∧ Eff e ∧ e.length ≤ 120 ∧ ∀ H', Same H H' → Q (.int (ord e : Nat)) H'
theorem Val.num120 {zs : List Int} {rs : List Ro} (v : Val zs rs) : rs.length + sumN zs ≤ 120 := by
  have := sumN_le v.z2
  have := v.z1
  have := v.r1
  omega
/-! ### period, return_time -/
def spPeriod (K : PySem.W.Frag) (C CS : Addr) : Sp := fun vs H Q E => ∃ (p s : Addr) (zs : List Int) (rs : List Ro) (t : Int) (L : Lay Int), vs = [.ref p, .ref s] ∧ PlanAt K H p zs rs ∧ Small zs rs ∧ StateAt K H s t L ∧ BadE C zs rs H E ∧
  (bad zs rs = none → ¬ StOk zs rs t L → ∀ H', Same H H' → E (.ref CS) none H') ∧ (bad zs rs = none → StOk zs rs t L → ∀ H', Same H H' → Q (.int (perT zs rs t : Nat)) H')
def spReturnTime (K : PySem.W.Frag) (C CS CU : Addr) : Sp := fun vs H Q E => ∃ (p s : Addr) (zs : List Int) (rs : List Ro) (t x : Int) (L : Lay Int), vs = [.ref p, .ref s, .int x] ∧ PlanAt K H p zs rs ∧ Small zs rs ∧ StateAt K H s t L ∧ BadE C zs rs H E ∧
  (bad zs rs = none → ¬ StOk zs rs t L → ∀ H', Same H H' → E (.ref CS) none H') ∧ (bad zs rs = none → StOk zs rs t L → x ∉ join L → ∀ H', Same H H' → E (.ref CU) none H') ∧
  (bad zs rs = none → StOk zs rs t L → ∀ i : Nat, (join L)[i]? = some x → ∀ H', Same H H' → Q (.int (retT zs rs t i : Nat)) H')
end
end Sv


set_option maxHeartbeats 4000000
namespace Sv
/-! ### parcels that meet, counted -/
def meetS (x y : Int) (s : List Int) : Bool := decide (x ∈ s) && decide (y ∈ s)
def meetsB (L : Lay Int) (x y : Int) : Bool := L.2.any (meetS x y)
noncomputable def mB (zs : List Int) (rs : List Ro) (t : Int) (L : Lay Int) (x y : Int) (k : Nat) : Bool := meetsB (advA 0 zs rs t (k : Nat) L) x y
theorem mB_per {zs : List Int} {rs : List Ro} (h : ∀ r ∈ rs, r ≠ []) (hp : 1 ≤ lc rs) (t : Int) {L : Lay Int} (hf : Fits rs.length zs L) (x y : Int) (k : Nat) : mB zs rs t L x y (perT zs rs t + k) = mB zs rs t L x y k := by
  unfold mB
  congr 1
  have e1 := advA_add (0 : Int) zs h hp t (perT zs rs t : Nat) (k : Nat) L
  have e2 := adv_period (0 : Int) zs h hp t 1 hf
  rw [Int.one_mul] at e2
  rw [e2] at e1
  rw [Int.natCast_add, ← e1]
  unfold advA
  rw [effT_mod rs.length zs h hp (m := t + (perT zs rs t : Nat)) (m' := t) ⟨(ord (wh rs.length zs rs t) : Nat), by
    unfold perT
    rw [Int.natCast_mul]
    omega⟩]
def cntM (f : Nat → Bool) (n : Nat) : Nat := ((List.range n).filter f).length
theorem cntM_add (f : Nat → Bool) (a b : Nat) : cntM f (a + b) = cntM f a + cntM (fun j => f (a + j)) b := by
  unfold cntM
  rw [List.range_add, List.filter_append, List.length_append, List.filter_map, List.length_map]
  rfl
theorem cntM_per {f : Nat → Bool} {W : Nat} (h : ∀ j, f (W + j) = f j) (c : Nat) : ∀ m : Nat, cntM f (m * W + c) = m * cntM f W + cntM f c
  | 0 => by rw [Nat.zero_mul, Nat.zero_mul, Nat.zero_add, Nat.zero_add]
  | m + 1 => by
    have e : (m + 1) * W + c = W + (m * W + c) := by rw [Nat.succ_mul]; omega
    rw [e, cntM_add, show (fun j => f (W + j)) = f from funext h, cntM_per h c m, Nat.succ_mul]
    omega
theorem cntM_in (f : Nat → Bool) {c W : Nat} (h : c ≤ W) : (((List.range (W + 1)).filter f).filter fun k => decide (1 ≤ k) && decide (k ≤ c)).length = cntM (fun j => f (j + 1)) c := by
  rw [List.filter_filter]
  obtain ⟨d, rfl⟩ : ∃ d, W = c + d := ⟨W - c, by omega⟩
  have e : c + d + 1 = (c + 1) + d := by omega
  rw [e, List.range_add, List.filter_append, List.length_append]
  have z : (List.filter (fun a => (decide (1 ≤ a) && decide (a ≤ c)) && f a) ((List.range d).map ((c + 1) + ·))) = [] := by
    refine List.filter_eq_nil_iff.mpr fun a ha => ?_
    obtain ⟨j, _, rfl⟩ := List.mem_map.mp ha
    have : decide (c + 1 + j ≤ c) = false := decide_eq_false (by omega)
    rw [this]
    simp
  rw [z, List.range_succ_eq_map, List.filter_cons]
  have z2 : ((decide (1 ≤ 0) && decide (0 ≤ c)) && f 0) = false := by simp
  rw [z2]
  show (List.filter _ ((List.range c).map Nat.succ)).length + 0 = _
  rw [List.filter_map, List.length_map, Nat.add_zero]
  unfold cntM
  congr 1
  refine List.filter_congr fun j hj => ?_
  have hj' := List.mem_range.mp hj
  show ((decide (1 ≤ j + 1) && decide (j + 1 ≤ c)) && f (j + 1)) = f (j + 1)
  rw [decide_eq_true (by omega : 1 ≤ j + 1), decide_eq_true (by omega : j + 1 ≤ c)]
  rfl
theorem cntM_pos (f : Nat → Bool) (W : Nat) : (((List.range (W + 1)).filter f).filter fun k => decide (0 < k)).length = cntM (fun j => f (j + 1)) W := by
  rw [← cntM_in f (Nat.le_refl W)]
  congr 1
  refine List.filter_congr fun k hk => ?_
  have := List.mem_range.mp (List.mem_filter.mp hk).1
  rw [decide_eq_true (by omega : k ≤ W), Bool.and_true]
  exact decide_eq_decide.mpr (by omega)
/-- the first of them -/
theorem first_in {f : Nat → Bool} {W k : Nat} {r : List Nat} (h : (List.range W).filter f = k :: r) : f k = true ∧ ∀ j, j < k → f j = false := by
  have hk : k ∈ (List.range W).filter f := by rw [h]; exact List.mem_cons_self ..
  obtain ⟨hW, hf⟩ := List.mem_filter.mp hk
  refine ⟨hf, fun j hj => ?_⟩
  cases e : f j with
  | false => rfl
  | true =>
    have hm : j ∈ (List.range W).filter f := List.mem_filter.mpr ⟨List.mem_range.mpr (by have := List.mem_range.mp hW; omega), e⟩
    have hp : ((List.range W).filter f).Pairwise (· < ·) := List.Pairwise.filter _ List.pairwise_lt_range
    rw [h] at hm hp
    rcases List.mem_cons.mp hm with z | z
    · omega
    · have := (List.pairwise_cons.mp hp).1 j z
      omega
theorem none_in {f : Nat → Bool} {W : Nat} (hW : 0 < W) (h : ∀ j, f (W + j) = f j) (e : ∀ k, k < W → f k = false) : ∀ k, f k = false := by
  intro k
  induction k using Nat.strongRecOn with
  | _ k ih =>
    by_cases hk : k < W
    · exact e k hk
    · obtain ⟨j, rfl⟩ : ∃ j, k = W + j := ⟨k - W, by omega⟩
      rw [h]
      exact ih j (by omega)
end Sv


set_option maxHeartbeats 2000000
/-! who meets whom, told by shelves of places -/
namespace Sv
/-- the shelf of each place on the first k shelves -/
def tagN (zs : List Int) : Nat → List (Option Nat)
  | 0 => []
  | k + 1 => tagN zs k ++ List.replicate (zs.getD k 0).toNat (some k)
theorem tagN_len (zs : List Int) : ∀ k, k ≤ zs.length → (tagN zs k).length = sumN (zs.take k)
  | 0, _ => rfl
  | k + 1, h => by
    have g : zs[k]? = some zs[k] := List.getElem?_eq_getElem (by omega)
    unfold tagN
    rw [List.length_append, List.length_replicate, tagN_len zs k (by omega), List.take_add_one, g, List.getD_eq_getElem?_getD, g]
    show _ = sumN (zs.take k ++ [zs[k]])
    rw [sumN_snoc]
    rfl
def tags (zs : List Int) (n : Nat) : List (Option Nat) := List.replicate n none ++ tagN zs zs.length
theorem tags_len (zs : List Int) (n : Nat) : (tags zs n).length = n + sumN zs := by
  unfold tags
  rw [List.length_append, List.length_replicate, tagN_len zs _ (Nat.le_refl _), List.take_length]
def tag (zs : List Int) (n i : Nat) : Option Nat := (tags zs n).getD i none
theorem tagN_lt (zs : List Int) : ∀ k, ∀ s, some s ∈ tagN zs k → s < k
  | 0, s, h => by cases h
  | k + 1, s, h => by
    unfold tagN at h
    rcases List.mem_append.mp h with h | h
    · have := tagN_lt zs k s h
      omega
    · have := (List.mem_replicate.mp h).2
      injection this with this
      omega
theorem flat_take1 {α : Type} {ss : List (List α)} {i : Nat} {s : List α} (h : ss[i]? = some s) : (ss.take (i + 1)).flatten = (ss.take i).flatten ++ s := by
  rw [List.take_add_one, h, List.flatten_append]
  simp
theorem row_of {ss : List (List Int)} {zs : List Int} (hl : ss.map List.length = zs.map Int.toNat) : ∀ k : Nat, k ≤ ss.length → ∀ (i : Nat) (x : Int), ((ss.take k).flatten)[i]? = some x → ∃ (m : Nat) (s : List Int), m < k ∧ ss[m]? = some s ∧ x ∈ s ∧ (tagN zs k)[i]? = some (some m)
  | 0, _, i, x, h => by simp at h
  | k + 1, hk, i, x, h => by
    have g : ss[k]? = some ss[k] := List.getElem?_eq_getElem (by omega)
    have lz : ss.length = zs.length := by
      have := congrArg List.length hl
      simpa using this
    have gz : zs[k]? = some zs[k] := List.getElem?_eq_getElem (by omega)
    have hlen : ss[k].length = (zs.getD k 0).toNat := by
      have := congrArg (fun l => l[k]?) hl
      simp only [List.getElem?_map, g, gz, Option.map_some] at this
      rw [List.getD_eq_getElem?_getD, gz]
      exact Option.some.inj this
    have fl : ((ss.take k).flatten).length = (tagN zs k).length := by
      rw [tagN_len zs k (by omega)]
      have e : (ss.take k).map List.length = (zs.take k).map Int.toNat := by rw [List.map_take, List.map_take, hl]
      exact flat_len2 e
    rw [flat_take1 g] at h
    unfold tagN
    by_cases hi : i < ((ss.take k).flatten).length
    · rw [List.getElem?_append_left hi] at h
      obtain ⟨m, s, h1, h2, h3, h4⟩ := row_of hl k (by omega) i x h
      exact ⟨m, s, by omega, h2, h3, by rw [List.getElem?_append_left (by omega)]; exact h4⟩
    · rw [List.getElem?_append_right (by omega)] at h
      refine ⟨k, ss[k], by omega, g, List.mem_of_getElem? h, ?_⟩
      have hj := (List.getElem?_eq_some_iff.mp h).1
      rw [List.getElem?_append_right (by omega), List.getElem?_replicate, if_pos (by omega)]
theorem row_one {ss : List (List Int)} (nd : ss.flatten.Nodup) {a b : Nat} {s u : List Int} {x : Int} (ha : ss[a]? = some s) (hb : ss[b]? = some u) (h1 : x ∈ s) (h2 : x ∈ u) : a = b := by
  have pw := (List.pairwise_flatten.mp nd).2
  have key : ∀ i j (hi : i < ss.length) (hj : j < ss.length), i < j → x ∈ ss[i] → x ∈ ss[j] → False := fun i j hi hj hij m1 m2 => (List.pairwise_iff_getElem.mp pw i j hi hj hij) x m1 x m2 rfl
  obtain ⟨la, ea⟩ := List.getElem?_eq_some_iff.mp ha
  obtain ⟨lb, eb⟩ := List.getElem?_eq_some_iff.mp hb
  rcases Nat.lt_trichotomy a b with z | z | z
  · exact (key a b la lb z (by rw [ea]; exact h1) (by rw [eb]; exact h2)).elim
  · exact z
  · exact (key b a lb la z (by rw [eb]; exact h2) (by rw [ea]; exact h1)).elim
/-- on the same shelf -/
def sameT (a b : Option Nat) : Bool := match a with
  | some s => decide (b = some s)
  | none => false
theorem tag_at {zs : List Int} {n : Nat} {L : Lay Int} (hf : Fits n zs L) (nd : (join L).Nodup) {i : Nat} {x : Int} (hi : (join L)[i]? = some x) :
    (tag zs n i = none ∧ ∀ s ∈ L.2, x ∉ s) ∨ ∃ m s, tag zs n i = some m ∧ L.2[m]? = some s ∧ x ∈ s := by
  unfold join at hi nd
  unfold tag tags
  by_cases h : i < L.1.length
  · rw [List.getElem?_append_left h] at hi
    refine .inl ⟨?_, fun s hs hx => ?_⟩
    · rw [List.getD_eq_getElem?_getD, List.getElem?_append_left (by rw [List.length_replicate, ← hf.1]; exact h), List.getElem?_replicate, if_pos (by rw [← hf.1]; exact h)]
      rfl
    · exact (List.nodup_append.mp nd).2.2 x (List.mem_of_getElem? hi) x (List.mem_flatten.mpr ⟨s, hs, hx⟩) rfl
  · rw [List.getElem?_append_right (by omega)] at hi
    have lz : L.2.length = zs.length := by
      have := congrArg List.length hf.2
      simpa using this
    obtain ⟨m, s, h1, h2, h3, h4⟩ := row_of hf.2 L.2.length (Nat.le_refl _) (i - L.1.length) x (by rw [List.take_length]; exact hi)
    refine .inr ⟨m, s, ?_, h2, h3⟩
    rw [List.getD_eq_getElem?_getD, List.getElem?_append_right (by rw [List.length_replicate, ← hf.1]; omega), List.length_replicate, ← hf.1, ← lz, h4]
    rfl
theorem meets_tag {zs : List Int} {n : Nat} {L : Lay Int} (hf : Fits n zs L) (nd : (join L).Nodup) {i j : Nat} {x y : Int} (hi : (join L)[i]? = some x) (hj : (join L)[j]? = some y) : meetsB L x y = sameT (tag zs n i) (tag zs n j) := by
  have ndf : L.2.flatten.Nodup := by
    unfold join at nd
    exact (List.nodup_append.mp nd).2.1
  have no : ∀ {z : Int}, (∀ s ∈ L.2, z ∉ s) → ∀ (b : Int), meetsB L z b = false ∧ meetsB L b z = false := fun {z} hz b => by
    unfold meetsB
    refine ⟨List.any_eq_false.mpr fun s hs => ?_, List.any_eq_false.mpr fun s hs => ?_⟩
    · unfold meetS
      rw [decide_eq_false (hz s hs)]
      simp
    · unfold meetS
      rw [decide_eq_false (hz s hs), Bool.and_false]
      simp
  rcases tag_at hf nd hi with ⟨e1, h1⟩ | ⟨m, s, e1, h1, h2⟩
  · rw [e1, (no h1 y).1]
    rfl
  · rcases tag_at hf nd hj with ⟨e2, g1⟩ | ⟨k, u, e2, g1, g2⟩
    · rw [e1, e2, (no g1 x).2]
      rfl
    · rw [e1, e2]
      show _ = decide (some k = some m)
      by_cases e : k = m
      · subst e
        obtain rfl : s = u := Option.some.inj (h1.symm.trans g1)
        rw [decide_eq_true rfl]
        unfold meetsB
        refine List.any_eq_true.mpr ⟨s, List.mem_of_getElem? h1, ?_⟩
        unfold meetS
        rw [decide_eq_true h2, decide_eq_true g2]
        rfl
      · rw [decide_eq_false (fun z => e (Option.some.inj z))]
        unfold meetsB
        refine List.any_eq_false.mpr fun v hv => ?_
        unfold meetS
        obtain ⟨q, hq⟩ := List.mem_iff_getElem?.mp hv
        by_cases x1 : x ∈ v
        · by_cases y1 : y ∈ v
          · have a1 := row_one ndf hq h1 x1 h2
            have a2 := row_one ndf hq g1 y1 g2
            omega
          · rw [decide_eq_false y1, Bool.and_false]
            simp
        · rw [decide_eq_false x1]
          simp
end Sv


set_option maxHeartbeats 2000000
/-! meetings lap by lap -/
namespace Sv
section
variable (zs : List Int) (rs : List Ro) (t : Int)
/-- the place, after k ticks, of what is at place i -/
noncomputable def pos (k i : Nat) : Nat := ap (effT rs.length zs rs t (k : Nat)) i
noncomputable def mk (i j k : Nat) : Bool := sameT (tag zs rs.length (pos zs rs t k i)) (tag zs rs.length (pos zs rs t k j))
/-- the shelf, r ticks into a lap, of what is at place i before it -/
noncomputable def rowT (i r : Nat) : Option Nat := tag zs rs.length (ap (fwd rs.length zs rs t r) i)
noncomputable def lapM (i j : Nat) : List Bool := (List.range (lc rs)).map fun r => sameT (rowT zs rs t i (r + 1)) (rowT zs rs t j (r + 1))
noncomputable def mkL (laps i j : Nat) : List Bool := (List.range laps).flatMap fun m => lapM zs rs t (it (wh rs.length zs rs t) m i) (it (wh rs.length zs rs t) m j)
variable {rs}
variable (h : ∀ r ∈ rs, r ≠ []) (hp : 1 ≤ lc rs)
include h hp
theorem pos_lap {m r i : Nat} (hi : i < rs.length + sumN zs) : pos zs rs t (m * lc rs + r) i = ap (fwd rs.length zs rs t r) (it (wh rs.length zs rs t) m i) := by
  have wl := wh_len rs.length zs rs t
  have k := effT_key rs.length zs h hp t (m : Nat) r
  unfold pos
  have e : ((m * lc rs + r : Nat) : Int) = (m : Nat) * (lc rs : Int) + (r : Nat) := by rw [Int.natCast_add, Int.natCast_mul]
  rw [e, ← k, comp_ap (by rw [rep_len, wl]; exact hi), rep_ap (by rw [wl]; exact hi), rp_nat (wh_eff ..) m (by rw [wl]; exact hi)]
theorem mk_lap {m r i j : Nat} (hi : i < rs.length + sumN zs) (hj : j < rs.length + sumN zs) : mk zs rs t i j (m * lc rs + r) = sameT (rowT zs rs t (it (wh rs.length zs rs t) m i) r) (rowT zs rs t (it (wh rs.length zs rs t) m j) r) := by
  unfold mk rowT
  rw [pos_lap zs t h hp hi, pos_lap zs t h hp hj]
theorem mkL_eq {i j : Nat} (hi : i < rs.length + sumN zs) (hj : j < rs.length + sumN zs) : ∀ laps, mkL zs rs t laps i j = (List.range (laps * lc rs)).map fun k => mk zs rs t i j (k + 1)
  | 0 => by
    rw [Nat.zero_mul]
    rfl
  | laps + 1 => by
    have ih := mkL_eq hi hj laps
    unfold mkL at ih ⊢
    rw [List.range_succ, List.flatMap_append, ih, Nat.succ_mul, List.range_add, List.map_append]
    congr 1
    rw [List.flatMap_cons, List.flatMap_nil, List.append_nil, List.map_map]
    unfold lapM
    refine List.map_congr_left fun r _ => ?_
    have e := mk_lap zs t h hp (m := laps) (r := r + 1) hi hj
    show _ = mk zs rs t i j (laps * lc rs + r + 1)
    rw [← Nat.add_assoc] at e
    rw [e]
theorem mk_per {i j W : Nat} (hi : i < rs.length + sumN zs) (hj : j < rs.length + sumN zs) (h1 : per (wh rs.length zs rs t) i ∣ W) (h2 : per (wh rs.length zs rs t) j ∣ W) (k : Nat) : mk zs rs t i j (W * lc rs + k) = mk zs rs t i j k := by
  have wl := wh_len rs.length zs rs t
  have we := wh_eff rs.length zs rs t
  have dm := Nat.div_add_mod k (lc rs)
  have e1 : W * lc rs + k = (k / lc rs + W) * lc rs + k % lc rs := by
    rw [Nat.add_mul, Nat.mul_comm (k / lc rs)]
    omega
  have e2 : k = k / lc rs * lc rs + k % lc rs := by
    rw [Nat.mul_comm]
    omega
  have back : ∀ {p : Nat}, p < rs.length + sumN zs → per (wh rs.length zs rs t) p ∣ W → it (wh rs.length zs rs t) (k / lc rs + W) p = it (wh rs.length zs rs t) (k / lc rs) p := fun {p} hp2 d => by
    rw [it_add, (it_eq_iff we (by rw [wl]; exact hp2) W).mpr d]
  conv => rhs; rw [e2]
  rw [e1, mk_lap zs t h hp hi hj, mk_lap zs t h hp hi hj, back hi h1, back hj h2]
theorem mB_mk {L : Lay Int} (hf : Fits rs.length zs L) (nd : (join L).Nodup) {i j : Nat} {x y : Int} (hi : (join L)[i]? = some x) (hj : (join L)[j]? = some y) (k : Nat) : mB zs rs t L x y k = mk zs rs t i j k := by
  have jl := join_len hf
  have il := (List.getElem?_eq_some_iff.mp hi).1
  have jl2 := (List.getElem?_eq_some_iff.mp hj).1
  have at' : ∀ {p : Nat} {z : Int}, (join L)[p]? = some z → p < rs.length + sumN zs → (join (advA 0 zs rs t (k : Nat) L))[pos zs rs t k p]? = some z := fun {p z} hz hl => by
    unfold pos
    rw [join_advA, moveA_at 0 (effT_eff ..) (by rw [effT_len, jl]) (by rw [effT_len]; exact hl)]
    exact hz
  have nd2 : (join (advA 0 zs rs t (k : Nat) L)).Nodup := by
    rw [advA_nat 0 zs h hp t k hf]
    have e := run_org (0 : Int) hf rs t k
    rw [e]
    have oe := org_eff rs.length zs rs t k
    have ol := org_len rs.length zs rs t k
    refine List.pairwise_map.mpr (oe.2.imp_of_mem fun {a b} ha hb ne q => ne ?_)
    have ha' := oe.1 a ha
    have hb' := oe.1 b hb
    rw [List.getD_eq_getElem?_getD, List.getD_eq_getElem?_getD, List.getElem?_eq_getElem (by omega), List.getElem?_eq_getElem (by omega)] at q
    exact (List.getElem_inj nd).mp q
  unfold mB mk
  exact meets_tag (advA_fits ..) nd2 (at' hi (by omega)) (at' hj (by omega))
end
end Sv


set_option maxHeartbeats 4000000
/-! how often a plain item stands in a list -/
namespace Sv
open PySem PySem.Spec PyProof.Rows L2
def cntV (y : V) (ys : List V) : Nat := ys.countP fun z => eqV z y
theorem cnt_vals {y : V} : ∀ {ys : List V} {us : List Value}, Vals ys us → ys.all flatV = true → us.countP (eqU y) = cntV y ys
  | _, _, .nil, _ => rfl
  | z :: ys, u :: us, .cons r t, f => by
    rw [List.all_cons, Bool.and_eq_true] at f
    have ih := cnt_vals (y := y) t f.2
    unfold cntV at ih ⊢
    rw [List.countP_cons, List.countP_cons, ih, eqU_of r f.1]
def rCountF (K : PySem.W.Frag) : V → List V → Hp → VK → Prop := fun x xs H Q => ∃ (p : Addr) (ys : List V) (y : V), x = .ref p ∧ xs = [y] ∧ SqL K H p ys ∧ flatV y = true ∧ ys.all flatV = true ∧ Q (.int (cntV y ys : Nat)) H
theorem mt_countF {X : Cx} : MtR X "list.count" (rCountF X.K) := by
  intro pins s σ H x xs v us Q I rx rs hq
  obtain ⟨p, ys, y, rfl, rfl, hs, g1, g2, q⟩ := hq
  cases rx
  obtain ⟨u, rfl, ru⟩ := rs.one
  obtain ⟨its, rv, ⟨⟨c0, dd, d0, sl⟩, n, ho, hc, hdn, hd⟩, hlen⟩ := I.list hs
  simp only at hc hd
  subst hc hd
  have ec : its.toArray.toList.countP (eqU y) = cntV y ys := cnt_vals rv g2
  refine call_meets PySem.F.slot_list_count ⟨_, ho, rfl⟩ PySem.F.entry_list_count (PySem.F.args_list_count_2 _ _)
    (SeqAt.list_countAt p its.toArray n dd sl u (eqU y)) ⟨ho, fun w hw => mem_eqAt ru g1 rv g2 w (by simpa using hw), .int (cntV y ys : Nat), H, I.tok _, ⟨s.toks, ?_⟩, q⟩
  show Value.int ((its.toArray.toList.countP (eqU y) : Nat) : Int) s.toks = Value.int ((cntV y ys : Nat) : Int) s.toks
  rw [ec]
end Sv


set_option maxHeartbeats 4000000
/-! a comprehension within a comprehension -/
namespace Sv
open PySem PySem.Spec PyProof.Rows L2
theorem look_map {f : Str → NameKind → NameKind} : ∀ {l : List (Str × NameKind)} {y : Str} {k : NameKind}, l.lookup y = some k → (l.map fun (n, q) => (n, f n q)).lookup y = some (f y k)
  | [], _, _, h => by cases h
  | (n, q) :: l, y, k, h => by
    rw [List.map_cons]
    rw [List.lookup_cons] at h ⊢
    by_cases e : (y == n) = true
    · rw [e] at h ⊢
      have e2 : y = n := eq_of_beq e
      cases h
      rw [e2]
    · have e3 : (y == n) = false := by simpa using e
      rw [e3] at h ⊢
      exact look_map h
theorem blk_in {N : List Str} {s1 s2 : Scope} {own : List (Str × Nat)} (env : Env) (h : BlkOk N s1 s2 own) : BlkOk N (relabel s1 env) s2 own := by
  refine ⟨h.kind, h.uniq, h.ix, fun y hy e => ?_, h.own⟩
  have e0 : (relabel s1 env).names = s1.names.map fun (n, k) => (n, if (k == .free && env.scope.kind == .function && env.kindOf n == some .cell) then NameKind.cell else k) := by
    unfold relabel
    refine List.map_congr_left fun p _ => ?_
    obtain ⟨n, k⟩ := p
    dsimp only
    split <;> rfl
  rw [e0]
  rcases h.free y hy e with k | k
  · exact .inl ((look_map (f := fun n k => if (k == .free && env.scope.kind == .function && env.kindOf n == some .cell) then NameKind.cell else k) k).trans (by simp))
  · have := look_map (f := fun n k => if (k == .free && env.scope.kind == .function && env.kindOf n == some .cell) then NameKind.cell else k) k
    rw [this]
    split
    · exact .inl rfl
    · exact .inr rfl
end Sv


set_option maxHeartbeats 4000000
namespace Sv
open PySem PySem.Spec PyProof.Rows L2
/-! ### shelves of places, as values -/
def tagV : Option Nat → V
  | some s => .int (s : Nat)
  | none => .non
def shelvesL (zs : List Int) (n : Nat) : List V := (tags zs n).map tagV
theorem shelvesL_len (zs : List Int) (n : Nat) : (shelvesL zs n).length = n + sumN zs := by
  unfold shelvesL
  rw [List.length_map, tags_len]
theorem shelvesL_at {zs : List Int} {n i : Nat} (h : i < n + sumN zs) : (shelvesL zs n)[i]? = some (tagV (tag zs n i)) := by
  unfold shelvesL tag
  rw [List.getElem?_map, List.getD_eq_getElem?_getD, List.getElem?_eq_getElem (by rw [tags_len]; exact h)]
  rfl
def plV : List V → V
  | [_, b, _] => b
  | _ => .non
theorem posV_plV (k m : Nat) : (posV k m).map plV = List.replicate m (V.int (k : Nat)) := by
  unfold posV
  rw [List.map_map]
  refine List.eq_replicate_iff.mpr ⟨by simp, fun b hb => ?_⟩
  obtain ⟨p, _, rfl⟩ := List.mem_map.mp hb
  rfl
theorem shN_plV (zs : List Int) : ∀ k, (shN zs k).map plV = (tagN zs k).map tagV
  | 0 => rfl
  | k + 1 => by
    unfold shN tagN
    rw [List.map_append, List.map_append, shN_plV zs k, posV_plV, List.map_replicate]
    rfl
theorem places_plV (zs : List Int) (n : Nat) : (placesV zs n).map plV = shelvesL zs n := by
  unfold placesV shelvesL tags
  rw [List.map_append, List.map_append, shN_plV, List.map_replicate]
  congr 1
  unfold carV
  rw [List.map_map]
  refine List.eq_replicate_iff.mpr ⟨by simp, fun b hb => ?_⟩
  obtain ⟨p, _, rfl⟩ := List.mem_map.mp hb
  rfl
def NewLv (H : Hp) (xs : List V) (Q : VK) : Prop := ∀ H' f, Same H H' → H f = none → H' f = some (.lst xs) → Q (.ref f) H'
theorem NewLv.imp {H H1 : Hp} {xs : List V} {Q : VK} (h : NewLv H xs Q) (e : Same H H1) : NewLv H1 xs Q := fun H' f sm hf => h H' f (e.trans sm) (Same.free e hf)
section
variable {P : Program} {w : World} {K : PySem.W.Frag} {mg : Str → Option Value} {base : Heap}
def spShelvesOf (K : PySem.W.Frag) : Sp := fun vs H Q _ => ∃ (p : Addr) (zs : List Int) (rs : List Ro), vs = [.ref p] ∧ PlanAt K H p zs rs ∧ Val zs rs ∧ NewLv H (shelvesL zs rs.length) Q
end
end Sv


set_option maxHeartbeats 4000000
namespace Sv
open PySem PySem.Spec PyProof.Rows L2
def retVal (i : Nat) (s : Stmt) : Expr := match (defBody s).getD i (.Pass ⟨0, 0, 0, 0⟩) with
  | .Return (some v) _ => v
  | _ => .Name "x" ⟨0, 0, 0, 0⟩
def lcScope : Expr → Scope
  | .ListComp _ _ s _ => s
  | _ => default
/-- the shelves, tick by tick, of what is at place i before a lap -/
noncomputable def shV (zs : List Int) (rs : List Ro) (t : Int) (i : Nat) : List V := (List.range (lc rs)).map fun r => tagV (rowT zs rs t i (r + 1))
theorem shV_len (zs : List Int) (rs : List Ro) (t : Int) (i : Nat) : (shV zs rs t i).length = lc rs := by unfold shV; simp
noncomputable def shVs (zs : List Int) (rs : List Ro) (t : Int) : List (List V) := (List.range (rs.length + sumN zs)).map (shV zs rs t)
theorem RI.push {H3 H' H2 : Hp} {D l : Addr} {ss : List (List V)} {s : List V} (h : RI H3 H' D ss) (hD : H3 D = none) (sm : Same H' H2) (hl : H' l = none) (kl : H2 l = some (.lst s)) (hs : ss.length ≤ 1000) :
    ∃ acc, H2 D = some (.lst acc) ∧ acc.length < sizeLine ∧ RI H3 (upd H2 D (.lst (acc ++ [.ref l]))) D (ss ++ [s]) := by
  obtain ⟨sm0, rw, kD, rl, nd, hrw⟩ := h
  have n0 : H3 l = none := Same.free sm0 hl
  have nD : D ≠ l := ne_of_none kD hl
  have hrl := rowV_len rl
  have hl2 : l ∉ rw := rowV_free rl hl
  refine ⟨rw.map V.ref, sm _ _ kD, ?_, same_of (sm0.trans sm) hD, rw ++ [l], ?_, ?_, ?_, ?_⟩
  · rw [List.length_map, hrl]
    exact small1000 hs
  · rw [upd_same, List.map_append]
    rfl
  · refine rowV_snoc (by rw [upd_ne (Ne.symm nD)]; exact kl) (rowV_imp (fun q hq o ho => ?_) rl)
    rw [upd_ne (hrw q hq).2]
    exact sm _ _ ho
  · refine List.nodup_append.mpr ⟨nd, (by simp), fun x hx y hy z => ?_⟩
    rw [List.mem_singleton.mp hy] at z
    exact hl2 (by rw [← z]; exact hx)
  · intro q hq
    rcases List.mem_append.mp hq with hq | hq
    · exact hrw q hq
    · rw [List.mem_singleton.mp hq]
      exact ⟨n0, Ne.symm nD⟩
section
variable {P : Program} {w : World} {K : PySem.W.Frag} {mg : Str → Option Value} {base : Heap}
/-! ### shelves_in_a_lap -/
def nSl : List Str := ["plan", "lap", "shelves", "stop", "stops"]
def NewRows (H : Hp) (ss : List (List V)) (Q : VK) : Prop := ∀ H' f rw, Same H H' → H' f = some (.lst (rw.map V.ref)) → RowV H' rw ss → Q (.ref f) H'
def spShelvesLap (K : PySem.W.Frag) (C : Addr) : Sp := fun vs H Q _ => ∃ (p la : Addr) (zs : List Int) (rs : List Ro) (t : Int), vs = [.ref p, .ref la] ∧ PlanAt K H p zs rs ∧ Val zs rs ∧ LapAt H C la zs rs t ∧ NewRows H (shVs zs rs t) Q
abbrev rNotNo : R2 := fun x y H Q => y = .non ∧ Q (.bl (!decide (x = .non))) H
abbrev rFmod : R2 := rI (fun _ j => j ≠ 0) fun i j => .int (i.fmod j)
/-- int(x) -/
abbrev tInt (t : TE) : TE := tCB (fun xs H Q => (∃ i, xs = [.int i] ∧ Q (.int i) H) ∨ ∃ k, xs = [.bl k] ∧ Q (.int (if k then 1 else 0)) H) (tCons t tNil)
abbrev tLenS (K : PySem.W.Frag) (t : TE) : TE := tCB (fun xs H Q => ∃ p ys, xs = [.ref p] ∧ (SqL K H p ys ∨ SqT K H p ys) ∧ Q (.int ys.length) H) (tCons t tNil)
def tShIn (K : PySem.W.Frag) : TE := tLc (iList K (tSl (rSlL K) (tVar 4) (tPart (tC (.int 1))) tNoPart)) (gName 3) tYes (tOp (rIxL K) (tVar 2) (tVar 3)) ([("stop", 3)].map (·.2))
/-! ### marks_in_a_lap -/
def nMl : List Str := ["row", "other", "shelf", "there"]
def blV (l : List Bool) : List V := l.map V.bl
theorem blV_len (l : List Bool) : (blV l).length = l.length := by unfold blV; simp
theorem lapM_len (zs : List Int) (rs : List Ro) (t : Int) (i j : Nat) : (lapM zs rs t i j).length = lc rs := by unfold lapM; simp
def spMarksLap (K : PySem.W.Frag) : Sp := fun vs H Q _ => ∃ (a b : Addr) (zs : List Int) (rs : List Ro) (t : Int) (i j : Nat), vs = [.ref a, .ref b] ∧ SqL K H a (shV zs rs t i) ∧ SqL K H b (shV zs rs t j) ∧ lc rs ≤ 1000 ∧ NewLv H (blV (lapM zs rs t i j)) Q
theorem same_tag (a b : Option Nat) : tagV a ≠ .non → decide (tagV a = tagV b) = sameT a b := fun h => by
  cases a with
  | none => exact absurd rfl h
  | some s =>
    cases b with
    | none =>
      show decide (V.int (s : Nat) = V.non) = decide ((none : Option Nat) = some s)
      rw [decide_eq_false (by simp), decide_eq_false (by simp)]
    | some u =>
      show decide (V.int (s : Nat) = V.int (u : Nat)) = decide (some u = some s)
      by_cases e : s = u
      · subst e
        rw [decide_eq_true rfl, decide_eq_true rfl]
      · rw [decide_eq_false (fun z => e (by have := V.int.inj z; omega)), decide_eq_false (fun z => e (Option.some.inj z).symm)]
theorem tagV_scal (a b : Option Nat) : scal (tagV a) (tagV b) = true := by cases a <;> cases b <;> rfl
/-! ### pairs_before_laps -/
def nPb : List Str := ["effect", "one", "other", "first", "second", "laps", "index"]
noncomputable def lapsN (e : List Nat) (i j : Nat) : Nat := Nat.lcm (per e i) (per e j)
noncomputable def pairsV (e : List Nat) (i j k : Nat) : List (List V) := (List.range k).map fun m => [V.int (it e m i : Nat), V.int (it e m j : Nat)]
def spPairs (K : PySem.W.Frag) : Sp := fun vs H Q _ => ∃ (a : Addr) (e : List Nat) (i j : Nat), vs = [.ref a, .int (i : Nat), .int (j : Nat)] ∧ SqT K H a (vN e) ∧ Eff e ∧ e.length ≤ 120 ∧ i < e.length ∧ j < e.length ∧ NewTL H (pairsV e i j (lapsN e i j)) Q
theorem lapsN_le {e : List Nat} (E : Eff e) {i j : Nat} (hl : e.length ≤ 120) (hi : i < e.length) (hj : j < e.length) : 1 ≤ lapsN e i j ∧ lapsN e i j ≤ 14400 := by
  have h1 := (per_spec E hi).2.2.2
  have h2 := (per_spec E hj).2.2.2
  have p1 := per_pos E hi
  have p2 := per_pos E hj
  unfold lapsN
  refine ⟨Nat.lcm_pos p1 p2, Nat.le_trans (Nat.le_of_dvd (Nat.mul_pos p1 p2) (Nat.lcm_dvd (Nat.dvd_mul_right ..) (Nat.dvd_mul_left ..))) ?_⟩
  exact Nat.mul_le_mul (by omega : per e i ≤ 120) (by omega : per e j ≤ 120)
end
end Sv


set_option maxHeartbeats 4000000
namespace Sv
open PySem PySem.Spec PyProof.Rows L2
section
variable {P : Program} {w : World} {K : PySem.W.Frag} {mg : Str → Option Value} {base : Heap}
/-! ### marks_of_meetings -/
def nMm : List Str := ["plan", "state", "one", "other", "lap", "rows", "marks", "here", "there"]
def spMarks (K : PySem.W.Frag) : Sp := fun vs H Q _ => ∃ (p s : Addr) (zs : List Int) (rs : List Ro) (t : Int) (L : Lay Int) (i j : Nat), vs = [.ref p, .ref s, .int (i : Nat), .int (j : Nat)] ∧ PlanAt K H p zs rs ∧ Val zs rs ∧ StateAt K H s t L ∧ i < rs.length + sumN zs ∧ j < rs.length + sumN zs ∧
  NewLv H (blV (mkL zs rs t (lapsN (wh rs.length zs rs t) i j) i j)) Q
theorem mkL_len (zs : List Int) (rs : List Ro) (t : Int) (i j : Nat) : ∀ laps, (mkL zs rs t laps i j).length = laps * lc rs
  | 0 => by
    rw [Nat.zero_mul]
    rfl
  | k + 1 => by
    have ih := mkL_len zs rs t i j k
    unfold mkL at ih ⊢
    rw [List.range_succ, List.flatMap_append, List.length_append, ih, List.flatMap_cons, List.flatMap_nil, List.append_nil, lapM_len, Nat.succ_mul]
/-! ### count_in_ticks -/
def spCountIn (K : PySem.W.Frag) : Sp := fun vs H Q _ => ∃ (l : Addr) (xs : List V) (y : V) (c : Nat), vs = [.ref l, y, .int (c : Nat)] ∧ SqL K H l xs ∧ flatV y = true ∧ xs.all flatV = true ∧ c ≤ 1000000000000000000 ∧ 1 ≤ xs.length ∧ xs.length ≤ 1000000 ∧
  ∀ H', Same H H' → Q (.int (c / xs.length * cntV y xs + cntV y (xs.take (c % xs.length)) : Nat)) H'
theorem all_take {p : V → Bool} {xs : List V} (h : xs.all p = true) (k : Nat) : (xs.take k).all p = true := List.all_eq_true.mpr fun x hx => List.all_eq_true.mp h x (List.mem_of_mem_take hx)
/-! ### first_meeting, ticks_together -/
/-- the first k with f k -/
def FirstV (f : Nat → Bool) (v : V) : Prop := (∃ k : Nat, v = .int (k : Nat) ∧ f k = true ∧ ∀ j, j < k → f j = false) ∨ (v = .non ∧ ∀ k, f k = false)
theorem flat_bls (l : List Bool) : (blV l).all flatV = true := by
  unfold blV
  rw [List.all_map]
  exact List.all_eq_true.mpr fun _ _ => rfl
theorem eqV_bl (a : Bool) : eqV (.bl a) (.bl true) = a := by
  show (a == true) = a
  cases a <;> rfl
theorem inV_bls (l : List Bool) : inV (.bl true) (blV l) = l.any id := by
  unfold inV blV
  rw [List.any_map]
  congr 1
  funext a
  exact eqV_bl a
theorem cnt_bls (f : Nat → Bool) (n : Nat) : cntV (.bl true) (blV ((List.range n).map f)) = cntM f n := by
  unfold cntV blV cntM
  rw [List.countP_map, List.countP_map, List.countP_eq_length_filter]
  congr 1
  refine List.filter_congr fun a _ => ?_
  exact eqV_bl (f a)
/-- what the marks tell of the first meeting -/
theorem first_case {f : Nat → Bool} {W : Nat} (hW : 0 < W) (per : ∀ k, f (W + k) = f k) : (f W = true → FirstV f (.int 0)) ∧ ((∀ k, k < W → f (k + 1) = false) → FirstV f .non) ∧ (∀ j, f W = false → f (j + 1) = true → (∀ i, i < j → f (i + 1) = false) → FirstV f (.int ((j : Int) + 1))) := by
  have p0 : f W = f 0 := per 0
  refine ⟨fun h => .inl ⟨0, rfl, by rw [← p0]; exact h, fun j hj => by omega⟩, fun h => .inr ⟨rfl, ?_⟩, fun j h1 h2 h3 => .inl ⟨j + 1, rfl, h2, fun i hi => ?_⟩⟩
  · have h' := none_in (f := fun j => f (j + 1)) hW (fun j => per (j + 1)) h
    intro k
    cases k with
    | zero =>
      rw [← p0]
      have := h (W - 1) (by omega)
      rwa [show W - 1 + 1 = W by omega] at this
    | succ k => exact h' k
  · cases i with
    | zero =>
      rw [← p0]
      exact h1
    | succ i => exact h3 i (by omega)
theorem first_true {l : List Bool} (h : l.any id = true) : ∃ j : Nat, l[j]? = some true ∧ ∀ i : Nat, i < j → l[i]? = some false := by
  induction l with
  | nil => cases h
  | cons a l ih =>
    cases a with
    | true => exact ⟨0, rfl, fun i hi => by omega⟩
    | false =>
      obtain ⟨j, h1, h2⟩ := ih (by simpa using h)
      refine ⟨j + 1, by simpa using h1, fun i hi => ?_⟩
      cases i with
      | zero => rfl
      | succ i => simpa using h2 i (by omega)
def spFirst (K : PySem.W.Frag) (C CS CU : Addr) : Sp := fun vs H Q E => ∃ (p s : Addr) (zs : List Int) (rs : List Ro) (t x y : Int) (L : Lay Int), vs = [.ref p, .ref s, .int x, .int y] ∧ PlanAt K H p zs rs ∧ Small zs rs ∧ StateAt K H s t L ∧ BadE C zs rs H E ∧
  (bad zs rs = none → ¬ StOk zs rs t L → ∀ H', Same H H' → E (.ref CS) none H') ∧ (bad zs rs = none → StOk zs rs t L → x ∉ join L → ∀ H', Same H H' → E (.ref CU) none H') ∧
  (bad zs rs = none → StOk zs rs t L → x ∈ join L → y ∉ join L → ∀ H', Same H H' → E (.ref CU) none H') ∧
  (bad zs rs = none → StOk zs rs t L → x ∈ join L → y ∈ join L → ∀ H' v, Same H H' → FirstV (mB zs rs t L x y) v → Q v H')
def spTogether (K : PySem.W.Frag) (C CS CU CC : Addr) : Sp := fun vs H Q E => ∃ (p s : Addr) (zs : List Int) (rs : List Ro) (t x y c : Int) (L : Lay Int), vs = [.ref p, .ref s, .int x, .int y, .int c] ∧ PlanAt K H p zs rs ∧ Small zs rs ∧ StateAt K H s t L ∧ BadE C zs rs H E ∧
  (bad zs rs = none → ¬ StOk zs rs t L → ∀ H', Same H H' → E (.ref CS) none H') ∧ (bad zs rs = none → StOk zs rs t L → x ∉ join L → ∀ H', Same H H' → E (.ref CU) none H') ∧
  (bad zs rs = none → StOk zs rs t L → x ∈ join L → y ∉ join L → ∀ H', Same H H' → E (.ref CU) none H') ∧
  (bad zs rs = none → StOk zs rs t L → x ∈ join L → y ∈ join L → ¬ TkOk c → ∀ H', Same H H' → E (.ref CC) none H') ∧
  (bad zs rs = none → StOk zs rs t L → x ∈ join L → y ∈ join L → TkOk c → ∀ H', Same H H' → Q (.int (cntM (fun j => mB zs rs t L x y (j + 1)) c.toNat : Nat)) H')
end
end Sv


set_option maxHeartbeats 4000000
namespace Sv
open PySem PySem.Spec PyProof.Rows L2
/-! ### who is left where, told by carriers -/
theorem prs_ltv (rs : List Ro) (m : Int) : ∀ k, ∀ p ∈ prs rs m k, p.1 < k
  | 0, p, h => by cases h
  | k + 1, p, h => by
    unfold prs at h
    rcases List.mem_append.mp h with h | h
    · have := prs_ltv rs m k p h
      omega
    · split at h
      · split at h
        · rw [List.mem_singleton.mp h]
          exact Nat.lt_succ_self k
        · cases h
      · cases h
theorem prs_nd (rs : List Ro) (m : Int) : ∀ k, ((prs rs m k).map (·.1)).Nodup
  | 0 => List.nodup_nil
  | k + 1 => by
    have ih := prs_nd rs m k
    unfold prs
    rw [List.map_append]
    refine List.nodup_append.mpr ⟨ih, ?_, fun a ha b hb e => ?_⟩
    · split
      · split
        · simp
        · exact List.nodup_nil
      · exact List.nodup_nil
    · obtain ⟨p, hp, rfl⟩ := List.mem_map.mp ha
      have h1 := prs_ltv rs m k p hp
      obtain ⟨q, hq, rfl⟩ := List.mem_map.mp hb
      have h2 : q.1 = k := by
        split at hq
        · split at hq
          · rw [List.mem_singleton.mp hq]
          · cases hq
        · cases hq
      omega
theorem vis_nd (rs : List Ro) (m : Int) : ((vis rs m).map (·.1)).Nodup := by
  unfold vis
  rw [List.map_map]
  exact prs_nd rs m rs.length
theorem step1_car {α : Type} (L : Lay α) (p : Nat × Nat) {c : Nat} (h : p.1 ≠ c) : (step1 L p).1[c]? = L.1[c]? := by
  unfold step1
  split
  · show (L.1.set p.1 _)[c]? = _
    rw [List.getElem?_set_ne h]
  · rfl
theorem steps_car {α : Type} {c : Nat} : ∀ (ps : List (Nat × Nat)) (L : Lay α), (∀ p ∈ ps, p.1 ≠ c) → (steps ps L).1[c]? = L.1[c]?
  | [], _, _ => rfl
  | p :: ps, L, h => by
    show (steps ps (step1 L p)).1[c]? = _
    rw [steps_car ps (step1 L p) fun q hq => h q (List.mem_cons_of_mem _ hq), step1_car L p (h p (List.mem_cons_self ..))]
/-- what is left by the k-th of the visits is what its carrier had at first -/
theorem left_first {ps : List (Nat × Nat)} (nd : (ps.map (·.1)).Nodup) (L : Lay Int) {k : Nat} {p : Nat × Nat} (hp : ps[k]? = some p) : (steps (ps.take k) L).1.getD p.1 0 = L.1.getD p.1 0 := by
  rw [List.getD_eq_getElem?_getD, List.getD_eq_getElem?_getD, steps_car]
  intro q hq e
  obtain ⟨j, hj⟩ := List.mem_iff_getElem?.mp hq
  have hjk : j < k := by
    have := (List.getElem?_eq_some_iff.mp hj).1
    rw [List.length_take] at this
    omega
  rw [List.getElem?_take, if_pos hjk] at hj
  have e1 : (ps.map (·.1))[j]? = some q.1 := by rw [List.getElem?_map, hj]; rfl
  have e2 : (ps.map (·.1))[k]? = some p.1 := by rw [List.getElem?_map, hp]; rfl
  obtain ⟨a, ea⟩ := List.getElem?_eq_some_iff.mp e1
  obtain ⟨b, eb⟩ := List.getElem?_eq_some_iff.mp e2
  have := (List.getElem_inj nd).mp ((ea.trans e).trans eb.symm)
  omega
theorem lefN_no {ps : List (Nat × Nat)} (nd : (ps.map (·.1)).Nodup) {L : Lay Int} {x : Int} (h : ∀ p ∈ ps, x ≠ L.1.getD p.1 0) : ∀ k, lefN ps L x k = .non
  | 0 => rfl
  | k + 1 => by
    unfold lefN
    cases hp : ps[k]? with
    | none => exact lefN_no nd h k
    | some p =>
      show (if x = (steps (ps.take k) L).1.getD p.1 0 then V.int (p.2 : Nat) else lefN ps L x k) = .non
      rw [left_first nd L hp, if_neg (h p (List.mem_of_getElem? hp))]
      exact lefN_no nd h k
theorem lefN_yes {ps : List (Nat × Nat)} (nd : (ps.map (·.1)).Nodup) {L : Lay Int} {x : Int} {p : Nat × Nat} (hx : x = L.1.getD p.1 0) (un : ∀ q ∈ ps, x = L.1.getD q.1 0 → q.1 = p.1) : ∀ k j, ps[j]? = some p → j < k → k ≤ ps.length → lefN ps L x k = .int (p.2 : Nat)
  | 0, j, _, h, _ => by omega
  | k + 1, j, hj, h, hk => by
    unfold lefN
    have hq : ps[k]? = some ps[k] := List.getElem?_eq_getElem (by omega)
    rw [hq]
    show (if x = (steps (ps.take k) L).1.getD ps[k].1 0 then V.int (ps[k].2 : Nat) else lefN ps L x k) = _
    rw [left_first nd L hq]
    by_cases e : x = L.1.getD ps[k].1 0
    · rw [if_pos e]
      have e1 := un _ (List.mem_of_getElem? hq) e
      have a1 : (ps.map (·.1))[k]? = some ps[k].1 := by rw [List.getElem?_map, hq]; rfl
      have a2 : (ps.map (·.1))[j]? = some p.1 := by rw [List.getElem?_map, hj]; rfl
      obtain ⟨a, ea⟩ := List.getElem?_eq_some_iff.mp a1
      obtain ⟨b, eb⟩ := List.getElem?_eq_some_iff.mp a2
      have := (List.getElem_inj nd).mp ((ea.trans e1).trans eb.symm)
      subst this
      rw [hj] at hq
      rw [← Option.some.inj hq]
    · rw [if_neg e]
      have : j ≠ k := fun z => by
        rw [z, hq] at hj
        rw [Option.some.inj hj] at e
        exact e hx
      exact lefN_yes nd hx un k j hj (by omega) (by omega)
/-- the shelf that is visited from place q in a tick -/
def vsh (n : Nat) (rs : List Ro) (m : Int) (q : Nat) : Option Nat := if q < n then ((vis rs m).find? fun p => decide (p.1 = q)).map (·.2) else none
theorem lefV_vsh {zs : List Int} {rs : List Ro} (hr : ∀ r ∈ rs, r ≠ [] ∧ ∀ e ∈ r, okE zs.length e = true) (m : Int) {L : Lay Int} (hf : Fits rs.length zs L) (nd : (join L).Nodup) {q : Nat} {x : Int} (hq : (join L)[q]? = some x) : lefV (vis rs m) L x = tagV (vsh rs.length rs m q) := by
  have vn := vis_nd rs m
  have lt : ∀ p ∈ vis rs m, p.1 < L.1.length := fun p hp => by
    rw [hf.1]
    exact (vis_ok hr m p hp).1
  have at1 : ∀ p ∈ vis rs m, (join L)[p.1]? = some (L.1.getD p.1 0) := fun p hp => by
    have h := lt p hp
    unfold join
    rw [List.getElem?_append_left h, List.getElem?_eq_getElem h, List.getD_eq_getElem?_getD, List.getElem?_eq_getElem h]
    rfl
  have un : ∀ p ∈ vis rs m, x = L.1.getD p.1 0 → p.1 = q := fun p hp e => by
    have h := at1 p hp
    rw [← e] at h
    obtain ⟨a, ea⟩ := List.getElem?_eq_some_iff.mp h
    obtain ⟨b, eb⟩ := List.getElem?_eq_some_iff.mp hq
    exact (List.getElem_inj nd).mp (ea.trans eb.symm)
  unfold lefV vsh
  by_cases hn : q < rs.length
  · rw [if_pos hn]
    cases hfd : (vis rs m).find? fun p => decide (p.1 = q) with
    | none =>
      refine lefN_no vn (fun p hp e => ?_) _
      have := List.find?_eq_none.mp hfd p hp
      simp only [decide_eq_true_eq] at this
      exact this (un p hp e)
    | some p =>
      have hp := List.mem_of_find?_eq_some hfd
      have hpq : p.1 = q := by
        have := List.find?_some hfd
        simpa using this
      obtain ⟨j, hj⟩ := List.mem_iff_getElem?.mp hp
      have hx : x = L.1.getD p.1 0 := by
        have := at1 p hp
        rw [hpq, hq] at this
        rw [hpq]
        exact Option.some.inj this
      exact lefN_yes vn hx (fun r hr2 e => (un r hr2 e).trans hpq.symm) _ j hj (List.getElem?_eq_some_iff.mp hj).1 (Nat.le_refl _)
  · rw [if_neg hn]
    refine lefN_no vn (fun p hp e => hn ?_) _
    rw [← un p hp e]
    exact (vis_ok hr m p hp).1
/-- the shelf on which what was at place i is left in the tick behind k ticks -/
noncomputable def lft (zs : List Int) (rs : List Ro) (t : Int) (i k : Nat) : Option Nat := vsh rs.length rs (t + (k : Nat)) (pos zs rs t k i)
theorem leftV_at {zs : List Int} {rs : List Ro} (hv : Val zs rs) (t : Int) {i r : Nat} (hi : i < rs.length + sumN zs) : lefV (vis rs (t + (r : Nat))) (iL (run rs t r (idx rs.length zs))) (i : Nat) = tagV (vsh rs.length rs (t + (r : Nat)) (ap (fwd rs.length zs rs t r) i)) := by
  have ol := org_len rs.length zs rs t r
  have oe := org_eff rs.length zs rs t r
  have ej : join (iL (run rs t r (idx rs.length zs))) = iN (org rs.length zs rs t r) := join_map _ _
  have hfi : Fits rs.length zs (iL (run rs t r (idx rs.length zs))) := by
    rw [← run_iL]
    have e0 : iL (idx rs.length zs) = spl rs.length zs (iN (List.range (rs.length + sumN zs))) := (spl_iN _ _ _).symm
    rw [e0]
    exact run_fits _ _ _ (spl_fits (by unfold iN; rw [List.length_map, List.length_range]))
  have hlt := ap_lt (fwd_eff rs.length zs rs t r) (x := i) (by rw [fwd_len]; exact hi)
  rw [fwd_len] at hlt
  refine lefV_vsh hv.ro _ hfi ?_ ?_
  · rw [ej]
    unfold iN
    exact List.pairwise_map.mpr (oe.2.imp fun {a b} ne z => ne (by omega))
  · rw [ej]
    unfold iN
    rw [List.getElem?_map, ap_at (by rw [ol]; exact hlt)]
    have : ap (org rs.length zs rs t r) (ap (fwd rs.length zs rs t r) i) = i := ap_inv oe (by rw [ol]; exact hi)
    rw [this]
    rfl
/-! ### journeys -/
theorem jl_eq {F : Nat → Nat → V} {G : Nat → V} {e : List Nat} {c i : Nat} (h : ∀ m r, r < c → F r (it e m i) = G (m * c + r)) : ∀ n, ((List.range n).flatMap fun m => (List.range c).map fun r => F r (it e m i)) = (List.range (n * c)).map G
  | 0 => by
    rw [Nat.zero_mul]
    rfl
  | n + 1 => by
    rw [List.range_succ, List.flatMap_append, jl_eq h n, Nat.succ_mul, List.range_add, List.map_append]
    congr 1
    rw [List.flatMap_cons, List.flatMap_nil, List.append_nil, List.map_map]
    exact List.map_congr_left fun r hr => h n r (List.mem_range.mp hr)
section
variable {zs : List Int} {rs : List Ro} (hv : Val zs rs) (t : Int) {i : Nat} (hi : i < rs.length + sumN zs)
include hv hi
theorem stops_j (n : Nat) : ((List.range n).flatMap fun m => (stopV rs.length zs rs t (lc rs) (it (wh rs.length zs rs t) m i)).drop 1) = (List.range (n * lc rs)).map fun k => V.int (pos zs rs t (k + 1) i : Nat) := by
  rw [← jl_eq (F := fun r a => V.int (ap (fwd rs.length zs rs t (r + 1)) a : Nat)) (e := wh rs.length zs rs t) (i := i) (fun m r _ => ?_) n]
  · congr 1
    funext m
    refine List.ext_getElem? fun k => ?_
    rw [List.getElem?_drop]
    unfold stopV
    rw [List.getElem?_map, List.getElem?_map]
    by_cases hk : k < lc rs
    · rw [List.getElem?_range (by omega), List.getElem?_range hk, Nat.add_comm 1 k]
      rfl
    · rw [List.getElem?_eq_none (by rw [List.length_range]; omega), List.getElem?_eq_none (by rw [List.length_range]; omega)]
      rfl
  · show V.int (ap (fwd rs.length zs rs t (r + 1)) (it (wh rs.length zs rs t) m i) : Nat) = V.int (pos zs rs t (m * lc rs + r + 1) i : Nat)
    rw [Nat.add_assoc, pos_lap zs t hv.rne hv.lc1 hi]
theorem lefts_j (n : Nat) : ((List.range n).flatMap fun m => leftV rs.length zs rs t (lc rs) (it (wh rs.length zs rs t) m i)) = (List.range (n * lc rs)).map fun k => tagV (lft zs rs t i k) := by
  have wl := wh_len rs.length zs rs t
  have we := wh_eff rs.length zs rs t
  rw [← jl_eq (F := fun r a => lefV (vis rs (t + (r : Nat))) (iL (run rs t r (idx rs.length zs))) (a : Nat)) (e := wh rs.length zs rs t) (i := i) (fun m r _ => ?_) n]
  · rfl
  · have hm := it_lt we (k := m) (x := i) (by omega)
    rw [wl] at hm
    rw [leftV_at hv t hm]
    unfold lft vsh
    rw [pos_lap zs t hv.rne hv.lc1 hi, vis_mod hv.rne (m := t + (r : Nat)) (m' := t + ((m * lc rs + r : Nat) : Int)) ⟨-(m : Int), by
      rw [Int.natCast_add, Int.natCast_mul, Int.mul_neg, Int.mul_comm (lc rs : Int)]
      omega⟩]
theorem pos_per {W : Nat} (h1 : per (wh rs.length zs rs t) i ∣ W) (k : Nat) : pos zs rs t (W * lc rs + k) i = pos zs rs t k i := by
  have wl := wh_len rs.length zs rs t
  have we := wh_eff rs.length zs rs t
  have dm := Nat.div_add_mod k (lc rs)
  have e1 : W * lc rs + k = (k / lc rs + W) * lc rs + k % lc rs := by
    rw [Nat.add_mul, Nat.mul_comm (k / lc rs)]
    omega
  have e2 : k = k / lc rs * lc rs + k % lc rs := by
    rw [Nat.mul_comm]
    omega
  conv => rhs; rw [e2]
  rw [e1, pos_lap zs t hv.rne hv.lc1 hi, pos_lap zs t hv.rne hv.lc1 hi, it_add, (it_eq_iff we (by rw [wl]; exact hi) W).mpr h1]
theorem lft_per {W : Nat} (h1 : per (wh rs.length zs rs t) i ∣ W) (k : Nat) : lft zs rs t i (W * lc rs + k) = lft zs rs t i k := by
  unfold lft vsh
  rw [pos_per hv t hi h1, vis_mod hv.rne (m := t + ((W * lc rs + k : Nat) : Int)) (m' := t + (k : Nat)) ⟨(W : Int), by
    rw [Int.natCast_add, Int.natCast_mul, Int.mul_comm (lc rs : Int)]
    omega⟩]
theorem pos_zero : pos zs rs t 0 i = i := by
  have := pos_lap zs t hv.rne hv.lc1 (m := 0) (r := 0) hi
  rw [Nat.zero_mul] at this
  rw [this, fwd_zero]
  exact range_ap hi
end
end Sv


set_option maxHeartbeats 4000000
namespace Sv
open PySem PySem.Spec PyProof.Rows L2
section
variable {P : Program} {w : World} {K : PySem.W.Frag} {mg : Str → Option Value} {base : Heap}
/-! ### shelves and carriers that are there -/
def spCheckShelf (K : PySem.W.Frag) (CU : Addr) : Sp := fun vs H Q E => ∃ (p : Addr) (zs : List Int) (rs : List Ro) (x : Int), vs = [.ref p, .int x] ∧ PlanAt K H p zs rs ∧ Val zs rs ∧ ((0 ≤ x ∧ x < (zs.length : Nat)) → Q .non H) ∧ (¬ (0 ≤ x ∧ x < (zs.length : Nat)) → E (.ref CU) none H)
def spCheckCarrier (K : PySem.W.Frag) (CU : Addr) : Sp := fun vs H Q E => ∃ (p : Addr) (zs : List Int) (rs : List Ro) (x : Int), vs = [.ref p, .int x] ∧ PlanAt K H p zs rs ∧ Val zs rs ∧ ((0 ≤ x ∧ x < (rs.length : Nat)) → Q .non H) ∧ (¬ (0 ≤ x ∧ x < (rs.length : Nat)) → E (.ref CU) none H)
/-! ### journeys of one parcel -/
noncomputable def stJ (zs : List Int) (rs : List Ro) (t : Int) (i W : Nat) : List V := (List.range W).map fun k => .int (pos zs rs t (k + 1) i : Nat)
def spStopsJ (K : PySem.W.Frag) (C : Addr) : Sp := fun vs H Q _ => ∃ (la : Addr) (zs : List Int) (rs : List Ro) (t : Int) (i : Nat), vs = [.ref la, .int (i : Nat)] ∧ Val zs rs ∧ LapAt H C la zs rs t ∧ i < rs.length + sumN zs ∧ NewLv H (stJ zs rs t i (per (wh rs.length zs rs t) i * lc rs)) Q
noncomputable def leJ (zs : List Int) (rs : List Ro) (t : Int) (i W : Nat) : List V := (List.range W).map fun k => tagV (lft zs rs t i k)
def spLeftsJ (K : PySem.W.Frag) (C : Addr) : Sp := fun vs H Q _ => ∃ (la : Addr) (zs : List Int) (rs : List Ro) (t : Int) (i : Nat), vs = [.ref la, .int (i : Nat)] ∧ Val zs rs ∧ LapAt H C la zs rs t ∧ i < rs.length + sumN zs ∧ NewLv H (leJ zs rs t i (per (wh rs.length zs rs t) i * lc rs)) Q
end
end Sv


set_option maxHeartbeats 4000000
namespace Sv
/-! ### what happens for the n-th time -/
theorem flt_len (f : Nat → Bool) (W : Nat) : ((List.range W).filter f).length = cntM f W := rfl
theorem cntM_succ (f : Nat → Bool) (n : Nat) : cntM f (n + 1) = cntM f n + (if f n = true then 1 else 0) := by
  unfold cntM
  rw [List.range_succ, List.filter_append, List.length_append]
  congr 1
  cases h : f n with
  | true => rw [List.filter_cons_of_pos h]; rfl
  | false => rw [List.filter_cons_of_neg (by rw [h]; exact Bool.false_ne_true)]; rfl
theorem cntM_mono (f : Nat → Bool) {a b : Nat} (h : a ≤ b) : cntM f a ≤ cntM f b := by
  obtain ⟨d, rfl⟩ := Nat.exists_eq_add_of_le h
  rw [cntM_add]
  exact Nat.le_add_right _ _
theorem cntM_le (f : Nat → Bool) (n : Nat) : cntM f n ≤ n := by
  unfold cntM
  have := List.length_filter_le f (List.range n)
  rwa [List.length_range] at this
theorem flt_at (f : Nat → Bool) : ∀ W r m, ((List.range W).filter f)[r]? = some m → m < W ∧ f m = true ∧ cntM f m = r
  | 0, r, m, h => by cases h
  | W + 1, r, m, h => by
    rw [List.range_succ, List.filter_append] at h
    by_cases hr : r < ((List.range W).filter f).length
    · rw [List.getElem?_append_left hr] at h
      obtain ⟨a, b, c⟩ := flt_at f W r m h
      exact ⟨by omega, b, c⟩
    · rw [List.getElem?_append_right (by omega)] at h
      cases hf : f W with
      | false =>
        rw [List.filter_cons_of_neg (by rw [hf]; exact Bool.false_ne_true)] at h
        cases h
      | true =>
        rw [List.filter_cons_of_pos hf] at h
        have hl := (List.getElem?_eq_some_iff.mp h).1
        rw [List.length_cons, List.filter_nil, List.length_nil] at hl
        have e0 : r - ((List.range W).filter f).length = 0 := by omega
        rw [e0] at h
        have em : W = m := Option.some.inj h
        rw [← em]
        exact ⟨by omega, hf, by rw [← flt_len]; omega⟩
theorem cntM_uniq {f : Nat → Bool} {a b : Nat} (ha : f a = true) (hb : f b = true) (e : cntM f a = cntM f b) : a = b := by
  rcases Nat.lt_trichotomy a b with h | h | h
  · have h1 := cntM_succ f a
    rw [if_pos ha] at h1
    have h2 := cntM_mono f (show a + 1 ≤ b from h)
    omega
  · exact h
  · have h1 := cntM_succ f b
    rw [if_pos hb] at h1
    have h2 := cntM_mono f (show b + 1 ≤ a from h)
    omega
/-- the n-th time, out of one round -/
theorem nth_round {f : Nat → Bool} {W : Nat} (per : ∀ k, f (W + k) = f k) (n : Nat) {m : Nat} (h : ((List.range W).filter f)[n % cntM f W]? = some m) : f (n / cntM f W * W + m) = true ∧ cntM f (n / cntM f W * W + m) = n := by
  obtain ⟨h1, h2, h3⟩ := flt_at f W _ m h
  have pf : ∀ d : Nat, f (d * W + m) = f m := by
    intro d
    induction d with
    | zero => rw [Nat.zero_mul, Nat.zero_add]
    | succ d ih =>
      rw [Nat.succ_mul, show d * W + W + m = W + (d * W + m) by omega, per, ih]
  refine ⟨by rw [pf]; exact h2, ?_⟩
  rw [cntM_per per, h3]
  have := Nat.div_add_mod n (cntM f W)
  rw [Nat.mul_comm] at this
  exact this
theorem cnt_none {f : Nat → Bool} {W : Nat} (hW : 0 < W) (per : ∀ k, f (W + k) = f k) (h : cntM f W = 0) : ∀ k, f k = false := by
  refine none_in hW per fun k hk => ?_
  cases e : f k with
  | false => rfl
  | true =>
    have h1 := cntM_succ f k
    rw [if_pos e] at h1
    have h2 := cntM_mono f (show k + 1 ≤ W from hk)
    omega
end Sv


set_option maxHeartbeats 4000000
namespace Sv
open PySem PySem.Spec PyProof.Rows L2
/-! ### counted ticks -/
theorem eqV_tag (o : Option Nat) (y : Int) : eqV (tagV o) (.int y) = decide (tagV o = .int y) := by
  cases o with
  | none => rfl
  | some n =>
    show eqV (.int (n : Nat)) (.int y) = decide (V.int (n : Nat) = .int y)
    rw [eqV_int]
    exact decide_eq_decide.mpr ⟨fun h => by rw [h], fun h => V.int.inj h⟩
theorem flat_tags (F : Nat → Option Nat) (W : Nat) : ((List.range W).map fun k => tagV (F k)).all flatV = true := by
  rw [List.all_map]
  exact List.all_eq_true.mpr fun k _ => by
    show flatV (tagV (F k)) = true
    cases F k <;> rfl
theorem flat_nats (F : Nat → Nat) (W : Nat) : ((List.range W).map fun k => V.int (F k : Nat)).all flatV = true := by
  rw [List.all_map]
  exact List.all_eq_true.mpr fun k _ => rfl
theorem cnt_row {G : Nat → V} {f : Nat → Bool} {y : V} (h : ∀ k, eqV (G k) y = f k) (W : Nat) : cntV y ((List.range W).map G) = cntM f W := by
  unfold cntV cntM
  rw [List.countP_map, List.countP_eq_length_filter]
  congr 1
  exact List.filter_congr fun a _ => h a
theorem cnt_ticks {G : Nat → V} {f : Nat → Bool} {y : V} (h : ∀ k, eqV (G k) y = f k) {W : Nat} (W0 : 0 < W) (per : ∀ k, f (W + k) = f k) (c : Nat) :
    c / ((List.range W).map G).length * cntV y ((List.range W).map G) + cntV y (((List.range W).map G).take (c % ((List.range W).map G).length)) = cntM f c := by
  rw [List.length_map, List.length_range, ← List.map_take, List.take_range, Nat.min_eq_left (Nat.le_of_lt (Nat.mod_lt _ W0)), cnt_row h, cnt_row h, ← cntM_per per (c % W) (c / W), Nat.mul_comm, Nat.div_add_mod]
section
variable {zs : List Int} {rs : List Ro} (hv : Val zs rs) (t : Int) {i : Nat} (hi : i < rs.length + sumN zs)
theorem pos_lt (hv : Val zs rs) (t : Int) {i : Nat} (hi : i < rs.length + sumN zs) (k : Nat) : pos zs rs t k i < rs.length + sumN zs := by
  have := ap_lt (effT_eff rs.length zs rs t (k : Nat)) (x := i) (by rw [effT_len]; exact hi)
  rwa [effT_len] at this
end
/-- in the tick behind k ticks it is left on shelf y -/
noncomputable def lfB (zs : List Int) (rs : List Ro) (t : Int) (i : Nat) (y : Int) (k : Nat) : Bool := decide (tagV (lft zs rs t i k) = .int y)
/-- after k + 1 ticks it is at the place y -/
noncomputable def poB (zs : List Int) (rs : List Ro) (t : Int) (i : Nat) (y : Int) (k : Nat) : Bool := decide (((pos zs rs t (k + 1) i : Nat) : Int) = y)
/-- after k + 1 ticks it is on shelf y -/
noncomputable def tgB (zs : List Int) (rs : List Ro) (t : Int) (i : Nat) (y : Int) (k : Nat) : Bool := decide (tagV (tag zs rs.length (pos zs rs t (k + 1) i)) = .int y)
noncomputable def tgJ (zs : List Int) (rs : List Ro) (t : Int) (i W : Nat) : List V := (List.range W).map fun k => tagV (tag zs rs.length (pos zs rs t (k + 1) i))
section
variable {zs : List Int} {rs : List Ro} (hv : Val zs rs) (t : Int) {i : Nat} (hi : i < rs.length + sumN zs) (y : Int)
include hv hi
theorem lfB_per (k : Nat) : lfB zs rs t i y (per (wh rs.length zs rs t) i * lc rs + k) = lfB zs rs t i y k := by
  unfold lfB
  rw [lft_per hv t hi (Nat.dvd_refl _)]
theorem poB_per (k : Nat) : poB zs rs t i y (per (wh rs.length zs rs t) i * lc rs + k) = poB zs rs t i y k := by
  unfold poB
  rw [Nat.add_assoc, pos_per hv t hi (Nat.dvd_refl _)]
theorem tgB_per (k : Nat) : tgB zs rs t i y (per (wh rs.length zs rs t) i * lc rs + k) = tgB zs rs t i y k := by
  unfold tgB
  rw [Nat.add_assoc, pos_per hv t hi (Nat.dvd_refl _)]
end
/-- the errors of who asks for a parcel -/
def PreE (C CS CU : Addr) (zs : List Int) (rs : List Ro) (t x : Int) (L : Lay Int) (H : Hp) (E : XK) : Prop := BadE C zs rs H E ∧
  (bad zs rs = none → ¬ StOk zs rs t L → ∀ H', Same H H' → E (.ref CS) none H') ∧ (bad zs rs = none → StOk zs rs t L → x ∉ join L → ∀ H', Same H H' → E (.ref CU) none H')
section
variable {P : Program} {w : World} {K : PySem.W.Frag} {mg : Str → Option Value} {base : Heap}
def spTimesLeft (K : PySem.W.Frag) (C CS CU CV CC : Addr) : Sp := fun vs H Q E => ∃ (p s : Addr) (zs : List Int) (rs : List Ro) (t x y c : Int) (L : Lay Int), vs = [.ref p, .ref s, .int x, .int y, .int c] ∧ PlanAt K H p zs rs ∧ Small zs rs ∧ StateAt K H s t L ∧ PreE C CS CU zs rs t x L H E ∧
  (bad zs rs = none → StOk zs rs t L → x ∈ join L → ¬ (0 ≤ y ∧ y < (zs.length : Nat)) → ∀ H', Same H H' → E (.ref CV) none H') ∧
  (bad zs rs = none → StOk zs rs t L → x ∈ join L → (0 ≤ y ∧ y < (zs.length : Nat)) → ¬ TkOk c → ∀ H', Same H H' → E (.ref CC) none H') ∧
  (bad zs rs = none → StOk zs rs t L → (0 ≤ y ∧ y < (zs.length : Nat)) → TkOk c → ∀ i : Nat, (join L)[i]? = some x → ∀ H', Same H H' → Q (.int (cntM (lfB zs rs t i y) c.toNat : Nat)) H')
def spTicksCarried (K : PySem.W.Frag) (C CS CU CV CC : Addr) : Sp := fun vs H Q E => ∃ (p s : Addr) (zs : List Int) (rs : List Ro) (t x y c : Int) (L : Lay Int), vs = [.ref p, .ref s, .int x, .int y, .int c] ∧ PlanAt K H p zs rs ∧ Small zs rs ∧ StateAt K H s t L ∧ PreE C CS CU zs rs t x L H E ∧
  (bad zs rs = none → StOk zs rs t L → x ∈ join L → ¬ (0 ≤ y ∧ y < (rs.length : Nat)) → ∀ H', Same H H' → E (.ref CV) none H') ∧
  (bad zs rs = none → StOk zs rs t L → x ∈ join L → (0 ≤ y ∧ y < (rs.length : Nat)) → ¬ TkOk c → ∀ H', Same H H' → E (.ref CC) none H') ∧
  (bad zs rs = none → StOk zs rs t L → (0 ≤ y ∧ y < (rs.length : Nat)) → TkOk c → ∀ i : Nat, (join L)[i]? = some x → ∀ H', Same H H' → Q (.int (cntM (poB zs rs t i y) c.toNat : Nat)) H')
def nTo : List Str := ["plan", "state", "parcel", "shelf", "count", "start", "shelves", "row", "stop"]
def spTicksOnShelf (K : PySem.W.Frag) (C CS CU CV CC : Addr) : Sp := fun vs H Q E => ∃ (p s : Addr) (zs : List Int) (rs : List Ro) (t x y c : Int) (L : Lay Int), vs = [.ref p, .ref s, .int x, .int y, .int c] ∧ PlanAt K H p zs rs ∧ Small zs rs ∧ StateAt K H s t L ∧ PreE C CS CU zs rs t x L H E ∧
  (bad zs rs = none → StOk zs rs t L → x ∈ join L → ¬ (0 ≤ y ∧ y < (zs.length : Nat)) → ∀ H', Same H H' → E (.ref CV) none H') ∧
  (bad zs rs = none → StOk zs rs t L → x ∈ join L → (0 ≤ y ∧ y < (zs.length : Nat)) → ¬ TkOk c → ∀ H', Same H H' → E (.ref CC) none H') ∧
  (bad zs rs = none → StOk zs rs t L → (0 ≤ y ∧ y < (zs.length : Nat)) → TkOk c → ∀ i : Nat, (join L)[i]? = some x → ∀ H', Same H H' → Q (.int (cntM (tgB zs rs t i y) c.toNat : Nat)) H')
end
end Sv


set_option maxHeartbeats 4000000
namespace Sv
open PySem PySem.Spec PyProof.Rows L2
/-! ### left for the n-th time -/
def NthV (f : Nat → Bool) (n : Int) (v : V) : Prop := (v = .non ∧ ∀ k, f k = false) ∨ ∃ m : Nat, v = .int ((m : Nat) + 1 : Int) ∧ f m = true ∧ (cntM f m : Int) = n - 1
def StV (F : Nat → Option Nat) (n : Nat) (v : V) : Prop := ∃ m : Nat, (F m).isSome = true ∧ cntM (fun k => (F k).isSome) m = n ∧ v = tagV (F m)
def StampsV (F : Nat → Option Nat) (c : Nat) (xs : List V) : Prop := (xs = [] ∧ ∀ k, (F k).isSome = false) ∨ xs.length = c ∧ ∀ j z, xs[j]? = some z → StV F j z
theorem tag_scal (o : Option Nat) (y : Int) : scal (tagV o) (.int y) = true := by cases o <;> rfl
noncomputable def tkJ (zs : List Int) (rs : List Ro) (t : Int) (i : Nat) (y : Int) (W : Nat) : List V := ((List.range W).filter (lfB zs rs t i y)).map fun k => V.int ((k : Nat) + 1 : Int)
theorem tkJ_len (zs : List Int) (rs : List Ro) (t : Int) (i : Nat) (y : Int) (W : Nat) : (tkJ zs rs t i y W).length = cntM (lfB zs rs t i y) W := by
  unfold tkJ
  rw [List.length_map, flt_len]
noncomputable def anB (zs : List Int) (rs : List Ro) (t : Int) (i : Nat) (k : Nat) : Bool := (lft zs rs t i k).isSome
noncomputable def anJ (zs : List Int) (rs : List Ro) (t : Int) (i W : Nat) : List V := ((List.range W).filter (anB zs rs t i)).map fun k => tagV (lft zs rs t i k)
theorem anJ_len (zs : List Int) (rs : List Ro) (t : Int) (i W : Nat) : (anJ zs rs t i W).length = cntM (anB zs rs t i) W := by
  unfold anJ
  rw [List.length_map, flt_len]
theorem flt_yes {f : Nat → Bool} {k : Nat} (h : f k = true) : (List.range (k + 1)).filter f = (List.range k).filter f ++ [k] := by
  rw [List.range_succ, List.filter_append, List.filter_cons_of_pos h]
  rfl
theorem flt_no {f : Nat → Bool} {k : Nat} (h : f k = false) : (List.range (k + 1)).filter f = (List.range k).filter f := by
  rw [List.range_succ, List.filter_append, List.filter_cons_of_neg (by rw [h]; exact Bool.false_ne_true)]
  exact List.append_nil _
section
variable {zs : List Int} {rs : List Ro} {t : Int} {i k : Nat} {y : Int}
theorem tkJ_yes (h : lfB zs rs t i y k = true) : tkJ zs rs t i y k ++ [V.int ((k : Nat) + 1 : Int)] = tkJ zs rs t i y (k + 1) := by
  unfold tkJ
  rw [flt_yes h, List.map_append]
  rfl
theorem tkJ_no (h : lfB zs rs t i y k = false) : tkJ zs rs t i y k = tkJ zs rs t i y (k + 1) := by
  unfold tkJ
  rw [flt_no h]
theorem anJ_yes {b : Nat} (h : lft zs rs t i k = some b) : anJ zs rs t i k ++ [tagV (some b)] = anJ zs rs t i (k + 1) := by
  unfold anJ
  rw [flt_yes (by unfold anB; rw [h]; rfl), List.map_append]
  show _ = _ ++ [tagV (lft zs rs t i k)]
  rw [h]
theorem anJ_no (h : lft zs rs t i k = none) : anJ zs rs t i k = anJ zs rs t i (k + 1) := by
  unfold anJ
  rw [flt_no (by unfold anB; rw [h]; rfl)]
theorem anB_per (hv : Val zs rs) (t : Int) {i : Nat} (hi : i < rs.length + sumN zs) (k : Nat) : anB zs rs t i (per (wh rs.length zs rs t) i * lc rs + k) = anB zs rs t i k := by
  unfold anB
  rw [lft_per hv t hi (Nat.dvd_refl _)]
theorem lft_tm {W : Nat} (h : ∀ k, lft zs rs t i (W + k) = lft zs rs t i k) (d m : Nat) : lft zs rs t i (d * W + m) = lft zs rs t i m := by
  induction d with
  | zero => rw [Nat.zero_mul, Nat.zero_add]
  | succ d ih => rw [Nat.succ_mul, show d * W + W + m = W + (d * W + m) by omega, h, ih]
end
section
variable {P : Program} {w : World} {K : PySem.W.Frag} {mg : Str → Option Value} {base : Heap}
def nNl : List Str := ["plan", "state", "parcel", "shelf", "number", "start", "lefts", "ticks", "rounds", "rest", "step", "left"]
def spNthLeft (K : PySem.W.Frag) (C CS CU CV CC : Addr) : Sp := fun vs H Q E => ∃ (p s : Addr) (zs : List Int) (rs : List Ro) (t x y c : Int) (L : Lay Int), vs = [.ref p, .ref s, .int x, .int y, .int c] ∧ PlanAt K H p zs rs ∧ Small zs rs ∧ StateAt K H s t L ∧ PreE C CS CU zs rs t x L H E ∧
  (bad zs rs = none → StOk zs rs t L → x ∈ join L → ¬ (0 ≤ y ∧ y < (zs.length : Nat)) → ∀ H', Same H H' → E (.ref CV) none H') ∧
  (bad zs rs = none → StOk zs rs t L → x ∈ join L → (0 ≤ y ∧ y < (zs.length : Nat)) → ¬ NrOk c → ∀ H', Same H H' → E (.ref CC) none H') ∧
  (bad zs rs = none → StOk zs rs t L → (0 ≤ y ∧ y < (zs.length : Nat)) → NrOk c → ∀ i : Nat, (join L)[i]? = some x → ∀ H' v, Same H H' → NthV (lfB zs rs t i y) c v → Q v H')
def spStampsJ (K : PySem.W.Frag) : Sp := fun vs H Q _ => ∃ (p s : Addr) (zs : List Int) (rs : List Ro) (t : Int) (L : Lay Int) (i : Nat), vs = [.ref p, .ref s, .int (i : Nat)] ∧ PlanAt K H p zs rs ∧ Val zs rs ∧ StateAt K H s t L ∧ i < rs.length + sumN zs ∧ NewLv H (anJ zs rs t i (per (wh rs.length zs rs t) i * lc rs)) Q
def nSm : List Str := ["plan", "state", "parcel", "count", "start", "shelves", "index"]
def spStamps (K : PySem.W.Frag) (C CS CU CC : Addr) : Sp := fun vs H Q E => ∃ (p s : Addr) (zs : List Int) (rs : List Ro) (t x c : Int) (L : Lay Int), vs = [.ref p, .ref s, .int x, .int c] ∧ PlanAt K H p zs rs ∧ Small zs rs ∧ StateAt K H s t L ∧ PreE C CS CU zs rs t x L H E ∧
  (bad zs rs = none → StOk zs rs t L → x ∈ join L → ¬ (0 ≤ c ∧ c ≤ 200) → ∀ H', Same H H' → E (.ref CC) none H') ∧
  (bad zs rs = none → StOk zs rs t L → (0 ≤ c ∧ c ≤ 200) → ∀ i : Nat, (join L)[i]? = some x → ∀ H' f xs, Same H H' → H f = none → H' f = some (.lst xs) → StampsV (lft zs rs t i) c.toNat xs → Q (.ref f) H')
def spStampAt (K : PySem.W.Frag) (C CS CU CC : Addr) : Sp := fun vs H Q E => ∃ (p s : Addr) (zs : List Int) (rs : List Ro) (t x c : Int) (L : Lay Int), vs = [.ref p, .ref s, .int x, .int c] ∧ PlanAt K H p zs rs ∧ Small zs rs ∧ StateAt K H s t L ∧ PreE C CS CU zs rs t x L H E ∧
  (bad zs rs = none → StOk zs rs t L → x ∈ join L → ¬ NrOk c → ∀ H', Same H H' → E (.ref CC) none H') ∧
  (bad zs rs = none → StOk zs rs t L → NrOk c → ∀ i : Nat, (join L)[i]? = some x → ∀ H' v, Same H H' → (v = .non ∧ (∀ k, (lft zs rs t i k).isSome = false) ∨ StV (lft zs rs t i) (c - 1).toNat v) → Q v H')
end
end Sv


set_option maxHeartbeats 4000000
namespace Sv
open PySem PySem.Spec PyProof.Rows L2
section
variable {P : Program} {w : World} {K : PySem.W.Frag} {mg : Str → Option Value} {base : Heap}
/-! ### arrival -/
theorem pos0 {zs : List Int} {rs : List Ro} (hv : Val zs rs) (t : Int) {i : Nat} (hi : i < rs.length + sumN zs) : pos zs rs t 0 i = i := pos_zero hv t hi
def spArrival (K : PySem.W.Frag) (C CS CU : Addr) : Sp := fun vs H Q E => ∃ (p s u : Addr) (zs : List Int) (rs : List Ro) (t x : Int) (L : Lay Int) (j : Nat) (pl : List V), vs = [.ref p, .ref s, .int x, .ref u] ∧ PlanAt K H p zs rs ∧ Small zs rs ∧ StateAt K H s t L ∧ SqT K H u pl ∧ (placesV zs rs.length)[j]? = some pl ∧ PreE C CS CU zs rs t x L H E ∧
  (bad zs rs = none → StOk zs rs t L → ∀ i : Nat, (join L)[i]? = some x → ∀ H' v, Same H H' → FirstV (fun k => decide (pos zs rs t k i = j)) v → Q v H')
end
end Sv


set_option maxHeartbeats 4000000
namespace Sv
open PySem PySem.Spec PyProof.Rows L2
section
variable {P : Program} {w : World} {K : PySem.W.Frag} {mg : Str → Option Value} {base : Heap}
/-! ### follows_by -/
def spCycleFromF (K : PySem.W.Frag) : Sp := fun vs H Q _ => ∃ (a : Addr) (e : List Nat) (s : Nat), vs = [.ref a, .int (s : Nat)] ∧ SqT K H a (vN e) ∧ Eff e ∧ s < e.length ∧ e.length ≤ 1000 ∧ NewF H (cyc e s) Q
/-- by how many ticks the parcel from place i follows the one from place j -/
def FolV (zs : List Int) (rs : List Ro) (t : Int) (i j : Nat) (v : V) : Prop := (∃ k : Nat, v = .int (lc rs * k : Nat) ∧ k < per (wh rs.length zs rs t) i ∧ it (wh rs.length zs rs t) k i = j) ∨ (v = .non ∧ ∀ k, it (wh rs.length zs rs t) k i ≠ j)
def spFollows (K : PySem.W.Frag) (C CS CU : Addr) : Sp := fun vs H Q E => ∃ (p s : Addr) (zs : List Int) (rs : List Ro) (t x y : Int) (L : Lay Int), vs = [.ref p, .ref s, .int x, .int y] ∧ PlanAt K H p zs rs ∧ Small zs rs ∧ StateAt K H s t L ∧ PreE C CS CU zs rs t x L H E ∧
  (bad zs rs = none → StOk zs rs t L → x ∈ join L → y ∉ join L → ∀ H', Same H H' → E (.ref CU) none H') ∧
  (bad zs rs = none → StOk zs rs t L → ∀ i j : Nat, (join L)[i]? = some x → (join L)[j]? = some y → ∀ H' v, Same H H' → FolV zs rs t i j v → Q v H')
end
end Sv


set_option maxHeartbeats 4000000
namespace Sv
open PySem PySem.Spec PyProof.Rows L2
/-! ### initial_state -/
theorem parc_at {n i : Nat} (h : i < n) : (parc n)[i]? = some (1 + (i : Nat) : Int) := by
  unfold parc
  rw [List.getElem?_map, List.getElem?_range h]
  rfl
section
variable {P : Program} {w : World} {K : PySem.W.Frag} {mg : Str → Option Value} {base : Heap}
theorem scInitial : FnScope ["plan"] ["plan"] (defScope sInitial) := ⟨rfl, rfl, rfl, by decide +kernel, rfl, by decide +kernel, by decide +kernel⟩
def spInit0 (K : PySem.W.Frag) (C : Addr) : Sp := fun vs H Q E => ∃ (p : Addr) (zs : List Int) (rs : List Ro), vs = [.ref p] ∧ PlanAt K H p zs rs ∧ Small zs rs ∧ BadE C zs rs H E ∧
  (bad zs rs = none → NewSt K H 0 (spl rs.length zs (parc (rs.length + sumN zs))) Q)
theorem ok_initial (T : Bd P K mg) : FnOk P w K mg base (L2.CX P w) 5 T.aInitial T.dInitial ["plan"] (spInit0 K T.C) := by
  have GP : FnOk P w K mg base (L2.CX P w) 4 T.aCheckPlan T.dCheckPlan ["plan"] (spCheckPlan K T.C) := ok_checkPlan T
  have GN : FnOk P w K mg base CX0 1 T.aNumPlaces T.dNumPlaces ["plan"] (spNum K) := ok_num T
  have GS : FnOk P w K mg base CX0 2 T.aStateOf T.dStateOf ["plan", "time", "parcels"] (spStateOf K) := ok_stateOf T
  refine T.Initial.F.okX scInitial (fun vs H Q E h => ?_) (fun cdv A outer s H vs Q E hr h => ?_)
  · obtain ⟨p, zs, rs, rfl, _⟩ := h
    rfl
  · obtain ⟨p, zs, rs, rfl, hp, hs, q1, q2⟩ := h
    refine ⟨_, (pss_cons (ps_expr (pe_call (E := E) GP (hr.mono (by decide)) (by rfl) T.CheckPlan.g T.CheckPlan.F.kp T.CheckPlan.b .nil (passes_call (takes_of rfl rfl rfl rfl) fun _ _ _ _ h => h) (pa_cons (pv 0) pa_nil)))
      (pss_one (ps_ret (pe_call (E := E0) GS (hr.mono (by decide)) (by rfl) T.StateOf.g T.StateOf.F.kp T.StateOf.b .nil pass0 (pa_cons (pv 0) (pa_cons pe_int (pa_cons (pe_listRg rfl (by rfl) T.bt.list (prg_2 (by rfl) T.bt.range pe_int (pe_op op_add (pe_call (E := E0) GN (hr.mono (by decide)) (by rfl) T.NumPlaces.g T.NumPlaces.F.kp T.NumPlaces.b .nil pass0 (pa_cons (pv 0) pa_nil)) pe_int))) pa_nil))))))), ?_⟩
    refine ⟨.ref p, rfl, p, zs, rs, rfl, hp, hs, fun e1 H1 sm1 => ?_, q1⟩
    have hv := val_of e1
    have n120 := hv.num120
    have b62 : (1000 : Int) < 2 ^ 62 := by decide
    have b24 : (1000 : Nat) < 2 ^ 24 := by decide
    refine ⟨.ref p, rfl, .ref p, rfl, p, zs, rs, rfl, hp.same sm1, fun z hz => (hv.z2 z hz).1, (rs.length + sumN zs : Nat), 1, rfl, rfl, 1, _, rfl, rfl, ⟨by omega, by omega, by omega, by omega, by omega⟩, fun c hc => ?_⟩
    rw [rgV_parc]
    have sm2 := sm1.trans (same_upd (o := .lst ((parc (rs.length + sumN zs)).map V.int)) hc)
    exact ⟨p, c, zs, rs, 0, parc (rs.length + sumN zs), rfl, hp.same sm2, hv, .inl (.inl upd_same), by rw [parc_len]; omega, (q2 e1).imp sm2⟩
end
end Sv


set_option maxHeartbeats 4000000
namespace Sv
open PySem PySem.Spec PyProof.Rows L2
/-! ### a hundred and twenty ticks tell the pattern -/
def rowsN (rs : List Ro) (n : Nat) : List (List (Nat × Int)) := (List.range n).map fun (i : Nat) => prs rs (i : Int) rs.length
theorem rowsN_len (rs : List Ro) (n : Nat) : (rowsN rs n).length = n := by unfold rowsN; simp
theorem rowsN_at {rs : List Ro} {n i : Nat} (h : i < n) : (rowsN rs n)[i]? = some (prs rs (i : Int) rs.length) := by
  unfold rowsN
  rw [List.getElem?_map, List.getElem?_range h]
  rfl
theorem rowsN_succ (rs : List Ro) (n : Nat) : rowsN rs (n + 1) = rowsN rs n ++ [prs rs (n : Int) rs.length] := by
  unfold rowsN
  rw [List.range_succ, List.map_append]
  rfl
theorem ent60 {r : Ro} (h : 1 ≤ r.length ∧ r.length ≤ 6) (i : Nat) : entN r (i % 120) = entN r i := by
  unfold entN
  congr 1
  have : r.length = 1 ∨ r.length = 2 ∨ r.length = 3 ∨ r.length = 4 ∨ r.length = 5 ∨ r.length = 6 := by omega
  rcases this with e | e | e | e | e | e <;> rw [e] <;> omega
theorem rows_rot {rs : List Ro} (h : ∀ r ∈ rs, 1 ≤ r.length ∧ r.length ≤ 6) {L : Nat} (hL : L ≤ 60) : rot (rowsN rs 120) L = rowsN rs 120 ↔ lc rs ∣ L := by
  rw [rot_iff (by rw [rowsN_len]; omega), rowsN_len]
  have key : (∀ j, j < 120 → (rowsN rs 120)[(j + L) % 120]? = (rowsN rs 120)[j]?) ↔ ∀ r ∈ rs, ∀ i, entN r (i + L) = entN r i := by
    refine ⟨fun q r hr i => ?_, fun q j hj => ?_⟩
    · have := q (i % 120) (by omega)
      rw [rowsN_at (by omega), rowsN_at (by omega)] at this
      have := prs_iff.mp (Option.some.inj this) r hr
      rw [ent_nat, ent_nat, ent60 (h r hr), ent60 (h r hr)] at this
      rw [← this, ← ent60 (h r hr) (i % 120 + L), ← ent60 (h r hr) (i + L)]
      congr 1
      omega
    · rw [rowsN_at (by omega), rowsN_at hj]
      congr 1
      refine prs_iff.mpr fun r hr => ?_
      rw [ent_nat, ent_nat, ent60 (h r hr)]
      exact q r hr j
  rw [key]
  have e : (∀ r ∈ rs, ∀ i, entN r (i + L) = entN r i) ↔ ∀ r ∈ rs, rtp r ∣ L := by
    refine ⟨fun q r hr => (per_dvd (fun z => ?_) L).mp (q r hr), fun q r hr => (per_dvd (fun z => ?_) L).mpr (q r hr)⟩
    · have := h r hr
      rw [z] at this
      simp at this
    · have := h r hr
      rw [z] at this
      simp at this
  rw [e, lc_dvd]
/-! ### .. as data -/
theorem eqvAll_map {α : Type} [DecidableEq α] {f : α → PyData} (h : ∀ a b, PyData.eqv (f a) (f b) = decide (a = b)) : ∀ l m : List α, PyData.eqvAll (l.map f) (m.map f) = decide (l = m)
  | [], [] => by show PyData.eqvAll [] [] = _; rw [PyData.eqvAll]; rfl
  | [], y :: m => by show PyData.eqvAll [] (f y :: m.map f) = _; rw [PyData.eqvAll]; rfl
  | x :: l, [] => by show PyData.eqvAll (f x :: l.map f) [] = _; rw [PyData.eqvAll]; rfl
  | x :: l, y :: m => by
    show PyData.eqvAll (f x :: l.map f) (f y :: m.map f) = _
    rw [PyData.eqvAll, h, eqvAll_map h l m]
    by_cases h1 : x = y
    · subst h1
      by_cases h2 : l = m
      · subst h2
        simp
      · simp [h2]
    · simp [h1]
theorem can_map {α : Type} {f : α → PyData} (h : ∀ a, PyData.canLay0 (f a) = true) : ∀ l : List α, PyData.canLayAll0 (l.map f) = true
  | [] => by show PyData.canLayAll0 [] = true; rw [PyData.canLayAll0]
  | x :: l => by
    show PyData.canLayAll0 (f x :: l.map f) = true
    rw [PyData.canLayAll0, can_map h l, h]
    rfl
theorem dep_map {α : Type} {f : α → PyData} {n : Nat} (h : ∀ a, PyData.depth (f a) ≤ n) : ∀ l : List α, PyData.depthAll (l.map f) ≤ n
  | [] => by show PyData.depthAll [] ≤ n; rw [PyData.depthAll]; omega
  | x :: l => by
    show PyData.depthAll (f x :: l.map f) ≤ n
    rw [PyData.depthAll]
    have h1 := dep_map h l
    have h2 := h x
    omega
def dP (p : Nat × Int) : PyData := .tuple [.int (p.1 : Nat), .int p.2]
def dM (l : List (Nat × Int)) : PyData := .list (l.map dP)
def dRw (l : List (List (Nat × Int))) : PyData := .list (l.map dM)
theorem eqv_dP (a b : Nat × Int) : PyData.eqv (dP a) (dP b) = decide (a = b) := by
  obtain ⟨a1, a2⟩ := a
  obtain ⟨b1, b2⟩ := b
  unfold dP
  rw [PyData.eqv, PyData.eqvAll, PyData.eqvAll, PyData.eqvAll, PyData.eqv, PyData.eqv]
  by_cases h1 : a1 = b1
  · subst h1
    by_cases h2 : a2 = b2
    · subst h2
      simp
    · have : (a2 == b2) = false := by simpa using h2
      simp [h2]
  · have : ((a1 : Int) == (b1 : Int)) = false := by simp; omega
    simp [h1]
    intro z
    omega
theorem eqv_dM (a b : List (Nat × Int)) : PyData.eqv (dM a) (dM b) = decide (a = b) := by
  unfold dM
  rw [PyData.eqv]
  exact eqvAll_map eqv_dP a b
theorem eqv_dRw (a b : List (List (Nat × Int))) : PyData.eqv (dRw a) (dRw b) = decide (a = b) := by
  unfold dRw
  rw [PyData.eqv]
  exact eqvAll_map eqv_dM a b
theorem can_dP (a : Nat × Int) : PyData.canLay0 (dP a) = true := by
  unfold dP
  rw [PyData.canLay0, PyData.canLayAll0, PyData.canLayAll0, PyData.canLayAll0, PyData.canLay0, PyData.canLay0]
  rfl
theorem dep_dP (a : Nat × Int) : PyData.depth (dP a) ≤ 2 := by
  unfold dP
  simp only [PyData.depth, PyData.depthAll]
  omega
theorem can_dM (a : List (Nat × Int)) : PyData.canLay0 (dM a) = true := by
  unfold dM
  rw [PyData.canLay0]
  exact can_map can_dP a
theorem dep_dM (a : List (Nat × Int)) : PyData.depth (dM a) ≤ 3 := by
  unfold dM
  have := dep_map dep_dP a
  rw [PyData.depth]
  omega
theorem shaped_dRw (a : List (List (Nat × Int))) : SeqAt.shaped (dRw a) = true := by
  unfold SeqAt.shaped
  rw [Bool.and_eq_true]
  refine ⟨?_, decide_eq_true ?_⟩
  · unfold dRw
    rw [PyData.canLay0]
    exact can_map can_dM a
  · unfold dRw
    have := dep_map dep_dM a
    rw [PyData.depth]
    omega
end Sv


set_option maxHeartbeats 4000000
namespace Sv
open PySem PySem.Spec PyProof.Rows L2
section
variable {P : Program} {w : World} {K : PySem.W.Frag} {mg : Str → Option Value} {base : Heap}
theorem scVisits : FnScope ["plan", "number"] ["plan", "number"] (defScope sVisits) := ⟨rfl, rfl, rfl, by decide +kernel, rfl, by decide +kernel, by decide +kernel⟩
theorem ok_visits (T : Bd P K mg) : FnOk P w K mg base (L2.CX P w) 5 T.aVisits T.dVisits ["plan", "number"] (spVisits K T.C) := by
  have GP : FnOk P w K mg base (L2.CX P w) 4 T.aCheckPlan T.dCheckPlan ["plan"] (spCheckPlan K T.C) := ok_checkPlan T
  have GI : FnOk P w K mg base CX0 1 T.aVisitsIn T.dVisitsIn ["routes", "number"] (spVisitsIn K) := ok_visitsIn T.VisitsIn T.bt
  refine T.Visits.F.okX scVisits (fun vs H Q E h => ?_) (fun cdv A outer s H vs Q E hr h => ?_)
  · obtain ⟨p, zs, rs, n, rfl, _⟩ := h
    rfl
  · obtain ⟨p, zs, rs, n, rfl, hp, hs, q1, q2⟩ := h
    obtain ⟨a, b, hp1, ha, hb⟩ := hp.ex
    refine ⟨_, pss_cons (ps_expr (pe_call (E := E) GP hr (by rfl) T.CheckPlan.g T.CheckPlan.F.kp T.CheckPlan.b .nil (passes_call (takes_of rfl rfl rfl rfl) fun _ _ _ _ h => h) (pa_cons (pv 0) pa_nil)))
      (pss_one (ps_ret (pe_call (E := E0) GI (hr.mono (by decide)) (by rfl) T.VisitsIn.g T.VisitsIn.F.kp T.VisitsIn.b .nil pass0 (pa_cons (pe_ix ix_tup (pv 0) pe_int (fun _ _ => rfl)) (pa_cons (pv 1) pa_nil))))), ?_⟩
    refine ⟨.ref p, rfl, p, zs, rs, rfl, hp, hs, fun e1 H1 sm1 => ?_, q2⟩
    have g := good_of e1
    exact ⟨.ref p, rfl, p, _, 1, .ref b, rfl, rfl, sqT_same sm1 hp1, rfl, .int n, rfl, b, rs, n, rfl, hb.same sm1, hs.2.1, g.ne, (q1 e1).imp sm1⟩
end
end Sv


set_option maxHeartbeats 8000000
namespace Sv
open PySem PySem.Spec PyProof.Rows L2 LamX NdefX
/-! ### the law's lambdas -/
def sTurn (i : Nat) : Stmt := (sBody ((defBody sLaw).getD 1 (.Pass ⟨0, 0, 0, 0⟩))).getD i (.Pass ⟨0, 0, 0, 0⟩)
def lam1 : Expr := (eElts (sVal (sTurn 5))).getD 0 zE
def lam2 : Expr := (eElts (sVal (sTurn 5))).getD 1 zE
def lam3 : Expr := (eElts (sVal (sTurn 5))).getD 2 zE
def lam4 : Expr := (eArgs (sVal (sTurn 6))).getD 0 zE
@[irreducible] def qPattern (K : PySem.W.Frag) (C : Addr) : Sp := spPattern K C
@[irreducible] def qVisits (K : PySem.W.Frag) (C : Addr) : Sp := spVisits K C
@[irreducible] def qPlaces (K : PySem.W.Frag) (C : Addr) : Sp := spPlaces K C
@[irreducible] def qInitial (K : PySem.W.Frag) (C : Addr) : Sp := spInit0 K C
@[irreducible] def qPlan (K : PySem.W.Frag) : Sp := spPlan K
@[irreducible] def qSpoilt (K : PySem.W.Frag) : Sp := spSpoilt K
@[irreducible] def qBad (K : PySem.W.Frag) : Sp := spFirstBad K
@[irreducible] def qMeet (K : PySem.W.Frag) : Sp := spMeetings K
section
variable {X : Cx}
def tl1 (K : PySem.W.Frag) (C : Addr) : List (Option V) → XK → Hp → VK → Prop := fun ws E H Q => ∃ p : Addr, ws = [some (.ref p)] ∧ qPattern K C [.ref p] H Q E
def tl2 (K : PySem.W.Frag) (C : Addr) : List (Option V) → XK → Hp → VK → Prop := fun ws E H Q => ∃ (n : Int) (p : Addr), ws = [some (.int n), some (.ref p)] ∧ qVisits K C [.ref p, .int n] H Q E
def tl3 (K : PySem.W.Frag) (C : Addr) : List (Option V) → XK → Hp → VK → Prop := fun ws E H Q => ∃ p : Addr, ws = [some (.ref p)] ∧ qPlaces K C [.ref p] H Q E
def tl4 (K : PySem.W.Frag) (C : Addr) : List (Option V) → XK → Hp → VK → Prop := fun ws E H Q => ∃ p : Addr, ws = [some (.ref p)] ∧ qInitial K C [.ref p] H Q E
theorem lb1 (T : Bd X.prog X.K X.mg) : LamB X 5 ["_law_plan_here"] (lamP lam1) (lamE lam1) (lamS lam1) ["_law_plan_here"] [] (tl1 X.K T.C) := fun qual cl dV c f A outer s H ws Q E hr ht => by
  have GC : FnOk X.prog X.w X.K X.mg X.base (L2.CX X.prog X.w) 5 T.aPattern T.dPattern ["plan"] (qPattern X.K T.C) := by unfold qPattern; exact ok_pattern T
  obtain ⟨b, rfl, q⟩ := ht
  exact ⟨_, pe_call (E := E) GC hr (by rfl) T.Pattern.g T.Pattern.F.kp T.Pattern.b .nil (tkX (takes_of rfl rfl rfl rfl)) (pa_cons (pv 0) pa_nil), .ref b, rfl, q⟩
theorem lb2 (T : Bd X.prog X.K X.mg) : LamB X 5 ["_law_a", "_law_number", "_law_plan_here"] (lamP lam2) (lamE lam2) (lamS lam2) ["_law_number", "_law_plan_here"] [.int 0] (tl2 X.K T.C) := fun qual cl dV c f A outer s H ws Q E hr ht => by
  have GC : FnOk X.prog X.w X.K X.mg X.base (L2.CX X.prog X.w) 5 T.aVisits T.dVisits ["plan", "number"] (qVisits X.K T.C) := by unfold qVisits; exact ok_visits T
  obtain ⟨n, b, rfl, q⟩ := ht
  exact ⟨_, pe_call (E := E) GC hr (by rfl) T.Visits.g T.Visits.F.kp T.Visits.b .nil (tkX (takes_of rfl rfl rfl rfl)) (pa_cons (pv 2) (pa_cons (pv 1) pa_nil)), .ref b, rfl, .int n, rfl, q⟩
theorem lb3 (T : Bd X.prog X.K X.mg) : LamB X 5 ["_law_b", "_law_plan_here"] (lamP lam3) (lamE lam3) (lamS lam3) ["_law_plan_here"] [.int 0] (tl3 X.K T.C) := fun qual cl dV c f A outer s H ws Q E hr ht => by
  have GC : FnOk X.prog X.w X.K X.mg X.base (L2.CX X.prog X.w) 5 T.aPlaces T.dPlaces ["plan"] (qPlaces X.K T.C) := by unfold qPlaces; exact ok_places T
  obtain ⟨b, rfl, q⟩ := ht
  exact ⟨_, pe_call (E := E) GC hr (by rfl) T.Places.g T.Places.F.kp T.Places.b .nil (tkX (takes_of rfl rfl rfl rfl)) (pa_cons (pv 1) pa_nil), .ref b, rfl, q⟩
theorem lb4 (T : Bd X.prog X.K X.mg) : LamB X 5 ["_law_plan_here"] (lamP lam4) (lamE lam4) (lamS lam4) ["_law_plan_here"] [] (tl4 X.K T.C) := fun qual cl dV c f A outer s H ws Q E hr ht => by
  have GC : FnOk X.prog X.w X.K X.mg X.base (L2.CX X.prog X.w) 5 T.aInitial T.dInitial ["plan"] (qInitial X.K T.C) := by unfold qInitial; exact ok_initial T
  obtain ⟨b, rfl, q⟩ := ht
  exact ⟨_, pe_call (E := E) GC hr (by rfl) T.Initial.g T.Initial.F.kp T.Initial.b .nil (tkX (takes_of rfl rfl rfl rfl)) (pa_cons (pv 0) pa_nil), .ref b, rfl, q⟩
end
end Sv


set_option maxHeartbeats 8000000
namespace Sv
open PySem PySem.Spec PyProof.Rows L2 LamX NdefX
/-! ### lists of lists of tuples -/
theorem TL.upd {H : Hp} {f D : Addr} {ts : List (List V)} {xs : List V} {o : HO} (x : TL H f ts) (hD : H D = some (.lst xs)) (n : f ≠ D) : TL (L2.upd H D o) f ts := by
  obtain ⟨ps, h1, h2⟩ := x.ex
  refine ⟨ps, by rw [upd_ne n]; exact h1, tupsV_imp (fun b ys q => ?_) h2⟩
  rw [upd_ne (fun z => by rw [z, hD] at q; cases q)]
  exact q
abbrev LLs (H : Hp) (fs : List Addr) (tss : List (List (List V))) : Prop := Paired (fun f ts => TL H f ts) fs tss
theorem lls_same {H H' : Hp} (e : Same H H') : ∀ {fs : List Addr} {tss : List (List (List V))}, LLs H fs tss → LLs H' fs tss
  | _, _, .nil => .nil
  | _, _, .cons h t => .cons (h.same e) (lls_same e t)
theorem lls_upd {H : Hp} {D : Addr} {xs : List V} {o : HO} (hD : H D = some (.lst xs)) : ∀ {fs : List Addr} {tss : List (List (List V))}, (∀ f ∈ fs, f ≠ D) → LLs H fs tss → LLs (upd H D o) fs tss
  | _, _, _, .nil => .nil
  | _, _, n, .cons h t => .cons (h.upd hD (n _ (List.mem_cons_self ..))) (lls_upd hD (fun f hf => n f (List.mem_cons_of_mem _ hf)) t)
theorem lls_app {H : Hp} : ∀ {fs gs : List Addr} {tss uss : List (List (List V))}, LLs H fs tss → LLs H gs uss → LLs H (fs ++ gs) (tss ++ uss)
  | _, _, _, _, .nil, h => h
  | _, _, _, _, .cons h t, g => .cons h (lls_app t g)
theorem lls_len {H : Hp} : ∀ {fs : List Addr} {tss : List (List (List V))}, LLs H fs tss → fs.length = tss.length
  | _, _, .nil => rfl
  | _, _, .cons _ t => congrArg Nat.succ (lls_len t)
theorem lls_take {H : Hp} : ∀ {fs : List Addr} {tss : List (List (List V))} (k : Nat), LLs H fs tss → LLs H (fs.take k) (tss.take k)
  | _, _, _, .nil => by simp only [List.take_nil]; exact .nil
  | _, _, 0, .cons h t => .nil
  | _, _, k + 1, .cons h t => .cons h (lls_take k t)
theorem lls_drop {H : Hp} : ∀ {fs : List Addr} {tss : List (List (List V))} (k : Nat), LLs H fs tss → LLs H (fs.drop k) (tss.drop k)
  | _, _, _, .nil => by simp only [List.drop_nil]; exact .nil
  | _, _, 0, .cons h t => .cons h t
  | _, _, k + 1, .cons h t => lls_drop k t
/-! ### their data -/
def pvs (l : List (Nat × Int)) : List (List V) := l.map fun p => pairV p.1 p.2
theorem dp_pv {K : PySem.W.Frag} {H : Hp} {p : Addr} {x : Nat × Int} (h : H p = some (.tup (pairV x.1 x.2))) : Dp K H (.ref p) (dP x) := .tup (.inl (.inl h)) (.cons (.int _) (.cons (.int _) .nil))
theorem dpAll_pv {K : PySem.W.Frag} {H : Hp} : ∀ {ps : List Addr} {l : List (Nat × Int)}, TupsV H ps (pvs l) → DpAll K H (ps.map V.ref) (l.map dP)
  | [], [], _ => .nil
  | p :: ps, x :: l, .cons h t => .cons (dp_pv h) (dpAll_pv t)
theorem dp_tlM {K : PySem.W.Frag} {H : Hp} {f : Addr} {l : List (Nat × Int)} (h : TL H f (pvs l)) : Dp K H (.ref f) (dM l) := by
  obtain ⟨ps, h1, h2⟩ := h.ex
  exact .lst (.inl (.inl h1)) (dpAll_pv h2)
theorem dpAll_ll {K : PySem.W.Frag} {H : Hp} : ∀ {fs : List Addr} {ls : List (List (Nat × Int))}, LLs H fs (ls.map pvs) → DpAll K H (fs.map V.ref) (ls.map dM)
  | [], [], _ => .nil
  | f :: fs, l :: ls, .cons h t => .cons (dp_tlM h) (dpAll_ll t)
theorem neRw_go {K : PySem.W.Frag} {H : Hp} {x y : Addr} {fs gs : List Addr} {a b : List (List (Nat × Int))} {Q : VK} (hx : H x = some (.lst (fs.map V.ref))) (hfs : LLs H fs (a.map pvs)) (hy : H y = some (.lst (gs.map V.ref))) (hgs : LLs H gs (b.map pvs)) (q : Q (.bl (!decide (a = b))) H) : qNe K (.ref x) (.ref y) H Q := by
  unfold qNe
  refine ⟨dRw a, dRw b, .lst (.inl (.inl hx)) (dpAll_ll hfs), .lst (.inl (.inl hy)) (dpAll_ll hgs), shaped_dRw a, shaped_dRw b, ?_⟩
  rw [eqv_dRw]
  exact q
theorem meets_pvs (rs : List Ro) (m : Int) : meets rs m = pvs (prs rs m rs.length) := prs_meet rs m rs.length
/-- tuples of words and numbers -/
def dV : V → PyData
  | .str s => .str s
  | .int i => .int i
  | .non => .none
  | _ => .none
def simV : V → Bool
  | .str _ => true
  | .int _ => true
  | .non => true
  | _ => false
theorem dp_dV {K : PySem.W.Frag} {H : Hp} : ∀ {v : V}, simV v = true → Dp K H v (dV v)
  | .str s, _ => .str s
  | .int i, _ => .int i
  | .non, _ => .non
  | .ref _, h => by cases h
theorem dpAll_dV {K : PySem.W.Frag} {H : Hp} : ∀ {vs : List V}, (∀ v ∈ vs, simV v = true) → DpAll K H vs (vs.map dV)
  | [], _ => .nil
  | v :: vs, h => .cons (dp_dV (h v (List.mem_cons_self ..))) (dpAll_dV fun x hx => h x (List.mem_cons_of_mem _ hx))
def dT (vs : List V) : PyData := .tuple (vs.map dV)
theorem dp_tupS {K : PySem.W.Frag} {H : Hp} {p : Addr} {vs : List V} (h : SqT K H p vs) (s : ∀ v ∈ vs, simV v = true) : Dp K H (.ref p) (dT vs) := .tup h (dpAll_dV s)
theorem dpAll_tl {K : PySem.W.Frag} {H : Hp} : ∀ {ps : List Addr} {ts : List (List V)}, TupsV H ps ts → (∀ t ∈ ts, ∀ v ∈ t, simV v = true) → DpAll K H (ps.map V.ref) (ts.map dT)
  | [], [], _, _ => .nil
  | p :: ps, t :: ts, .cons h r, s => .cons (dp_tupS (.inl (.inl h)) (s t (List.mem_cons_self ..))) (dpAll_tl r fun x hx => s x (List.mem_cons_of_mem _ hx))
theorem dp_tlS {K : PySem.W.Frag} {H : Hp} {f : Addr} {ts : List (List V)} (h : TL H f ts) (s : ∀ t ∈ ts, ∀ v ∈ t, simV v = true) : Dp K H (.ref f) (.list (ts.map dT)) := by
  obtain ⟨ps, h1, h2⟩ := h.ex
  exact .lst (.inl (.inl h1)) (dpAll_tl h2 s)
/-- what the law awaits of a plan -/
def dueV : Option (Str × Int) → List V
  | none => [.str "none"]
  | some (part, i) => [.str "plan", .str part, .int i]
theorem due_sim (b : Option (Str × Int)) : ∀ v ∈ dueV b, simV v = true := by
  intro v hv
  cases b with
  | none =>
    rw [List.mem_singleton.mp hv]
    rfl
  | some x =>
    obtain ⟨part, i⟩ := x
    simp only [dueV, List.mem_cons, List.not_mem_nil, or_false] at hv
    rcases hv with rfl | rfl | rfl <;> rfl
theorem bad_part {zs : List Int} {rs : List Ro} {part : Str} {i : Int} (h : bad zs rs = some (part, i)) : part = "sizes" ∨ part = "routes" := by
  unfold bad at h
  cases hb : badS zs with
  | some j =>
    rw [hb] at h
    exact .inl (congrArg Prod.fst (Option.some.inj h)).symm
  | none =>
    rw [hb] at h
    simp only at h
    cases hr : badR zs.length rs with
    | none => rw [hr] at h; cases h
    | some j =>
      rw [hr] at h
      exact .inr (congrArg Prod.fst (Option.some.inj h)).symm
theorem can_due {zs : List Int} {rs : List Ro} : PyData.canLay0 (dT (dueV (bad zs rs))) = true := by
  cases hb : bad zs rs with
  | none =>
    show PyData.canLay0 (.tuple [.str "none"]) = true
    rw [PyData.canLay0, PyData.canLayAll0, PyData.canLayAll0, PyData.canLay0]
    decide +kernel
  | some x =>
    obtain ⟨part, i⟩ := x
    show PyData.canLay0 (.tuple [.str "plan", .str part, .int i]) = true
    rw [PyData.canLay0, PyData.canLayAll0, PyData.canLayAll0, PyData.canLayAll0, PyData.canLayAll0, PyData.canLay0, PyData.canLay0, PyData.canLay0]
    rcases bad_part hb with rfl | rfl <;> decide +kernel
theorem dep_dT (vs : List V) : PyData.depth (dT vs) ≤ 2 := by
  unfold dT
  have := dep_map (f := dV) (n := 1) (fun v => by
    unfold dV
    split <;> (simp only [PyData.depth]; omega)) vs
  rw [PyData.depth]
  omega
theorem shaped_due {zs : List Int} {rs : List Ro} (n : Nat) : SeqAt.shaped (.list (List.replicate n (dT (dueV (bad zs rs))))) = true := by
  unfold SeqAt.shaped
  rw [Bool.and_eq_true]
  refine ⟨?_, decide_eq_true ?_⟩
  · rw [PyData.canLay0]
    induction n with
    | zero => rw [List.replicate_zero, PyData.canLayAll0]
    | succ n ih => rw [List.replicate_succ, PyData.canLayAll0, ih, can_due]; rfl
  · rw [PyData.depth]
    have : PyData.depthAll (List.replicate n (dT (dueV (bad zs rs)))) ≤ 2 := by
      induction n with
      | zero => rw [List.replicate_zero, PyData.depthAll]; omega
      | succ n ih => 
        rw [List.replicate_succ, PyData.depthAll]
        have := dep_dT (dueV (bad zs rs))
        omega
    omega
theorem dpAll_due {K : PySem.W.Frag} {H : Hp} {vs : List V} (s : ∀ v ∈ vs, simV v = true) : ∀ {ps : List Addr} (n : Nat), ps.length = n → (∀ p ∈ ps, SqT K H p vs) → DpAll K H (ps.map V.ref) (List.replicate n (dT vs))
  | [], _, rfl, _ => .nil
  | p :: ps, _, rfl, h => .cons (dp_tupS (h p (List.mem_cons_self ..)) s) (dpAll_due s ps.length rfl fun q hq => h q (List.mem_cons_of_mem _ hq))
theorem ne_due {K : PySem.W.Frag} {H : Hp} {x y : Addr} {ps qs : List Addr} {n : Nat} {zs : List Int} {rs : List Ro} {Q : VK} (hx : H x = some (.lst (ps.map V.ref))) (hp : ∀ p ∈ ps, SqT K H p (dueV (bad zs rs))) (lp : ps.length = n) (hy : H y = some (.lst (qs.map V.ref))) (hq : ∀ p ∈ qs, SqT K H p (dueV (bad zs rs))) (lq : qs.length = n)
    (q : Q (.bl false) H) : qNe K (.ref x) (.ref y) H Q := by
  unfold qNe
  exact ⟨.list (List.replicate n (dT (dueV (bad zs rs)))), .list (List.replicate n (dT (dueV (bad zs rs)))), .lst (.inl (.inl hx)) (dpAll_due (due_sim _) n lp hp), .lst (.inl (.inl hy)) (dpAll_due (due_sim _) n lq hq), shaped_due n, shaped_due n, by rw [SeqAt.eqv_refl _ (SeqAt.canLay_of_shaped (shaped_due n))]; exact q⟩
/-! ### steps -/
theorem okD_sim {n : Nat} : ∀ {ts : List (List V)}, (∀ t ∈ ts, t.length ≤ 1000) → okDs (n + 1) (ts.map dT) = true
  | [], _ => by show okDs (n + 1) [] = true; rw [okDs]
  | t :: ts, h => by
    show okDs (n + 1) (dT t :: ts.map dT) = true
    rw [okDs, okD_sim fun x hx => h x (List.mem_cons_of_mem _ hx), Bool.and_true]
    unfold dT
    rw [okD, Bool.and_eq_true]
    refine ⟨decide_eq_true (by rw [List.length_map]; exact h t (List.mem_cons_self ..)), ?_⟩
    clear h
    induction t with
    | nil => show okDs n [] = true; rw [okDs]
    | cons v t ih =>
      show okDs n (dV v :: t.map dV) = true
      rw [okDs, ih, Bool.and_true]
      unfold dV
      split <;> (cases n <;> rfl)
theorem okD_pv {n : Nat} : ∀ {l : List (Nat × Int)}, okDs (n + 1) (l.map dP) = true
  | [] => by show okDs (n + 1) [] = true; rw [okDs]
  | p :: l => by
    show okDs (n + 1) (dP p :: l.map dP) = true
    rw [okDs, okD_pv (l := l), Bool.and_true]
    unfold dP
    rw [okD, okDs, okDs, okDs]
    cases n <;> rfl
end Sv


set_option maxHeartbeats 8000000
namespace Sv
open PySem PySem.Spec PyProof.Rows L2 LamX NdefX
section
variable {K : PySem.W.Frag} {H : Hp} {Q : VK} {E : XK} {p h l : Addr} {zs : List Int} {rs : List Ro}
variable {CS C C1 C2 C3 C4 C5 C6 C7 C8 C9 C10 C11 C12 C13 C14 : Addr}
theorem go_plan (LH : LawH H h l) (q : ∀ H' p zs rs, St h l H H' → PlanAt K H' p zs rs → Good2 zs rs → Q (.ref p) H') : qPlan K [.ref h, .int 12, .int 6] H Q E := by
  unfold qPlan
  exact ⟨h, l, rfl, LH, q⟩
theorem go_spoilt (LH : LawH H h l) (hp : PlanAt K H p zs rs) (g : Good2 zs rs) (q : ∀ H' p' zs' rs', St h l H H' → PlanAt K H' p' zs' rs' → Small zs' rs' → Q (.ref p') H') : qSpoilt K [.ref h, .ref p] H Q E := by
  unfold qSpoilt
  exact ⟨h, l, p, zs, rs, rfl, LH, hp, g, q⟩
theorem go_bad (hp : PlanAt K H p zs rs) (s : Small zs rs) (q1 : bad zs rs = none → ∀ H', Same H H' → Q .non H') (q2 : ∀ part i, bad zs rs = some (part, i) → NewS H [.str part, .int i] Q) : qBad K [.ref p] H Q E := by
  unfold qBad
  exact ⟨p, zs, rs, rfl, hp, s, q1, q2⟩
theorem go_bad2 (hp : PlanAt K H p zs rs) (s : Small zs rs) (q : ∀ v H', Same H H' → ((bad zs rs = none ∧ v = .non) ∨ ∃ part i t, bad zs rs = some (part, i) ∧ v = .ref t ∧ H' t = some (.tup [.str part, .int i])) → Q v H') : qBad K [.ref p] H Q E :=
  go_bad hp s (fun e H' sm => q _ _ sm (.inl ⟨e, rfl⟩)) (fun part i e H' t sm _ k => q _ _ sm (.inr ⟨part, i, t, e, rfl, k⟩))
theorem cat_go2 {a b : Addr} {y : V} {xs ys : List V} (hA : SqT K H a xs) (hy : y = .ref b) (hB : SqT K H b ys) (hl : xs.length + ys.length ≤ 1000) (q : ∀ H' p, Same H H' → SqT K H' p (xs ++ ys) → Q (.ref p) H') : qCat K (.ref a) y H Q := by
  subst hy
  exact cat_go hA hB hl q
theorem go_meet {n : Int} (hp : PlanAt K H p zs rs) (g : Good zs rs) (q : NewTL H (meets rs (n - 1)) Q) : qMeet K [.ref p, .int n] H Q E := by
  unfold qMeet
  exact ⟨p, zs, rs, n, rfl, hp, by have := g.r1; omega, g.ne, q⟩
theorem no_bad (e : bad zs rs = none) : BadE C zs rs H E := fun _ _ z => by rw [e] at z; cases z
theorem go_pattern (hp : PlanAt K H p zs rs) (s : Small zs rs) (e : bad zs rs = none) (q : ∀ H', Same H H' → Q (.int (lc rs : Nat)) H') : qPattern K C [.ref p] H Q E := by
  unfold qPattern
  exact ⟨p, zs, rs, rfl, hp, s, fun _ => q, no_bad e⟩
theorem go_visits {n : Int} (hp : PlanAt K H p zs rs) (s : Small zs rs) (e : bad zs rs = none) (q : NewTL H (meets rs (n - 1)) Q) : qVisits K C [.ref p, .int n] H Q E := by
  unfold qVisits
  exact ⟨p, zs, rs, n, rfl, hp, s, fun _ => q, no_bad e⟩
theorem go_places (hp : PlanAt K H p zs rs) (s : Small zs rs) (e : bad zs rs = none) (q : NewTL H (placesV zs rs.length) Q) : qPlaces K C [.ref p] H Q E := by
  unfold qPlaces
  exact ⟨p, zs, rs, rfl, hp, s, fun _ => q, no_bad e⟩
theorem go_initial (hp : PlanAt K H p zs rs) (s : Small zs rs) (e : bad zs rs = none) (q : NewSt K H 0 (spl rs.length zs (parc (rs.length + sumN zs))) Q) : qInitial K C [.ref p] H Q E := by
  unfold qInitial
  exact ⟨p, zs, rs, rfl, hp, s, no_bad e, fun _ => q⟩
/-- what the lambdas' errors are told as -/
theorem err_plan (AP : ErA K CS C C1 C2 C3 C4 C5 C6 C7 C8 C9 C10 C11 C12 C13 C14 C "plan") (hq : NewS H (dueV (bad zs rs)) Q) : BadE C zs rs H (ErrE K CS C C1 C2 C3 C4 C5 C6 C7 C8 C9 C10 C11 C12 C13 C14 Q) := by
  intro part i e H' dd fs sm h1 h2 h3
  rw [e] at hq
  obtain ⟨b0, b1, b2, b3, b4, b5, b6, b7, b8, b9, b10, b11, b12, b13, b14, j, R⟩ := AP.ex
  exact ⟨C, "plan", b0, b1, b2, b3, b4, b5, b6, b7, b8, b9, b10, b11, b12, b13, b14, j, rfl, .inr ⟨dd, fs, rfl, h1⟩, R, .inr ⟨rfl, rfl, dd, fs, _, _, rfl, h1, h2, h3, hq.imp sm⟩⟩
theorem ok_plan_due (e : bad zs rs = none) (hq : NewS H (dueV (bad zs rs)) Q) {v : V} {H' : Hp} (sm : Same H H') : OkQ Q v H' := by
  rw [e] at hq
  exact hq.imp sm
section
variable (AP : ErA K CS C C1 C2 C3 C4 C5 C6 C7 C8 C9 C10 C11 C12 C13 C14 C "plan") (hp : PlanAt K H p zs rs) (s : Small zs rs) (hq : NewS H (dueV (bad zs rs)) Q)
include AP hp s hq
theorem tl1_go : tl1 K C [some (.ref p)] (ErrE K CS C C1 C2 C3 C4 C5 C6 C7 C8 C9 C10 C11 C12 C13 C14 Q) H (OkQ Q) := by
  refine ⟨p, rfl, ?_⟩
  unfold qPattern
  exact ⟨p, zs, rs, rfl, hp, s, fun e _ sm => ok_plan_due e hq sm, err_plan AP hq⟩
theorem tl2_go {n : Int} : tl2 K C [some (.int n), some (.ref p)] (ErrE K CS C C1 C2 C3 C4 C5 C6 C7 C8 C9 C10 C11 C12 C13 C14 Q) H (OkQ Q) := by
  refine ⟨n, p, rfl, ?_⟩
  unfold qVisits
  exact ⟨p, zs, rs, n, rfl, hp, s, fun e _ _ sm _ _ => ok_plan_due e hq sm, err_plan AP hq⟩
theorem tl3_go : tl3 K C [some (.ref p)] (ErrE K CS C C1 C2 C3 C4 C5 C6 C7 C8 C9 C10 C11 C12 C13 C14 Q) H (OkQ Q) := by
  refine ⟨p, rfl, ?_⟩
  unfold qPlaces
  exact ⟨p, zs, rs, rfl, hp, s, fun e _ _ sm _ _ => ok_plan_due e hq sm, err_plan AP hq⟩
theorem tl4_go : tl4 K C [some (.ref p)] (ErrE K CS C C1 C2 C3 C4 C5 C6 C7 C8 C9 C10 C11 C12 C13 C14 Q) H (OkQ Q) := by
  refine ⟨p, rfl, ?_⟩
  unfold qInitial
  exact ⟨p, zs, rs, rfl, hp, s, err_plan AP hq, fun e _ _ sm _ _ => ok_plan_due e hq sm⟩
end
end
theorem PlanAt.ext {K : PySem.W.Frag} {H H' : Hp} {p : Addr} {zs : List Int} {rs : List Ro} (x : PlanAt K H p zs rs) (e : ExtL H H') : PlanAt K H' p zs rs := by
  obtain ⟨a, b, h1, h2, h3⟩ := x.ex
  obtain ⟨qs, g1, g2⟩ := h3.ex
  exact ⟨a, b, sqT_ext e h1, sqT_ext e h2, qs, sqT_ext e g1, paired_imp (fun _ _ s => sqT_ext e s) g2⟩
theorem PlanAt.upd {K : PySem.W.Frag} {H : Hp} {D p : Addr} {xs : List V} {o : HO} {zs : List Int} {rs : List Ro} (x : PlanAt K H p zs rs) (h : H D = some (.lst xs)) : PlanAt K (L2.upd H D o) p zs rs := x.ext (ExtL.upd h)
theorem comp_step {T : List (Addr × Str)} {Hw H' : Hp} {D : Addr} {ps : List Addr} {i : Nat} {t0 : List V} (hD : Hw D = none) (e : ExtN Hw H') (t : Tabs T H') (hl : ps.length = i) (hd : H' D = some (.lst (ps.map V.ref))) (hp : ∀ p ∈ ps, H' p = some (.tup t0)) (hi : i < 1000) :
    NewS H' t0 (fun y H4 => ∃ acc, H4 D = some (.lst acc) ∧ acc.length < sizeLine ∧ (ExtN Hw (L2.upd H4 D (.lst (acc ++ [y]))) ∧ Tabs T (L2.upd H4 D (.lst (acc ++ [y]))) ∧ ∃ ps' : List Addr, ps'.length = i + 1 ∧ (L2.upd H4 D (.lst (acc ++ [y]))) D = some (.lst (ps'.map V.ref)) ∧ ∀ p ∈ ps', (L2.upd H4 D (.lst (acc ++ [y]))) p = some (.tup t0))) := fun H4 p sm hp0 hk => by
  refine ⟨_, sm _ _ hd, ?_, fun b o hb hn => ?_, tabs_upd (t.ext sm) (sm _ _ hd), ps ++ [p], ?_, ?_, fun z hz => ?_⟩
  · rw [List.length_map, hl]
    exact small1000 (Nat.le_of_lt hi)
  · rw [upd_ne (ne_of_none hb hD)]
    exact sm _ _ (e b o hb hn)
  · rw [List.length_append, hl]
    rfl
  · rw [upd_same, List.map_append]
    rfl
  · have key : H4 z = some (.tup t0) := by
      rcases List.mem_append.mp hz with q | q
      · exact sm _ _ (hp z q)
      · rw [List.mem_singleton.mp q]
        exact hk
    rw [upd_ne (fun e => by rw [e, sm _ _ hd] at key; cases key)]
    exact key
end Sv


set_option maxHeartbeats 8000000
namespace Sv
open PySem PySem.Spec PyProof.Rows L2 LamX NdefX
theorem TL.cat {H : Hp} {f g p : Addr} {ts us : List (List V)} {xs ys : List V} (x : TL H f ts) (y : TL H g us) (hf : H f = some (.lst xs)) (hg : H g = some (.lst ys)) (hp : H p = none) : TL (L2.upd H p (.lst (xs ++ ys))) p (ts ++ us) := by
  obtain ⟨ps, h1, h2⟩ := x.ex
  obtain ⟨qs, g1, g2⟩ := y.ex
  rw [hf] at h1
  rw [hg] at g1
  obtain rfl := HO.lst.inj (Option.some.inj h1)
  obtain rfl := HO.lst.inj (Option.some.inj g1)
  exact ⟨ps ++ qs, by rw [upd_same, List.map_append], tupsV_same (same_upd hp) (tupsV_app h2 g2)⟩
theorem shN_sum (zs : List Int) : ∀ k, k ≤ zs.length → (shN zs k).length = sumN (zs.take k)
  | 0, _ => rfl
  | k + 1, hk => by
    unfold shN
    have e : zs.getD k 0 = zs[k] := by rw [List.getD_eq_getElem?_getD, List.getElem?_eq_getElem (by omega)]; rfl
    rw [List.length_append, posV_len, shN_sum zs k (by omega), e, List.take_succ_eq_append_getElem (by omega), sumN_snoc]
theorem places_len (zs : List Int) (n : Nat) : (placesV zs n).length = n + sumN zs := by
  unfold placesV
  rw [List.length_append, carV_len, shN_sum zs _ (Nat.le_refl _), List.take_length]
def smallT (t : List V) : Prop := (∀ v ∈ t, simV v = true) ∧ t.length ≤ 1000
theorem carV_small (n : Nat) : ∀ t ∈ carV n, smallT t := fun t ht => by
  unfold carV at ht
  obtain ⟨c, _, rfl⟩ := List.mem_map.mp ht
  refine ⟨fun v hv => ?_, by show 2 ≤ 1000; omega⟩
  simp only [List.mem_cons, List.not_mem_nil, or_false] at hv
  rcases hv with rfl | rfl <;> rfl
theorem posV_small (s n : Nat) : ∀ t ∈ posV s n, smallT t := fun t ht => by
  unfold posV at ht
  obtain ⟨c, _, rfl⟩ := List.mem_map.mp ht
  refine ⟨fun v hv => ?_, by show 3 ≤ 1000; omega⟩
  simp only [List.mem_cons, List.not_mem_nil, or_false] at hv
  rcases hv with rfl | rfl | rfl <;> rfl
theorem shN_small (zs : List Int) : ∀ k, ∀ t ∈ shN zs k, smallT t
  | 0, t, ht => by cases ht
  | k + 1, t, ht => by
    unfold shN at ht
    rcases List.mem_append.mp ht with ht | ht
    · exact shN_small zs k t ht
    · exact posV_small _ _ t ht
theorem places_small (zs : List Int) (n : Nat) : ∀ t ∈ placesV zs n, smallT t := fun t ht => by
  unfold placesV at ht
  rcases List.mem_append.mp ht with ht | ht
  · exact carV_small n t ht
  · exact shN_small zs _ t ht
theorem parc_all {n : Nat} {zs : List Int} : (parc (n + sumN zs)).take n ++ (segs (parc (n + sumN zs)) n zs).flatten = parc (n + sumN zs) := by
  have e : ((parc (n + sumN zs)).drop n).take (sumN zs) = (parc (n + sumN zs)).drop n := List.take_of_length_le (by rw [List.length_drop, parc_len]; omega)
  rw [segs_flat, e, List.take_append_drop]
theorem seg_sizes {n : Nat} {zs : List Int} (h : ∀ z ∈ zs, 0 ≤ z ∧ z ≤ 9) : (segs (parc (n + sumN zs)) n zs).map (fun s => (s.length : Int)) = zs := by
  have e := segs_lens (parc (n + sumN zs)) n zs (by rw [parc_len]; omega)
  have e2 : (segs (parc (n + sumN zs)) n zs).map (fun s => (s.length : Int)) = ((segs (parc (n + sumN zs)) n zs).map List.length).map (fun (k : Nat) => (k : Int)) := by rw [List.map_map]; rfl
  rw [e2, e, List.map_map]
  conv => rhs; rw [← List.map_id zs]
  refine List.map_congr_left fun z hz => ?_
  have := h z hz
  show ((z.toNat : Nat) : Int) = z
  omega
end Sv


set_option maxHeartbeats 8000000
namespace Sv
open PySem PySem.Spec PyProof.Rows L2 LamX NdefX
section
variable {P : Program} {w : World} {K : PySem.W.Frag} {mg : Str → Option Value} {base : Heap}
def nLaw : List Str := ["_law_script", "_law_h", "_law_turn", "_law_plan_here", "_law_bad", "_law_number", "_law_due", "_law_works", "_law_rows", "_law_length", "_law_spots", "_law_shelf", "_law_state_here", "_law_parcels", "_law_sizes", "_law_call", "_law_k", "_law_one"]
theorem scLaw : FnScope nLaw ["_law_script"] (defScope sLaw) := ⟨rfl, rfl, rfl, by decide +kernel, rfl, by decide +kernel, by decide +kernel⟩
def lamQ : Str := (envOfC "law" (defScope sLaw) 0 0 .none).qual ++ "<lambda>"
def lawT (Pt : Addr) : List (Addr × Str) := [(Pt, lamQ)]
theorem hbn2 : ∀ q cl pm cv ctv (T : Addr) (u : Value), ∃ k, bindArgs { PySem.W.kla_fn "<lambda>" q (lamP lam2) (lamE lam2) (lamS lam2) cl pm cv ctv with defaults := .ref T } ⟨[], []⟩ = seqItems? (.ref T) >>= k ∧ k (some [u].toArray) = pure [(("_law_a" : Str), u)] := by
  intro q cl pm cv ctv T u
  exact ⟨_, rfl, rfl⟩
theorem hbn3 : ∀ q cl pm cv ctv (T : Addr) (u : Value), ∃ k, bindArgs { PySem.W.kla_fn "<lambda>" q (lamP lam3) (lamE lam3) (lamS lam3) cl pm cv ctv with defaults := .ref T } ⟨[], []⟩ = seqItems? (.ref T) >>= k ∧ k (some [u].toArray) = pure [(("_law_b" : Str), u)] := by
  intro q cl pm cv ctv T u
  exact ⟨_, rfl, rfl⟩
def spLaw (K : PySem.W.Frag) (Pt : Addr) : Sp := fun vs H Q _ => ∃ (a : Addr) (ns : List Int), vs = [.ref a] ∧ SqL K H a (ns.map V.int) ∧ ns.length ≤ 63 ∧ Tabs (lawT Pt) H ∧ ∀ H', Q (.bl true) H'
theorem ok_law {f c Pt : Addr} {fd : FuncData} {CS C1 C2 C3 C4 C5 C6 C7 C8 C9 C10 C11 C12 C13 C14 : Addr} (T : Bd P K mg)
    (F : Df K mg "law" sLaw ["_law_script"] f fd) (hc : fd.code = .ref c) (TB : TabB base mg c Pt) (G : ErG mg CS T.C C1 C2 C3 C4 C5 C6 C7 C8 C9 C10 C11 C12 C13 C14)
    (AP : ErA K CS T.C C1 C2 C3 C4 C5 C6 C7 C8 C9 C10 C11 C12 C13 C14 T.C "plan") (XF : XfC K T.C) (xp : PySem.W.findIn K (.ref T.C) "part" = some none) (xi : PySem.W.findIn K (.ref T.C) "index" = some none) :
    FnOk P w K mg base CX0 8 f fd ["_law_script"] (spLaw K Pt) := by
  have GM : FnOk P w K mg base CX0 1 T.aLMix T.dLMix ["_law_script", "_law_seed"] (spMix K) := ok_mix T.LMix.F T.bt
  have GN : FnOk P w K mg base CX0 1 T.aLNext T.dLNext ["_law_h", "_law_limit"] qNext := by unfold qNext; exact ok_next T.LNext.F T.bt
  have GA : FnOk P w K mg base CX0 7 T.aLAlike T.dLAlike ["_law_found", "_law_due"] (qAlike K) := by unfold qAlike; exact ok_alike T.LAlike T.bt 6
  have GX : FnSt P w K mg base 7 T.aLError (KnErr P w K mg base 6 CS T.C C1 C2 C3 C4 C5 C6 C7 C8 C9 C10 C11 C12 C13 C14) := ok_error T.LError T.bt G XF xp xi
  have GP : FnOk P w K mg base CX0 2 T.aLPlan T.dLPlan ["_law_h", "_law_shelves", "_law_carriers"] (qPlan K) := by unfold qPlan; exact ok_plan T.LPlan T.LNext T.bt
  have GB : FnOk P w K mg base CX0 1 T.aLFirstBad T.dLFirstBad ["_law_plan_here"] (qBad K) := by unfold qBad; exact ok_firstBad T.LFirstBad T.bt
  have GS : FnOk P w K mg base CX0 2 T.aLSpoilt T.dLSpoilt ["_law_h", "_law_plan_here"] (qSpoilt K) := by unfold qSpoilt; exact ok_spoilt T.LSpoilt T.LNext T.bt
  have GE : FnOk P w K mg base CX0 1 T.aLMeetings T.dLMeetings ["_law_plan_here", "_law_number"] (qMeet K) := by unfold qMeet; exact ok_meetings T.LMeetings T.bt
  have JP : FnOk P w K mg base (L2.CX P w) 5 T.aPattern T.dPattern ["plan"] (qPattern K T.C) := by unfold qPattern; exact ok_pattern T
  have JV : FnOk P w K mg base (L2.CX P w) 5 T.aVisits T.dVisits ["plan", "number"] (qVisits K T.C) := by unfold qVisits; exact ok_visits T
  have JL : FnOk P w K mg base (L2.CX P w) 5 T.aPlaces T.dPlaces ["plan"] (qPlaces K T.C) := by unfold qPlaces; exact ok_places T
  have JT : FnOk P w K mg base (L2.CX P w) 5 T.aInitial T.dInitial ["plan"] (qInitial K T.C) := by unfold qInitial; exact ok_initial T
  refine fun_okC F.F hc scLaw (fun vs H Q E h => ?_) (fun A outer s H vs Q E hr h => ?_)
  · obtain ⟨a, ns, rfl, _⟩ := h
    rfl
  · obtain ⟨a, ns, rfl, hA, hl, hT, q⟩ := h
    have LT : LamT (cxOf CX0 P w K mg base nLaw "law" (defScope sLaw) f (.ref c) A outer s H E).nox (lawT Pt) c Pt := ⟨TB, rfl, List.mem_singleton.mpr rfl, fun p hp _ => by rw [List.mem_singleton.mp hp]; rfl⟩
    refine ⟨_, (pss_cons (ps_set (i := 1) scLaw.nd rfl (Or.inl rfl) (pe_call (E := E0) GM (hr.mono (by decide)) (by rfl) T.LMix.g T.LMix.F.kp T.LMix.b .nil pass0 (pa_cons (pv 0) (pa_cons pe_int pa_nil))))
            (pss_cons (ps_for PassesOwn.never rfl (pi_range1 (by rfl) T.bt.range (pa_cons pe_int pa_nil)) (pg_name (i := 2) scLaw.nd rfl (Or.inl rfl))
          (pss_cons (ps_set (i := 3) scLaw.nd rfl (Or.inr rfl) (pe_call (E := E0) GP (hr.mono (by decide)) (by rfl) T.LPlan.g T.LPlan.F.kp T.LPlan.b .nil pass0 (pa_cons (pv 1) (pa_cons pe_int (pa_cons pe_int pa_nil)))))
            (pss_cons (ps_if (pt_cmpR op_eq (pe_call (E := E0) GN (hr.mono (by decide)) (by rfl) T.LNext.g T.LNext.F.kp T.LNext.b .nil pass0 (pa_cons (pv 1) (pa_cons pe_int pa_nil))) pe_int (nomark _)) (pss_one (ps_set (i := 3) scLaw.nd rfl (Or.inr rfl) (pe_call (E := E0) GS (hr.mono (by decide)) (by rfl) T.LSpoilt.g T.LSpoilt.F.kp T.LSpoilt.b .nil pass0 (pa_cons (pv 1) (pa_cons (pv 3) pa_nil))))) pss_nil)
            (pss_cons (ps_set (i := 4) scLaw.nd rfl (Or.inl rfl) (pe_call (E := E0) GB (hr.mono (by decide)) (by rfl) T.LFirstBad.g T.LFirstBad.F.kp T.LFirstBad.b .nil pass0 (pa_cons (pv 3) pa_nil)))
            (pss_cons (ps_set (i := 5) scLaw.nd rfl (Or.inr rfl) (pe_op op_sub (pe_call (E := E0) GN (hr.mono (by decide)) (by rfl) T.LNext.g T.LNext.F.kp T.LNext.b .nil pass0 (pa_cons (pv 1) (pa_cons pe_int pa_nil))) pe_int))
            (pss_cons (ps_set (i := 6) scLaw.nd rfl (Or.inl rfl) (pe_ifExp (pt_cmpR op_isN (pv 4) pe_non (nomark _)) (pe_tup (pa_cons pe_str pa_nil)) (pe_op op_catQ (pe_tup (pa_cons pe_str pa_nil)) (pv 4))))
            (pss_cons (ps_set (i := 7) scLaw.nd rfl (Or.inl rfl) (pe_lst (pa_cons (pe_lamK0 (js := [3]) LT (lb1 T)) (pa_cons (pe_lamK1 (js := [5, 3]) LT (lb2 T) hbn2) (pa_cons (pe_lamK1 (js := [3]) LT (lb3 T) hbn3) pa_nil)))))
            (pss_cons (ps_expr (pe_bm PySem.F.plainAttrs_list PySem.F.slot_list_append PySem.F.type_list_append mt_append (pv 7) <| pa_one (pe_lamK0 (js := [3]) LT (lb4 T))))
            (pss_cons (ps_if (pt_cmpR (op_neQ hr.units) (pe_lcI (own := [("_law_call", 15)]) (g := gName 15) (tt := fun _ => tYes) rfl scLaw.nd (pi_list (pv 7)) (blkOk_by (N := nLaw) (sc := defScope sLaw) (by decide +kernel)) (fun _ _ _ _ _ => pg_name (i := 15) scLaw.nd rfl (Or.inl rfl)) (fun _ _ _ _ _ _ _ => pts_nil) (fun _ _ _ _ _ _ B0 => pe_errBlk (i := 15) GX hr (fun _ => rfl) B0 (by rfl) T.LError.g T.LError.F.kp (pv 15))) (pe_op op_rep (pe_lst (pa_cons (pv 6) pa_nil)) pe_int) (nomark _)) pss_never pss_nil)
            (pss_one (ps_if (pt_cmpR op_isN (pv 4) pe_non (nomark _)) ((pss_cons (ps_setLc (i := 8) (own := [("_law_k", 16)]) (g := gName 16) (tt := tYes) (te := tCall (qMeet K) [] E0 (tCons (tVar 3) (tCons (tVar 16) tNil))) rfl scLaw.nd rfl rfl (sw_true rfl rfl rfl (by decide +kernel)) (pi_range2 (by rfl) T.bt.range (pa_cons pe_int (pa_cons pe_int pa_nil))) (blkOk_by (N := nLaw) (sc := defScope sLaw) (by decide +kernel))
                (fun _ _ _ _ _ => pg_name (i := 16) scLaw.nd rfl (Or.inl rfl)) (fun _ _ _ _ _ => pts_nil) (fun _ _ _ _ _ => pe_call (E := E0) GE (hr.mono (by decide)) (by rfl) T.LMeetings.g T.LMeetings.F.kp T.LMeetings.b .nil pass0 (pa_cons (pv 3) (pa_cons (pv 16) pa_nil))))
            (pss_cons (ps_set (i := 9) scLaw.nd rfl (Or.inl rfl) pe_int)
            (pss_cons (ps_while PassesOwn.never (pt_mo (pt_cmpR (op_neQ hr.units) (pe_op op_cat (pe_slice sl_list (pv 8) (po_some (pv 9)) po_none) (pe_slice sl_list (pv 8) po_none (po_some (pv 9)))) (pv 8) (nomark _)))
              (pss_one (ps_set (i := 9) scLaw.nd rfl (Or.inl rfl) (pe_op op_add (pv 9) pe_int))))
            (pss_cons (ps_if (pw_or (pt_cmpR op_ne (pe_call (E := E0) JP (hr.mono (by decide)) (by rfl) T.Pattern.g T.Pattern.F.kp T.Pattern.b .nil passL (pa_cons (pv 3) pa_nil)) (pv 9) (nomark _))
                (pw_or1 (pt_not (pt_val (pe_call (E := E0) GA (hr.mono (by decide)) (by rfl) T.LAlike.g T.LAlike.F.kp T.LAlike.b .nil pass0 (pa_cons (pe_call (E := E0) JV (hr.mono (by decide)) (by rfl) T.Visits.g T.Visits.F.kp T.Visits.b .nil passL (pa_cons (pv 3) (pa_cons (pv 5) pa_nil))) (pa_cons (pe_call (E := E0) GE (hr.mono (by decide)) (by rfl) T.LMeetings.g T.LMeetings.F.kp T.LMeetings.b .nil pass0 (pa_cons (pv 3) (pa_cons (pv 5) pa_nil))) pa_nil))))))).pt pss_never pss_nil)
            (pss_cons (ps_setLc (i := 10) (own := [("_law_k", 16)]) (g := gName 16) rfl scLaw.nd rfl rfl (sw_true rfl rfl rfl (by decide +kernel)) (pi_range1 (by rfl) T.bt.range (pa_cons (pe_callB call_len_seq (by rfl) T.bt.len b_len (pa_cons (pe_ix ix_tup (pv 3) pe_int (fun _ _ => rfl)) pa_nil)) pa_nil)) (blkOk_by (N := nLaw) (sc := defScope sLaw) (by decide +kernel))
                (fun _ _ _ _ _ => pg_name (i := 16) scLaw.nd rfl (Or.inl rfl)) (fun _ _ _ _ _ => pts_nil) (fun _ _ _ _ _ => pe_tup (pa_cons pe_str (pa_cons (pv 16) pa_nil))))
            (pss_cons (ps_for PassesOwn.never rfl (pi_range1 (by rfl) T.bt.range (pa_cons (pe_callB call_len_seq (by rfl) T.bt.len b_len (pa_cons (pe_ix ix_tup (pv 3) pe_int (fun _ _ => rfl)) pa_nil)) pa_nil)) (pg_name (i := 11) scLaw.nd rfl (Or.inr rfl))
              (pss_one (ps_set (i := 10) scLaw.nd rfl (Or.inl rfl) (pe_op op_cat (pv 10) (pe_lc (own := [("_law_k", 16)]) (g := gName 16) rfl scLaw.nd (pi_range1 (by rfl) T.bt.range (pa_cons (pe_ix ix_tup (pe_ix ix_tup (pv 3) pe_int (fun _ _ => rfl)) (pv 11) (fun _ _ => rfl)) pa_nil)) (blkOk_by (N := nLaw) (sc := defScope sLaw) (by decide +kernel))
                (fun _ _ _ _ _ => pg_name (i := 16) scLaw.nd rfl (Or.inl rfl)) (fun _ _ _ _ _ => pts_nil) (fun _ _ _ _ _ => pe_tup (pa_cons pe_str (pa_cons (pv 11) (pa_cons (pv 16) pa_nil)))))))))
            (pss_cons (ps_if (pt_not (pt_val (pe_call (E := E0) GA (hr.mono (by decide)) (by rfl) T.LAlike.g T.LAlike.F.kp T.LAlike.b .nil pass0 (pa_cons (pe_call (E := E0) JL (hr.mono (by decide)) (by rfl) T.Places.g T.Places.F.kp T.Places.b .nil passL (pa_cons (pv 3) pa_nil)) (pa_cons (pv 10) pa_nil))))) pss_never pss_nil)
            (pss_cons (ps_set (i := 12) scLaw.nd rfl (Or.inl rfl) (pe_call (E := E0) JT (hr.mono (by decide)) (by rfl) T.Initial.g T.Initial.F.kp T.Initial.b .nil passL (pa_cons (pv 3) pa_nil)))
            (pss_cons (ps_set (i := 13) scLaw.nd rfl (Or.inl rfl) (pe_callTy call_list_of (by rfl) T.bt.list b_list (pa_cons (pe_ix ix_tup (pv 12) pe_int (fun _ _ => rfl)) pa_nil)))
            (pss_cons (ps_for PassesOwn.never rfl (pi_tup (pe_ix ix_tup (pv 12) pe_int (fun _ _ => rfl))) (pg_name (i := 11) scLaw.nd rfl (Or.inr rfl))
              (pss_one (ps_set (i := 13) scLaw.nd rfl (Or.inl rfl) (pe_op op_cat (pv 13) (pe_callTy call_list_of (by rfl) T.bt.list b_list (pa_cons (pv 11) pa_nil))))))
            (pss_cons (ps_setLc (i := 14) (own := [("_law_one", 17)]) (g := gName 17) (tt := tYes) (te := tCB (rLn K) (tCons (tVar 17) tNil)) rfl scLaw.nd rfl rfl (sw_true rfl rfl rfl (by decide +kernel)) (pi_tup (pe_ix ix_tup (pv 12) pe_int (fun _ _ => rfl))) (blkOk_by (N := nLaw) (sc := defScope sLaw) (by decide +kernel))
                (fun _ _ _ _ _ => pg_name (i := 17) scLaw.nd rfl (Or.inl rfl)) (fun _ _ _ _ _ => pts_nil) (fun _ _ _ _ _ => pe_callB call_len_seq (by rfl) T.bt.len b_len (pa_cons (pv 17) pa_nil)))
            (pss_one (ps_if (pw_or (pt_cmpR op_ne (pe_ix ix_tup (pv 12) pe_int (fun _ _ => rfl)) pe_int (nomark _)) (pw_or (pt_cmpR (op_neQ hr.units) (pv 14) (pe_callTy call_list_of (by rfl) T.bt.list b_list (pa_cons (pe_ix ix_tup (pv 3) pe_int (fun _ _ => rfl)) pa_nil)) (nomark _))
                (pw_or1 (pt_cmpR (op_neQ hr.units) (pv 13) (pe_listRg rfl (by rfl) T.bt.list (prg_2 (by rfl) T.bt.range pe_int (pe_op op_add (pe_callB call_len_seq (by rfl) T.bt.len b_len (pa_cons (pv 10) pa_nil)) pe_int))) (nomark _))))).pt pss_never pss_nil))))))))))))))
            pss_nil)))))))))))
            (pss_one (ps_ret pe_bl)))), ?_⟩
    -- the source
    refine ⟨.ref a, rfl, a, ns, 1, rfl, hA, hl, fun H1 h l LH sm nh nl => ?_⟩
    refine ⟨6, rfl, by omega, by omega, ?_⟩
    refine for_range (lo := 0) (n := (6 : Int).toNat) (fun i σ H' => (∃ x0 x2 x3 x4 x5 x6 x7 x8 x9 x10 x11 x12 x13 x14 x15 x16 x17, σ = [x0, some (.ref h), x2, x3, x4, x5, x6, x7, x8, x9, x10, x11, x12, x13, x14, x15, x16, x17]) ∧ LS (lawT Pt) h l H')
      ⟨⟨_, _, _, _, _, _, _, _, _, _, _, _, _, _, _, _, _, rfl⟩, LH, hT.ext sm⟩ (fun i σ H2 hi ⟨⟨x0, x2, x3, x4, x5, x6, x7, x8, x9, x10, x11, x12, x13, x14, x15, x16, x17, es⟩, S2⟩ => ?_) (fun σ H2 _ => q _)
    subst es
    clear LH sm nh nl hT hA H1
    -- the plan
    refine ⟨.ref h, rfl, ?_⟩
    show qPlan _ _ _ _ _
    refine go_plan S2.law fun H3 p0 zs0 rs0 st3 hp3 g3 => ?_
    have S3 := S2.x st3.law st3.k
    refine (fun (key : ∀ (p : Addr) (zs : List Int) (rs : List Ro) (H' : Hp), LS (lawT Pt) h l H' → PlanAt K H' p zs rs → Small zs rs → (?G : Addr → Hp → Prop) p H') => ?main) ?key
    case main =>
      refine ⟨.ref h, rfl, ?_⟩
      show qNext _ _ _ _
      refine go_next S3.law (by decide) (by decide) fun n4 H4 hn4 L4 x4' => ⟨rfl, _, rfl, ?_⟩
      have S4 := S3.x L4 x4'
      have hp4 := hp3.x S3.law x4'
      by_cases z4 : n4 = 0
      · rw [decide_eq_true (by rw [z4]; rfl)]
        refine iteT ⟨.ref h, rfl, .ref p0, rfl, ?_⟩
        show qSpoilt _ _ _ _ _
        refine go_spoilt S4.law hp4 g3 fun H5 p' zs' rs' st5 hp5 s5 => ?_
        exact key p' zs' rs' H5 (S4.x st5.law st5.k) hp5 s5
      · rw [decide_eq_false fun z => z4 (by have := V.int.inj z; omega)]
        refine iteF ?_
        exact key p0 zs0 rs0 H4 S4 hp4 ⟨by have := g3.z1; omega, by have := g3.r1; omega, fun r hr => by have := g3.r2 r hr; omega⟩
    intro p zs rs H4 S4 hp4 s4
    refine ⟨.ref p, rfl, ?_⟩
    show qBad _ _ _ _ _
    refine go_bad2 hp4 s4 fun v4 H5 m5 hv4 => ?_
    have S5 := S4.s m5
    refine ⟨.ref h, rfl, ?_⟩
    show qNext _ _ _ _
    refine go_next S5.law (by decide) (by decide) fun n6 H6 hn6 L6 x6' => ⟨n6, 100, rfl, rfl, ?_⟩
    have S6 := S5.x L6 x6'
    have hp6 := (hp4.same m5).x S5.law x6'
    refine (fun (key2 : ∀ (t : Addr) (H' : Hp), Same H6 H' → SqT K H' t (dueV (bad zs rs)) → (?G2 : Addr → Hp → Prop) t H') => ?main2) ?key2
    case main2 =>
      refine ⟨v4, rfl, rfl, _, rfl, ?_⟩
      rcases hv4 with ⟨e, hv⟩ | ⟨part, i, t5, e, hv, k5⟩
      · rw [decide_eq_true hv]
        refine iteT ⟨(by show 1 ≤ sizeLine; decide), fun t7 ht7 => ?_⟩
        have m7 := same_upd (o := .tup [.str "none"]) ht7
        have k7 : SqT K (upd H6 t7 (.tup [.str "none"])) t7 [.str "none"] := .inl (.inl upd_same)
        generalize upd H6 t7 (.tup [.str "none"]) = H7 at m7 k7 ⊢
        refine key2 t7 H7 m7 ?_
        rw [e]
        exact k7
      · have k6 : SqT K H6 t5 [.str part, .int i] := sqT_x S5.law x6' (.inl (.inl k5))
        rw [decide_eq_false (fun z => by rw [hv] at z; cases z)]
        refine iteF ⟨(by show 1 ≤ sizeLine; decide), fun t7 ht7 => ⟨v4, rfl, ?_⟩⟩
        have m7 := same_upd (o := .tup [.str "plan"]) ht7
        have k7 : SqT K (upd H6 t7 (.tup [.str "plan"])) t7 [.str "plan"] := .inl (.inl upd_same)
        generalize upd H6 t7 (.tup [.str "plan"]) = H7 at m7 k7 ⊢
        refine cat_go2 k7 hv (sqT_same m7 k6) (by show 1 + 2 ≤ 1000; omega) fun H8 t8 m8 k8 => ?_
        refine key2 t8 H8 (m7.trans m8) ?_
        rw [e]
        exact k8
    have hv4 : decide (v4 = .non) = decide (bad zs rs = none) := by
      rcases hv4 with ⟨e, hv⟩ | ⟨part, i, t5, e, hv, k5⟩
      · rw [hv, e]
        rfl
      · rw [hv, e]
        rfl
    intro t H8 m8 k8
    have S8 := S6.s m8
    have hp8 := hp6.same m8
    clear m8 S6 hp6 S5 m5 x6' L6
    clear S4 hp4
    -- the works
    refine ⟨S8.tabs, fun f1 H24 x24 v24 t24 nf1 is1 => ⟨t24, fun f2 H25 x25 v25 t25 nf2 is2 => ⟨t25, fun f3 H26 x26 v26 t26 nf3 is3 => ⟨(by show 3 ≤ sizeLine; decide), fun W hW => ?_⟩⟩⟩⟩
    have S26 := ((S8.e x24 t24).e x25 t25).e x26 t26
    have E26 := ((ExtL.n x24).trans (.n x25)).trans (.n x26)
    have nW : W ≠ h ∧ W ≠ l := by
      obtain ⟨m, ii, cs, e1, e2, e3⟩ := S26.law.ex
      exact ⟨(ne_of_none e1 hW).symm, (ne_of_none e2 hW).symm⟩
    have m27 : Same H26 (upd H26 W (.lst [.ref f1, .ref f2, .ref f3])) := same_upd hW
    have d27 : (upd H26 W (.lst [.ref f1, .ref f2, .ref f3])) W = some (.lst [.ref f1, .ref f2, .ref f3]) := upd_same
    generalize upd H26 W (.lst [.ref f1, .ref f2, .ref f3]) = H27 at m27 d27 ⊢
    have S27 := S26.s m27
    have E27 := E26.trans (.s m27)
    have is1 := is1.extL (((ExtL.n x25).trans (.n x26)).trans (.s m27))
    have is2 := is2.extL ((ExtL.n x26).trans (.s m27))
    have is3 := is3.extL (.s m27)
    clear S26 E26 x24 x25 x26 v24 v25 v26 t24 t25 t26 nf1 nf2 nf3 m27 hW
    refine ⟨.ref W, rfl, .inl ⟨rfl, _, .inl (.inl d27)⟩, S27.tabs, fun f4 H28 x28 v28 t28 nf4 is4 => ?_⟩
    have S28 := S27.e x28 t28
    have d28 := x28 _ _ d27 (fun _ z => nomatch z)
    refine ⟨W, _, _, rfl, rfl, d28, (by show 3 < sizeLine; decide), ?_⟩
    have S32 := S28.u (o := .lst ([V.ref f1, V.ref f2, V.ref f3] ++ [V.ref f4])) d28 nW.1 nW.2
    have u32 : ExtL H28 (upd H28 W (.lst ([V.ref f1, V.ref f2, V.ref f3] ++ [V.ref f4]))) := ExtL.upd d28
    have d32 : (upd H28 W (.lst ([V.ref f1, V.ref f2, V.ref f3] ++ [V.ref f4]))) W = some (.lst [.ref f1, .ref f2, .ref f3, .ref f4]) := upd_same
    generalize upd H28 W (.lst ([V.ref f1, V.ref f2, V.ref f3] ++ [V.ref f4])) = H32 at S32 u32 d32 ⊢
    have s32 : ExtL H27 H32 := (ExtL.n x28).trans u32
    have is1 := is1.extL s32
    have is2 := is2.extL s32
    have is3 := is3.extL s32
    have is4 := is4.extL u32
    have E32 := E27.trans s32
    have hp32 := hp8.ext E32
    have k32 := sqT_ext E32 k8
    clear E27 s32 u32 d28 x28 v28 t28 nf4 S27 S28 d27 E32 hp8 k8 S8
    -- their errors
    refine ⟨.ref W, rfl, W, rfl, ⟨_, .inl (.inl d32)⟩, fun D33 hD33 => ?_⟩
    refine lc_list (xs := [.ref f1, .ref f2, .ref f3, .ref f4]) (fun i H' => ExtN H32 H' ∧ Tabs (lawT Pt) H' ∧ ∃ ps : List Addr, ps.length = i ∧ H' D33 = some (.lst (ps.map V.ref)) ∧ ∀ p ∈ ps, H' p = some (.tup (dueV (bad zs rs))))
      ⟨extN_same (same_upd hD33), S32.tabs.ext (same_upd hD33), [], rfl, upd_same, fun p hp => (List.not_mem_nil hp).elim⟩ (fun i H' _ h => .inl (.inl (h.1 _ _ d32 (fun _ z => nomatch z)))) (fun i x H' hx ⟨e33, t33, ps, hps, hd, hpp⟩ => ?_) (fun H' ⟨e33, t33, ps, hps, hd, hpp⟩ => ?_)
    · have hi6 : i < 4 := (List.getElem?_eq_some_iff.mp hx).1
      have st := comp_step (t0 := dueV (bad zs rs)) hD33 e33 t33 hps hd hpp (by omega)
      have L33 := ExtL.n e33
      have hp33 := hp32.ext L33
      refine ⟨rfl, yes_go ?_⟩
      have hc6 : i = 0 ∨ i = 1 ∨ i = 2 ∨ i = 3 := by omega
      rcases hc6 with h0 | h0 | h0 | h0
      · rw [h0] at hx
        obtain rfl := Option.some.inj hx
        exact ⟨f1, [3], tl1 K T.C, rfl, is1.extL L33, tl1_go AP hp33 s4 st⟩
      · rw [h0] at hx
        obtain rfl := Option.some.inj hx
        exact ⟨f2, [5, 3], tl2 K T.C, rfl, is2.extL L33, tl2_go AP hp33 s4 st⟩
      · rw [h0] at hx
        obtain rfl := Option.some.inj hx
        exact ⟨f3, [3], tl3 K T.C, rfl, is3.extL L33, tl3_go AP hp33 s4 st⟩
      · rw [h0] at hx
        obtain rfl := Option.some.inj hx
        exact ⟨f4, [3], tl4 K T.C, rfl, is4.extL L33, tl4_go AP hp33 s4 st⟩
    have S33 : LS (lawT Pt) h l H' := S32.e e33 t33
    have hp33 := hp32.ext (ExtL.n e33)
    have k33 := sqT_ext (ExtL.n e33) k32
    clear S32 hp32 k32 is1 is2 is3 is4 e33 t33 hD33 d32
    refine ⟨.ref t, rfl, (by show 1 ≤ sizeLine; decide), fun u34 hu34 => ?_⟩
    refine ⟨u34, 4, _, rfl, rfl, upd_same, by omega, by omega, (by show 1 * 4 ≤ sizeLine; decide), fun v34 hv34 => ?_⟩
    have m35 : Same H' (upd H' u34 (.lst [.ref t])) := same_upd hu34
    generalize upd H' u34 (.lst [.ref t]) = H35 at m35 hv34 ⊢
    have m36 : Same H35 (upd H35 v34 (.lst (List.replicate (4 : Int).toNat [V.ref t]).flatten)) := same_upd hv34
    have k36 : (upd H35 v34 (.lst (List.replicate (4 : Int).toNat [V.ref t]).flatten)) v34 = some (.lst ((List.replicate 4 t).map V.ref)) := upd_same
    generalize upd H35 v34 (.lst (List.replicate (4 : Int).toNat [V.ref t]).flatten) = H36 at m36 k36 ⊢
    have m3 := m35.trans m36
    refine ne_due (zs := zs) (rs := rs) (n := 4) (m3 _ _ hd) (fun y hy => .inl (.inl (m3 _ _ (hpp y hy)))) hps k36 (fun y hy => ?_) rfl ⟨false, rfl, iteF ?_⟩
    · rw [(List.mem_replicate.mp hy).2]
      exact sqT_same m3 k33
    have S36 := S33.s m3
    have hp36 := hp33.same m3
    clear S33 hp33 k33 m3 m35 m36 k36 hd hpp hps hv34 hu34
    -- valid?
    refine ⟨v4, rfl, rfl, _, rfl, ?_⟩
    rw [hv4]
    by_cases e : bad zs rs = none
    case neg =>
      rw [decide_eq_false e]
      exact iteF ⟨⟨_, _, _, _, _, _, _, _, _, _, _, _, _, _, _, _, _, rfl⟩, S36⟩
    rw [decide_eq_true e]
    refine iteT ?_
    have gd := good_of e
    -- the rows
    refine ⟨1, 121, rfl, ⟨by decide, by decide, by decide, by decide⟩, fun D hD => ?_⟩
    refine lc_range (lo := 1) (n := ((121 : Int) - 1).toNat) (fun i H' => Same H36 H' ∧ ∃ fs : List Addr, H' D = some (.lst (fs.map V.ref)) ∧ (∀ f ∈ fs, f ≠ D) ∧ LLs H' fs ((rowsN rs i).map pvs))
      ⟨same_upd hD, [], upd_same, fun f hf => (List.not_mem_nil hf).elim, .nil⟩ (fun i H' hi ⟨m, fs, kD, nD, ll⟩ => ?_) (fun H' ⟨m, fs, kD, nD, ll⟩ => ?_)
    · refine ⟨rfl, yes_go ⟨.ref p, rfl, .int (1 + (i : Nat)), rfl, ?_⟩⟩
      show qMeet _ _ _ _ _
      refine go_meet (hp36.same m) gd fun H5 f5 m5 n5 tl5 => ⟨_, m5 _ _ kD, ?_, ?_⟩
      · rw [List.length_map, lls_len ll, List.length_map, rowsN_len]
        exact small1000 (by have : ((121 : Int) - 1).toNat = 120 := rfl; omega)
      · have f5D : f5 ≠ D := fun z => by rw [z, kD] at n5; cases n5
        have kD5 := m5 _ _ kD
        refine ⟨same_of (m.trans m5) hD, fs ++ [f5], by rw [upd_same, List.map_append]; rfl, fun f hf => ?_, ?_⟩
        · rcases List.mem_append.mp hf with hf | hf
          · exact nD f hf
          · rw [List.mem_singleton.mp hf]
            exact f5D
        · rw [rowsN_succ, List.map_append]
          refine lls_app (lls_upd kD5 nD (lls_same m5 ll)) (.cons ?_ .nil)
          rw [show (1 : Int) + (i : Nat) - 1 = (i : Nat) by omega, meets_pvs] at tl5
          exact tl5.upd kD5 f5D
    have e120 : ((121 : Int) - 1).toNat = 120 := rfl
    rw [e120] at ll
    have S37 := S36.s m
    have hp37 := hp36.same m
    clear S36 hp36 m hD
    have lcb := lc_le gd.r2
    have fsl : fs.length = 120 := by rw [lls_len ll, List.length_map, rowsN_len]
    -- the length
    refine while_by (fun σ H2 => ∃ k : Nat, 1 ≤ k ∧ k ≤ lc rs ∧ σ = [x0, some (.ref h), some (.int (0 + (i : Nat))), some (.ref p), some v4, some (.int (n6 - 100)), some (.ref t), some (.ref W), some (.ref D), some (.int (k : Nat)), x10, x11, x12, x13, x14, x15, x16, x17] ∧ Same H' H2)
      (fun (σ : L2.St) H2 => match σ[9]? with | some (some (V.int z)) => lc rs + 1 - z.toNat | _ => 0)
      ⟨1, Nat.le_refl _, lcb.1, rfl, fun _ _ h => h⟩ (fun σ H2 ⟨k, k1, k2, es, m2⟩ => ?_) mo_mono
    subst es
    refine mo_go ?_
    have kD2 := m2 _ _ kD
    refine ⟨.ref D, rfl, .int (k : Nat), rfl, k, rfl, D, _, rfl, .inl (.inl kD2), fun q1 hq1 => ⟨.ref D, rfl, .int (k : Nat), rfl, k, rfl, D, _, rfl, .inl (.inl (same_upd hq1 _ _ kD2)), fun q2 hq2 => ?_⟩⟩
    rw [cut_from, cut_to]
    have s1 := same_upd (o := .lst ((fs.map V.ref).drop k)) hq1
    have j1 : (upd H2 q1 (.lst ((fs.map V.ref).drop k))) q1 = some (.lst ((fs.map V.ref).drop k)) := upd_same
    rw [cut_from] at hq2
    generalize upd H2 q1 (.lst ((fs.map V.ref).drop k)) = H3 at s1 j1 hq2 ⊢
    have s2 := same_upd (o := .lst ((fs.map V.ref).take k)) hq2
    have j2 : (upd H3 q2 (.lst ((fs.map V.ref).take k))) q2 = some (.lst ((fs.map V.ref).take k)) := upd_same
    generalize upd H3 q2 (.lst ((fs.map V.ref).take k)) = H4 at s2 j2 ⊢
    refine ⟨q1, q2, _, _, rfl, rfl, s2 _ _ j1, j2, ?_, fun q3 hq3 => ⟨.ref D, rfl, ?_⟩⟩
    · rw [List.length_drop, List.length_take, List.length_map, fsl]
      exact sz1000 (by omega)
    have s3 := same_upd (o := .lst ((fs.map V.ref).drop k ++ (fs.map V.ref).take k)) hq3
    have j3 : (upd H4 q3 (.lst ((fs.map V.ref).drop k ++ (fs.map V.ref).take k))) q3 = some (.lst ((fs.map V.ref).drop k ++ (fs.map V.ref).take k)) := upd_same
    rw [← List.map_drop, ← List.map_take, ← List.map_append] at s3 j3
    rw [← List.map_drop, ← List.map_take, ← List.map_append]
    generalize upd H4 q3 (.lst ((fs.drop k ++ fs.take k).map V.ref)) = H5 at s3 j3 ⊢
    have m5 : Same H2 H5 := (s1.trans s2).trans s3
    have ll5 := lls_same (m2.trans m5) ll
    have e5 : (rot (rowsN rs 120) k).map pvs = ((rowsN rs 120).map pvs).drop k ++ ((rowsN rs 120).map pvs).take k := by
      unfold rot
      rw [List.map_append, List.map_drop, List.map_take]
    refine neRw_go (a := rot (rowsN rs 120) k) (b := rowsN rs 120) j3 (by rw [e5]; exact lls_app (lls_drop k ll5) (lls_take k ll5)) (m5 _ _ kD2) ll5 ⟨_, rfl, ?_⟩
    have rr := rows_rot gd.r2 (L := k) (by omega)
    by_cases hk : rot (rowsN rs 120) k = rowsN rs 120
    case neg =>
      rw [decide_eq_false hk]
      have hlt : k < lc rs := by
        by_cases z : k = lc rs
        · rw [z] at hk rr
          exact absurd (rr.mpr (Nat.dvd_refl _)) hk
        · omega
      refine iteT ⟨.int (k : Nat), rfl, k, 1, rfl, rfl, ⟨k + 1, by omega, by omega, rfl, m2.trans m5⟩, ?_⟩
      show lc rs + 1 - ((k : Int) + 1).toNat < lc rs + 1 - (k : Int).toNat
      omega
    rw [decide_eq_true hk]
    refine iteF ?_
    have ek : k = lc rs := by
      have := Nat.le_of_dvd (by omega) (rr.mp hk)
      omega
    have m6 := m2.trans m5
    have S6 := S37.s m6
    have hp6 := hp37.same m6
    clear ll5 e5 s1 s2 s3 j1 j2 j3 hq1 hq2 hq3 kD2 m2 m5 S37 hp37 kD ll nD fsl
    -- the pattern and the visits
    refine ⟨.ref p, rfl, ?_⟩
    show qPattern _ _ _ _ _ _
    refine go_pattern hp6 s4 e fun H7 m7 => ⟨.int (k : Nat), rfl, rfl, _, rfl, ?_⟩
    rw [decide_eq_true (by rw [ek])]
    refine iteF ⟨.ref p, rfl, .int (n6 - 100), rfl, ?_⟩
    show qVisits _ _ _ _ _ _
    refine go_visits (hp6.same m7) s4 e fun H8 f8 m8 n8 tl8 => ⟨.ref p, rfl, .int (n6 - 100), rfl, ?_⟩
    show qMeet _ _ _ _ _
    refine go_meet ((hp6.same m7).same m8) gd fun H9 f9 m9 n9 tl9 => ?_
    show qAlike _ _ _ _ _
    rw [meets_pvs] at tl8 tl9
    refine go_alike (dp_tlM (tl8.same m9)) (dp_tlM tl9) ?_ fun Ha ma => ⟨true, rfl, iteF ?_⟩
    · unfold dM
      rw [okD, Bool.and_eq_true]
      refine ⟨decide_eq_true ?_, okD_pv⟩
      rw [List.length_map]
      have := meetN_len rs (n6 - 100 - 1) rs.length
      have e2 := congrArg List.length (prs_meet rs (n6 - 100 - 1) rs.length)
      rw [List.length_map] at e2
      have := gd.r1
      omega
    have m10 := ((m7.trans m8).trans m9).trans ma
    have S10 := S6.s m10
    have hp10 := hp6.same m10
    clear m10 m7 m8 m9 ma S6 hp6 tl8 tl9 n8 n9 rr hk m6
    -- the places
    obtain ⟨aa, bb, hpq, haa, hbb⟩ := hp10.ex
    obtain ⟨qs, hA, hP⟩ := hbb.ex
    have hql := paired_len hP
    have ei : ∀ i : Nat, (0 : Int) + (i : Nat) = (i : Nat) := fun i => by omega
    have b62 : (1000 : Int) < 2 ^ 62 := by decide
    refine ⟨.ref p, rfl, p, _, 1, .ref bb, rfl, rfl, hpq, rfl, bb, _, rfl, .inr hA, _, rfl, by omega, by rw [List.length_map, hql]; have := gd.r1; omega, fun D2 hD2 => ?_⟩
    rw [List.length_map, hql]
    refine lc_range (lo := 0) (n := ((rs.length : Nat) : Int).toNat) (fun i H' => Same Ha H' ∧ TL H' D2 (carV i)) ⟨same_upd hD2, [], upd_same, .nil⟩ (fun j H' hj ⟨sm, tl⟩ => ?_) (fun Hb ⟨sm, tl⟩ => ?_)
    · rw [Int.toNat_natCast] at hj
      rw [ei]
      obtain ⟨ps, hff, htv⟩ := tl.ex
      refine ⟨rfl, yes_go ⟨.int (j : Nat), rfl, (by show 2 ≤ sizeLine; decide), fun t ht => ⟨ps.map V.ref, ?_, ?_, same_of (same_of sm (Same.free sm ht)) hD2, ?_⟩⟩⟩
      · rw [upd_ne (ne_of_none hff ht)]
        exact hff
      · rw [tl.len hff, carV_len]
        exact small1000 (by have := gd.r1; omega)
      · rw [carV_succ]
        exact (tl.same (same_upd ht)).push (by rw [upd_ne (ne_of_none hff ht)]; exact hff) upd_same
    rw [Int.toNat_natCast] at tl
    clear hD2
    refine ⟨.ref p, rfl, p, _, 0, .ref aa, rfl, rfl, sqT_same sm hpq, rfl, aa, _, rfl, .inr (sqT_same sm haa), _, rfl, by omega, by rw [List.length_map]; have := gd.z1; omega, ?_⟩
    rw [List.length_map]
    refine for_range (lo := 0) (n := ((zs.length : Nat) : Int).toNat) (fun j σ H' => (∃ (y10 : Addr) (y11 : Option V), σ = [x0, some (.ref h), some (.int (0 + (i : Nat))), some (.ref p), some v4, some (.int (n6 - 100)), some (.ref t), some (.ref W), some (.ref D), some (.int (k : Nat)), some (.ref y10), y11, x12, x13, x14, x15, x16, x17] ∧ TL H' y10 (carV rs.length ++ shN zs j)) ∧ Same Ha H')
      ⟨⟨D2, x11, rfl, by rw [show shN zs 0 = [] from rfl, List.append_nil]; exact tl⟩, sm⟩ (fun j σ H' hj ⟨⟨y10, y11, es, tl2⟩, sm2⟩ => ?_) (fun σ Hc ⟨⟨y10, y11, es, tl2⟩, sm2⟩ => ?_)
    · subst es
      rw [Int.toNat_natCast] at hj
      rw [ei]
      obtain ⟨z, hz1⟩ : ∃ z, zs[j]? = some z := ⟨zs[j], List.getElem?_eq_getElem hj⟩
      have hz := gd.z2 z (List.mem_of_getElem? hz1)
      have zd : zs.getD j 0 = z := by rw [List.getD_eq_getElem?_getD, hz1]; rfl
      refine ⟨.ref y10, rfl, .ref p, rfl, p, _, 0, .ref aa, rfl, rfl, sqT_same sm2 hpq, rfl, .int (j : Nat), rfl, aa, _, (j : Nat), .int z, rfl, rfl, sqT_same sm2 haa, atI_nat (by rw [List.getElem?_map, hz1]; rfl), z, rfl, by omega, by omega, fun D3 hD3 => ?_⟩
      refine lc_range (lo := 0) (n := z.toNat) (fun u H3 => Same H' H3 ∧ TL H3 D3 (posV j u)) ⟨same_upd hD3, [], upd_same, .nil⟩ (fun u H3 hu ⟨sm4, tl4⟩ => ?_) (fun H3 ⟨sm4, tl4⟩ => ?_)
      · rw [ei]
        obtain ⟨ps2, hdd, htv2⟩ := tl4.ex
        refine ⟨rfl, yes_go ⟨.int (j : Nat), rfl, .int (u : Nat), rfl, (by show 3 ≤ sizeLine; decide), fun t ht => ⟨ps2.map V.ref, ?_, ?_, same_of (same_of sm4 (Same.free sm4 ht)) hD3, ?_⟩⟩⟩
        · rw [upd_ne (ne_of_none hdd ht)]
          exact hdd
        · rw [tl4.len hdd, posV_len]
          exact small1000 (by omega)
        · rw [posV_succ]
          exact (tl4.same (same_upd ht)).push (by rw [upd_ne (ne_of_none hdd ht)]; exact hdd) upd_same
      · have tl3 := tl2.same sm4
        obtain ⟨ps2, hdd, htv2⟩ := tl4.ex
        obtain ⟨ps3, hee, htv3⟩ := tl3.ex
        refine ⟨y10, D3, _, _, rfl, rfl, hee, hdd, ?_, fun p3 hp3 => ⟨⟨p3, _, rfl, ?_⟩, same_of (sm2.trans sm4) (Same.free (sm2.trans sm4) hp3)⟩⟩
        · rw [tl3.len hee, tl4.len hdd, List.length_append, carV_len, posV_len]
          have := shN_len gd.z2 j (by omega)
          have := gd.z1
          have := gd.r1
          exact sz1000 (by omega)
        · have := tl3.cat tl4 hee hdd hp3
          rw [show shN zs (j + 1) = shN zs j ++ posV j (zs.getD j 0).toNat from rfl, zd, ← List.append_assoc]
          exact this
    subst es
    rw [Int.toNat_natCast] at tl2
    have hp11 := hp10.same sm2
    refine ⟨.ref p, rfl, ?_⟩
    show qPlaces _ _ _ _ _ _
    refine go_places hp11 s4 e fun Hd f8 m8 n8 tl8 => ⟨.ref y10, rfl, ?_⟩
    show qAlike _ _ _ _ _
    have tl9 : TL Hd y10 (placesV zs rs.length) := tl2.same m8
    have pl := places_len zs rs.length
    have psm := places_small zs rs.length
    have sN := sumN_le gd.z2
    have z1 := gd.z1
    have r1 := gd.r1
    refine go_alike (dp_tlS tl8 fun t ht => (psm t ht).1) (dp_tlS tl9 fun t ht => (psm t ht).1) ?_ fun He m9 => ⟨true, rfl, iteF ?_⟩
    · rw [okD, Bool.and_eq_true]
      refine ⟨decide_eq_true ?_, okD_sim fun t ht => (psm t ht).2⟩
      rw [List.length_map, pl]
      omega
    have tlE := tl9.same m9
    have mE := (sm2.trans m8).trans m9
    have hpE := hp10.same mE
    clear tl8 tl9 tl2 tl sm2 m8 m9 n8 hp11 sm
    -- the first state
    refine ⟨.ref p, rfl, ?_⟩
    show qInitial _ _ _ _ _ _
    refine go_initial hpE s4 e fun Hf ts mF _ stA => ?_
    obtain ⟨ca, sh, kts, lay⟩ := stA.ex
    obtain ⟨us, lsh, lsg⟩ := lay.s
    have lca : SqT K Hf ca (((parc (rs.length + sumN zs)).take rs.length).map V.int) := lay.c
    have lsg : Paired (fun q s => SqT K Hf q (s.map V.int)) us (segs (parc (rs.length + sumN zs)) rs.length zs) := lsg
    have tlF := tlE.same mF
    have haF := sqT_same (mE.trans mF) haa
    have hpF := sqT_same (mE.trans mF) hpq
    have sgl := segs_len (parc (rs.length + sumN zs)) rs.length zs
    have usl : us.length = zs.length := by rw [segT_len lsg, sgl]
    refine ⟨.ref ts, rfl, ts, _, 1, .ref ca, rfl, rfl, kts, rfl, ca, _, rfl, .inr lca, fun Lp hLp => ?_⟩
    have mG := same_upd (o := .lst (((parc (rs.length + sumN zs)).take rs.length).map V.int)) hLp
    have kG : (upd Hf Lp (.lst (((parc (rs.length + sumN zs)).take rs.length).map V.int))) Lp = some (.lst (((parc (rs.length + sumN zs)).take rs.length).map V.int)) := upd_same
    generalize upd Hf Lp (.lst (((parc (rs.length + sumN zs)).take rs.length).map V.int)) = Hg at mG kG ⊢
    refine ⟨.ref ts, rfl, ts, _, 2, .ref sh, rfl, rfl, sqT_same mG kts, rfl, sh, rfl, ⟨_, sqT_same mG lsh⟩, ?_⟩
    refine for_tup (xs := us.map V.ref) (fun j σ H' => (∃ (y13 : Addr) (y11 : Option V), σ = [x0, some (.ref h), some (.int (0 + (i : Nat))), some (.ref p), some v4, some (.int (n6 - 100)), some (.ref t), some (.ref W), some (.ref D), some (.int (k : Nat)), some (.ref y10), y11, some (.ref ts), some (.ref y13), x14, x15, x16, x17] ∧
        H' y13 = some (.lst (((parc (rs.length + sumN zs)).take rs.length ++ ((segs (parc (rs.length + sumN zs)) rs.length zs).take j).flatten).map V.int))) ∧ Same Hf H')
      ⟨⟨Lp, _, rfl, by rw [List.take_zero]; show _ = some (HO.lst ((_ ++ []).map V.int)); rw [List.append_nil]; exact kG⟩, mG⟩ (fun j σ H' _ h => sqT_same h.2 lsh) (fun j x σ H' hx ⟨⟨y13, y11', es, k13⟩, m13⟩ => ?_) (fun σ Hh ⟨⟨y13, y11', es, k13⟩, m13⟩ => ?_)
    · subst es
      obtain ⟨qa, hqa, rfl⟩ := refs_lt hx
      obtain ⟨sg, hs1, hs2⟩ := segT_at lsg hqa
      refine ⟨.ref y13, rfl, .ref qa, rfl, qa, _, rfl, .inr (sqT_same m13 hs2), fun l hl => ?_⟩
      have ml := same_upd (o := .lst (sg.map V.int)) hl
      have k2 := ml _ _ k13
      have fl : ((parc (rs.length + sumN zs)).take rs.length ++ ((segs (parc (rs.length + sumN zs)) rs.length zs).take (j + 1)).flatten).map V.int = ((parc (rs.length + sumN zs)).take rs.length ++ ((segs (parc (rs.length + sumN zs)) rs.length zs).take j).flatten).map V.int ++ sg.map V.int := by
        rw [← List.map_append, List.append_assoc]
        congr 2
        rw [List.take_add_one, hs1, List.flatten_append]
        simp
      refine ⟨y13, l, _, _, rfl, rfl, k2, upd_same, ?_, fun p3 hp3 => ⟨⟨p3, _, rfl, ?_⟩, same_of (m13.trans ml) (Same.free (m13.trans ml) hp3)⟩⟩
      · rw [← List.length_append, ← fl, List.length_map]
        have e1 : ((parc (rs.length + sumN zs)).take rs.length ++ ((segs (parc (rs.length + sumN zs)) rs.length zs).take (j + 1)).flatten).length ≤ rs.length + sumN zs := by
          have e3 := parc_all (n := rs.length) (zs := zs)
          have e4 : (segs (parc (rs.length + sumN zs)) rs.length zs).flatten = ((segs (parc (rs.length + sumN zs)) rs.length zs).take (j + 1)).flatten ++ ((segs (parc (rs.length + sumN zs)) rs.length zs).drop (j + 1)).flatten := by
            rw [← List.flatten_append, List.take_append_drop]
          rw [e4] at e3
          have e5 := congrArg List.length e3
          rw [parc_len, List.length_append, List.length_append] at e5
          rw [List.length_append]
          omega
        exact sz1000 (by omega)
      · rw [fl]
        exact upd_same
    subst es
    rw [List.length_map, usl, ← sgl, List.take_length, parc_all] at k13
    have kts2 := sqT_same m13 kts
    have lsh2 := sqT_same m13 lsh
    -- the sizes
    refine ⟨.ref ts, rfl, ts, _, 2, .ref sh, rfl, rfl, kts2, rfl, sh, rfl, ⟨_, lsh2⟩, fun D4 hD4 => ?_⟩
    refine lc_tup (xs := us.map V.ref) (fun j H' => Same Hh H' ∧ H' D4 = some (.lst ((((segs (parc (rs.length + sumN zs)) rs.length zs).map (fun s => (s.length : Int))).take j).map V.int))) ⟨same_upd hD4, upd_same⟩ (fun j H' _ h => sqT_same h.1 lsh2) (fun j x H' hx ⟨m4, k4⟩ => ?_) (fun Hi ⟨m4, k4⟩ => ?_)
    · obtain ⟨qa, hqa, rfl⟩ := refs_lt hx
      obtain ⟨sg, hs1, hs2⟩ := segT_at lsg hqa
      have jl : j < zs.length := by have := (List.getElem?_eq_some_iff.mp hqa).1; omega
      refine ⟨rfl, yes_go ⟨.ref qa, rfl, qa, _, rfl, .inr (sqT_same (m13.trans m4) hs2), _, k4, ?_, same_of m4 hD4, ?_⟩⟩
      · rw [List.length_map, List.length_take, List.length_map, sgl]
        exact small1000 (by omega)
      · rw [upd_same, List.take_add_one, List.getElem?_map, hs1, List.map_append, List.length_map]
        rfl
    have k4' : Hi D4 = some (.lst (zs.map V.int)) := by
      rw [k4, List.length_map, usl, List.take_of_length_le (by rw [List.length_map, sgl]; exact Nat.le_refl _), seg_sizes gd.z2]
    have mI := m13.trans m4
    refine ⟨.ref ts, rfl, ts, _, 0, .int 0, rfl, rfl, sqT_same mI kts, rfl, rfl, false, rfl, iteF ?_⟩
    refine ⟨.ref D4, rfl, .ref p, rfl, p, _, 0, .ref aa, rfl, rfl, sqT_same mI hpF, rfl, aa, _, rfl, .inr (sqT_same mI haF), fun l1 hl1 => ?_⟩
    have mJ := same_upd (o := .lst (zs.map V.int)) hl1
    refine neI_go (a := zs) (b := zs) (.inl (.inl (mJ _ _ k4'))) (.inl (.inl upd_same)) ⟨_, rfl, ?_⟩
    rw [decide_eq_true rfl]
    refine iteF ?_
    generalize upd Hi l1 (.lst (zs.map V.int)) = Hj at mJ ⊢
    have tlJ := tlF.same (mI.trans mJ)
    obtain ⟨ps9, k9, tv9⟩ := tlJ.ex
    have len9 : (ps9.map V.ref).length = rs.length + sumN zs := by rw [List.length_map, tupsV_len tv9, pl]
    have kp := mJ _ _ (m4 _ _ k13)
    refine ⟨.ref y13, rfl, .ref y10, rfl, y10, _, rfl, .inl (.inl (.inl k9)), _, 1, rfl, rfl, 1, _, rfl, rfl, ?_⟩
    rw [len9]
    refine ⟨RgOk.of_le (by omega) (by omega) (by omega) (by omega), fun l2 hl2 => ?_⟩
    rw [rgV_parc]
    have mK := same_upd (o := .lst ((parc (rs.length + sumN zs)).map V.int)) hl2
    refine neI_go (a := parc (rs.length + sumN zs)) (b := parc (rs.length + sumN zs)) (.inl (.inl (mK _ _ kp))) (.inl (.inl upd_same)) ⟨_, rfl, ?_⟩
    rw [decide_eq_true rfl]
    refine iteF ⟨⟨_, _, _, _, _, _, _, _, _, _, _, _, _, _, _, _, _, rfl⟩, S10.s (((mE.trans mF).trans mI).trans (mJ.trans mK))⟩
end
end Sv


set_option maxHeartbeats 8000000
namespace Sv
open PySem PySem.Spec PyProof.Rows L2 LamX NdefX
/-! ### the end -/
theorem walk_ofTsX {l : PySem.W.OpenLaw} {n k : Nat} {q : Program} {loose : List Str} {XP : (Str → Option Value) → Heap → Prop} {YP : World → Heap → Prop} {d : DefRec} {K : Params → PySem.W.Frag} {CX : World → CXT} {x : Str}
    (hn : l.most = some n) (hn2 : n ≤ sizeLine) (hdf : d.params.defaults = []) (hr : Room k callerA) (hY : ∀ (w : World) (h : Heap), YP w h → (K w.params).In h)
    (F : ∀ (w : World) (mg : Str → Option Value) (fa : Addr) (h : Heap), XP mg h → YP w h → (K w.params).In h → h.Ns mainGlobals mg → mg d.name = some (.ref fa) → LawAtS l w (K w.params) (CX w) k n x mg fa h)
    (hCX : ∀ (w : World) (H : Hp) (s : Shared) (e : Value) (s' : Shared), CX w [] H s (fun _ _ _ => False) e s' → False) :
    PySem.W.WalkO q loose XP YP l.row.toRowW d [] (fun f vs => PySem.call f vs) := by
  refine Att.attach_callB hn hdf fun w s₀ s₁ mg mb fa o pm cd doc a vs ns G Y ho hd hcd hmg hobj hints hlen hbits hg => ?_
  have KX := hY w _ Y
  obtain ⟨fd, cs, sp, hT, nT, C, hb, hsp, hF⟩ := F w mg fa _ G.X Y KX G.T.g hmg
  exact law_callTs KX G.T.g G.T.b G.T.builtins G.T.nolimit hg hT nT C G.T.bmain hobj hints (Nat.le_trans hlen hn2) hr hF hb (fun H hH hS => hsp H a ns hlen hbits hH hS) fun H e s' => hCX w H s₁ e s'
theorem be_of {l : List V} {j : Nat} (h : (l.take j).all (fun z => !eqV z (.bl true)) = true) : ∀ (m : Nat) (z : V), m < j → l[m]? = some z → eqV z (.bl true) = false := fun m z hm hz => by
  have q := List.all_eq_true.mp h z (List.mem_of_getElem? (i := m) (by rw [List.getElem?_take, if_pos hm]; exact hz))
  simpa using q
section
variable {K : PySem.W.Frag} {h : Heap} {mg : Str → Option Value}
theorem df_mk {x : Str} {st : Stmt} {f : Addr} {oc : Value} {od an : Option Addr} {osl : Array (Option Value)} {kV doc pm cdv ct : Value} {ps : List Str} (X : K.In h) (G : h.Ns mainGlobals mg) (a : PySem.W.nsIn K mainGlobals x = some (some (.ref f)))
    (l : K.lookup f = some ⟨oc, od, .func (PySem.W.fnOf x x (defArgs st) (defBody st) (defScope st) .none kV doc pm an cdv ct), osl⟩) (c : PySem.W.codeIn K cdv x = true) (k : PySem.W.keepIn K (.ref f) = true)
    (b : ∀ (kV doc pm : Value) (an : Option Addr) (cdv ct : Value) (us : List Value), us.length = ps.length → bindArgs (PySem.W.fnOf x x (defArgs st) (defBody st) (defScope st) .none kV doc pm an cdv ct) ⟨us, []⟩ = pure (ps.zip us)) :
    Df K mg x st ps f (PySem.W.fnOf x x (defArgs st) (defBody st) (defScope st) .none kV doc pm an cdv ct) := ⟨fun_mk l c k, (fun_mk l c k).binds b, PySem.W.mg_of X G a⟩
/-- all that is asked of one of the classes that the law names -/
structure ErF (K : PySem.W.Frag) (CS C0 C1 C2 C3 C4 C5 C6 C7 C8 C9 C10 C11 C12 C13 C14 D : Addr) (b0 b1 b2 b3 b4 b5 b6 b7 b8 b9 b10 b11 b12 b13 b14 : Bool) : Prop where
  exc : ExcC K D
  ex : PySem.W.exmOne K (.ref D) (.ref CS) = some true
  ve : PySem.W.kitOne K (.ref D) (.type "ValueError") = some true
  k0 : PySem.W.kitOne K (.ref D) (.ref C0) = some b0
  k1 : PySem.W.kitOne K (.ref D) (.ref C1) = some b1
  k2 : PySem.W.kitOne K (.ref D) (.ref C2) = some b2
  k3 : PySem.W.kitOne K (.ref D) (.ref C3) = some b3
  k4 : PySem.W.kitOne K (.ref D) (.ref C4) = some b4
  k5 : PySem.W.kitOne K (.ref D) (.ref C5) = some b5
  k6 : PySem.W.kitOne K (.ref D) (.ref C6) = some b6
  k7 : PySem.W.kitOne K (.ref D) (.ref C7) = some b7
  k8 : PySem.W.kitOne K (.ref D) (.ref C8) = some b8
  k9 : PySem.W.kitOne K (.ref D) (.ref C9) = some b9
  k10 : PySem.W.kitOne K (.ref D) (.ref C10) = some b10
  k11 : PySem.W.kitOne K (.ref D) (.ref C11) = some b11
  k12 : PySem.W.kitOne K (.ref D) (.ref C12) = some b12
  k13 : PySem.W.kitOne K (.ref D) (.ref C13) = some b13
  k14 : PySem.W.kitOne K (.ref D) (.ref C14) = some b14
theorem era_plan {CS C0 C1 C2 C3 C4 C5 C6 C7 C8 C9 C10 C11 C12 C13 C14 : Addr} (F : ErF K CS C0 C1 C2 C3 C4 C5 C6 C7 C8 C9 C10 C11 C12 C13 C14 C0 true false false false false false false false false false false false false false false) : ErA K CS C0 C1 C2 C3 C4 C5 C6 C7 C8 C9 C10 C11 C12 C13 C14 C0 "plan" :=
  ⟨_, _, _, _, _, _, _, _, _, _, _, _, _, _, _, 0, ⟨F.exc, F.ex, F.ve, F.k0, F.k1, F.k2, F.k3, F.k4, F.k5, F.k6, F.k7, F.k8, F.k9, F.k10, F.k11, F.k12, F.k13, F.k14, rfl, rfl, be_of rfl, rfl⟩⟩
theorem all_mk {P : Program} {w : World} {fa : Addr} {fWithin : Addr} {ocWithin kVWithin dcWithin pmWithin cdWithin ctWithin : Value} {odWithin anWithin : Option Addr} {slWithin : Array (Option Value)}
    {fPattern : Addr} {ocPattern kVPattern dcPattern pmPattern cdPattern ctPattern : Value} {odPattern anPattern : Option Addr} {slPattern : Array (Option Value)}
    {fVisits : Addr} {ocVisits kVVisits dcVisits pmVisits cdVisits ctVisits : Value} {odVisits anVisits : Option Addr} {slVisits : Array (Option Value)}
    {fPlaces : Addr} {ocPlaces kVPlaces dcPlaces pmPlaces cdPlaces ctPlaces : Value} {odPlaces anPlaces : Option Addr} {slPlaces : Array (Option Value)}
    {fCheckPlan : Addr} {ocCheckPlan kVCheckPlan dcCheckPlan pmCheckPlan cdCheckPlan ctCheckPlan : Value} {odCheckPlan anCheckPlan : Option Addr} {slCheckPlan : Array (Option Value)}
    {fCheckSizes : Addr} {ocCheckSizes kVCheckSizes dcCheckSizes pmCheckSizes cdCheckSizes ctCheckSizes : Value} {odCheckSizes anCheckSizes : Option Addr} {slCheckSizes : Array (Option Value)}
    {fCheckRoutes : Addr} {ocCheckRoutes kVCheckRoutes dcCheckRoutes pmCheckRoutes cdCheckRoutes ctCheckRoutes : Value} {odCheckRoutes anCheckRoutes : Option Addr} {slCheckRoutes : Array (Option Value)}
    {fIsRoute : Addr} {ocIsRoute kVIsRoute dcIsRoute pmIsRoute cdIsRoute ctIsRoute : Value} {odIsRoute anIsRoute : Option Addr} {slIsRoute : Array (Option Value)}
    {fPlacesOf : Addr} {ocPlacesOf kVPlacesOf dcPlacesOf pmPlacesOf cdPlacesOf ctPlacesOf : Value} {odPlacesOf anPlacesOf : Option Addr} {slPlacesOf : Array (Option Value)}
    {fNumPlaces : Addr} {ocNumPlaces kVNumPlaces dcNumPlaces pmNumPlaces cdNumPlaces ctNumPlaces : Value} {odNumPlaces anNumPlaces : Option Addr} {slNumPlaces : Array (Option Value)}
    {fVisitsIn : Addr} {ocVisitsIn kVVisitsIn dcVisitsIn pmVisitsIn cdVisitsIn ctVisitsIn : Value} {odVisitsIn anVisitsIn : Option Addr} {slVisitsIn : Array (Option Value)}
    {fCommon : Addr} {ocCommon kVCommon dcCommon pmCommon cdCommon ctCommon : Value} {odCommon anCommon : Option Addr} {slCommon : Array (Option Value)}
    {fRoutePat : Addr} {ocRoutePat kVRoutePat dcRoutePat pmRoutePat cdRoutePat ctRoutePat : Value} {odRoutePat anRoutePat : Option Addr} {slRoutePat : Array (Option Value)}
    {fSplit : Addr} {ocSplit kVSplit dcSplit pmSplit cdSplit ctSplit : Value} {odSplit anSplit : Option Addr} {slSplit : Array (Option Value)}
    {fInitial : Addr} {ocInitial kVInitial dcInitial pmInitial cdInitial ctInitial : Value} {odInitial anInitial : Option Addr} {slInitial : Array (Option Value)}
    {fStateOf : Addr} {ocStateOf kVStateOf dcStateOf pmStateOf cdStateOf ctStateOf : Value} {odStateOf anStateOf : Option Addr} {slStateOf : Array (Option Value)}
    {fLMix : Addr} {ocLMix kVLMix dcLMix pmLMix cdLMix ctLMix : Value} {odLMix anLMix : Option Addr} {slLMix : Array (Option Value)}
    {fLNext : Addr} {ocLNext kVLNext dcLNext pmLNext cdLNext ctLNext : Value} {odLNext anLNext : Option Addr} {slLNext : Array (Option Value)}
    {fLAlike : Addr} {ocLAlike kVLAlike dcLAlike pmLAlike cdLAlike ctLAlike : Value} {odLAlike anLAlike : Option Addr} {slLAlike : Array (Option Value)}
    {fLError : Addr} {ocLError kVLError dcLError pmLError cdLError ctLError : Value} {odLError anLError : Option Addr} {slLError : Array (Option Value)}
    {fLPlan : Addr} {ocLPlan kVLPlan dcLPlan pmLPlan cdLPlan ctLPlan : Value} {odLPlan anLPlan : Option Addr} {slLPlan : Array (Option Value)}
    {fLFirstBad : Addr} {ocLFirstBad kVLFirstBad dcLFirstBad pmLFirstBad cdLFirstBad ctLFirstBad : Value} {odLFirstBad anLFirstBad : Option Addr} {slLFirstBad : Array (Option Value)}
    {fLSpoilt : Addr} {ocLSpoilt kVLSpoilt dcLSpoilt pmLSpoilt cdLSpoilt ctLSpoilt : Value} {odLSpoilt anLSpoilt : Option Addr} {slLSpoilt : Array (Option Value)}
    {fLMeetings : Addr} {ocLMeetings kVLMeetings dcLMeetings pmLMeetings cdLMeetings ctLMeetings : Value} {odLMeetings anLMeetings : Option Addr} {slLMeetings : Array (Option Value)}
    {fLaw : Addr} {ocLaw kVLaw dcLaw pmLaw cdLaw ctLaw : Value} {odLaw anLaw : Option Addr} {slLaw : Array (Option Value)}
    {tm1 : Tok}
    {tm2 : Tok}
    {tm3 : Tok}
    {tm4 : Tok}
    {CS C0 C1 C2 C3 C4 C5 C6 C7 C8 C9 C10 C11 C12 C13 C14 : Addr}
    {pnm pq : Str} {pN : Addr} {pbs pbm : List Value} {psn : List Str} {psub : List Value} {pab : Bool} {pcol : Option Bool} {pdd : Option Addr} {pk0 pk1 pk2 pk3 pk5 : Option Value}
    {fI cc c0 : Addr} {ocI docI pmI ctI : Value} {odI : Option Addr} {slI : Array (Option Value)}
    {ccl : Value} {ccd : Option Addr} {ccs : Array (Option Value)}
    {kcl : Value} {kcd : Option Addr} {kvs : Array Value} {kcs : Array (Option Value)} {kfl : Str} {ktf : Tok}
    {c Pt : Addr} (X : K.In h) (G : h.Ns mainGlobals mg) (hfa : mg "law" = some (.ref fa)) (hPt : h.get? Pt = some { cls := .none, data := .fields #[] })
    (aWithin : PySem.W.nsIn K mainGlobals "is_within" = some (some (.ref fWithin)))
    (lWithin : K.lookup fWithin = some ⟨ocWithin, odWithin, .func (PySem.W.fnOf "is_within" "is_within" (defArgs sWithin) (defBody sWithin) (defScope sWithin) .none kVWithin dcWithin pmWithin anWithin cdWithin ctWithin), slWithin⟩)
    (cWithin : PySem.W.codeIn K cdWithin "is_within" = true)
    (kWithin : PySem.W.keepIn K (.ref fWithin) = true)
    (aPattern : PySem.W.nsIn K mainGlobals "pattern_length" = some (some (.ref fPattern)))
    (lPattern : K.lookup fPattern = some ⟨ocPattern, odPattern, .func (PySem.W.fnOf "pattern_length" "pattern_length" (defArgs sPattern) (defBody sPattern) (defScope sPattern) .none kVPattern dcPattern pmPattern anPattern cdPattern ctPattern), slPattern⟩)
    (cPattern : PySem.W.codeIn K cdPattern "pattern_length" = true)
    (kPattern : PySem.W.keepIn K (.ref fPattern) = true)
    (aVisits : PySem.W.nsIn K mainGlobals "visits" = some (some (.ref fVisits)))
    (lVisits : K.lookup fVisits = some ⟨ocVisits, odVisits, .func (PySem.W.fnOf "visits" "visits" (defArgs sVisits) (defBody sVisits) (defScope sVisits) .none kVVisits dcVisits pmVisits anVisits cdVisits ctVisits), slVisits⟩)
    (cVisits : PySem.W.codeIn K cdVisits "visits" = true)
    (kVisits : PySem.W.keepIn K (.ref fVisits) = true)
    (aPlaces : PySem.W.nsIn K mainGlobals "places" = some (some (.ref fPlaces)))
    (lPlaces : K.lookup fPlaces = some ⟨ocPlaces, odPlaces, .func (PySem.W.fnOf "places" "places" (defArgs sPlaces) (defBody sPlaces) (defScope sPlaces) .none kVPlaces dcPlaces pmPlaces anPlaces cdPlaces ctPlaces), slPlaces⟩)
    (cPlaces : PySem.W.codeIn K cdPlaces "places" = true)
    (kPlaces : PySem.W.keepIn K (.ref fPlaces) = true)
    (aCheckPlan : PySem.W.nsIn K mainGlobals "check_plan" = some (some (.ref fCheckPlan)))
    (lCheckPlan : K.lookup fCheckPlan = some ⟨ocCheckPlan, odCheckPlan, .func (PySem.W.fnOf "check_plan" "check_plan" (defArgs sCheckPlan) (defBody sCheckPlan) (defScope sCheckPlan) .none kVCheckPlan dcCheckPlan pmCheckPlan anCheckPlan cdCheckPlan ctCheckPlan), slCheckPlan⟩)
    (cCheckPlan : PySem.W.codeIn K cdCheckPlan "check_plan" = true)
    (kCheckPlan : PySem.W.keepIn K (.ref fCheckPlan) = true)
    (aCheckSizes : PySem.W.nsIn K mainGlobals "check_sizes" = some (some (.ref fCheckSizes)))
    (lCheckSizes : K.lookup fCheckSizes = some ⟨ocCheckSizes, odCheckSizes, .func (PySem.W.fnOf "check_sizes" "check_sizes" (defArgs sCheckSizes) (defBody sCheckSizes) (defScope sCheckSizes) .none kVCheckSizes dcCheckSizes pmCheckSizes anCheckSizes cdCheckSizes ctCheckSizes), slCheckSizes⟩)
    (cCheckSizes : PySem.W.codeIn K cdCheckSizes "check_sizes" = true)
    (kCheckSizes : PySem.W.keepIn K (.ref fCheckSizes) = true)
    (aCheckRoutes : PySem.W.nsIn K mainGlobals "check_routes" = some (some (.ref fCheckRoutes)))
    (lCheckRoutes : K.lookup fCheckRoutes = some ⟨ocCheckRoutes, odCheckRoutes, .func (PySem.W.fnOf "check_routes" "check_routes" (defArgs sCheckRoutes) (defBody sCheckRoutes) (defScope sCheckRoutes) .none kVCheckRoutes dcCheckRoutes pmCheckRoutes anCheckRoutes cdCheckRoutes ctCheckRoutes), slCheckRoutes⟩)
    (cCheckRoutes : PySem.W.codeIn K cdCheckRoutes "check_routes" = true)
    (kCheckRoutes : PySem.W.keepIn K (.ref fCheckRoutes) = true)
    (aIsRoute : PySem.W.nsIn K mainGlobals "is_route" = some (some (.ref fIsRoute)))
    (lIsRoute : K.lookup fIsRoute = some ⟨ocIsRoute, odIsRoute, .func (PySem.W.fnOf "is_route" "is_route" (defArgs sIsRoute) (defBody sIsRoute) (defScope sIsRoute) .none kVIsRoute dcIsRoute pmIsRoute anIsRoute cdIsRoute ctIsRoute), slIsRoute⟩)
    (cIsRoute : PySem.W.codeIn K cdIsRoute "is_route" = true)
    (kIsRoute : PySem.W.keepIn K (.ref fIsRoute) = true)
    (aPlacesOf : PySem.W.nsIn K mainGlobals "places_of" = some (some (.ref fPlacesOf)))
    (lPlacesOf : K.lookup fPlacesOf = some ⟨ocPlacesOf, odPlacesOf, .func (PySem.W.fnOf "places_of" "places_of" (defArgs sPlacesOf) (defBody sPlacesOf) (defScope sPlacesOf) .none kVPlacesOf dcPlacesOf pmPlacesOf anPlacesOf cdPlacesOf ctPlacesOf), slPlacesOf⟩)
    (cPlacesOf : PySem.W.codeIn K cdPlacesOf "places_of" = true)
    (kPlacesOf : PySem.W.keepIn K (.ref fPlacesOf) = true)
    (aNumPlaces : PySem.W.nsIn K mainGlobals "number_of_places" = some (some (.ref fNumPlaces)))
    (lNumPlaces : K.lookup fNumPlaces = some ⟨ocNumPlaces, odNumPlaces, .func (PySem.W.fnOf "number_of_places" "number_of_places" (defArgs sNumPlaces) (defBody sNumPlaces) (defScope sNumPlaces) .none kVNumPlaces dcNumPlaces pmNumPlaces anNumPlaces cdNumPlaces ctNumPlaces), slNumPlaces⟩)
    (cNumPlaces : PySem.W.codeIn K cdNumPlaces "number_of_places" = true)
    (kNumPlaces : PySem.W.keepIn K (.ref fNumPlaces) = true)
    (aVisitsIn : PySem.W.nsIn K mainGlobals "visits_in_tick" = some (some (.ref fVisitsIn)))
    (lVisitsIn : K.lookup fVisitsIn = some ⟨ocVisitsIn, odVisitsIn, .func (PySem.W.fnOf "visits_in_tick" "visits_in_tick" (defArgs sVisitsIn) (defBody sVisitsIn) (defScope sVisitsIn) .none kVVisitsIn dcVisitsIn pmVisitsIn anVisitsIn cdVisitsIn ctVisitsIn), slVisitsIn⟩)
    (cVisitsIn : PySem.W.codeIn K cdVisitsIn "visits_in_tick" = true)
    (kVisitsIn : PySem.W.keepIn K (.ref fVisitsIn) = true)
    (aCommon : PySem.W.nsIn K mainGlobals "common_pattern" = some (some (.ref fCommon)))
    (lCommon : K.lookup fCommon = some ⟨ocCommon, odCommon, .func (PySem.W.fnOf "common_pattern" "common_pattern" (defArgs sCommon) (defBody sCommon) (defScope sCommon) .none kVCommon dcCommon pmCommon anCommon cdCommon ctCommon), slCommon⟩)
    (cCommon : PySem.W.codeIn K cdCommon "common_pattern" = true)
    (kCommon : PySem.W.keepIn K (.ref fCommon) = true)
    (aRoutePat : PySem.W.nsIn K mainGlobals "route_pattern" = some (some (.ref fRoutePat)))
    (lRoutePat : K.lookup fRoutePat = some ⟨ocRoutePat, odRoutePat, .func (PySem.W.fnOf "route_pattern" "route_pattern" (defArgs sRoutePat) (defBody sRoutePat) (defScope sRoutePat) .none kVRoutePat dcRoutePat pmRoutePat anRoutePat cdRoutePat ctRoutePat), slRoutePat⟩)
    (cRoutePat : PySem.W.codeIn K cdRoutePat "route_pattern" = true)
    (kRoutePat : PySem.W.keepIn K (.ref fRoutePat) = true)
    (aSplit : PySem.W.nsIn K mainGlobals "split_layout" = some (some (.ref fSplit)))
    (lSplit : K.lookup fSplit = some ⟨ocSplit, odSplit, .func (PySem.W.fnOf "split_layout" "split_layout" (defArgs sSplit) (defBody sSplit) (defScope sSplit) .none kVSplit dcSplit pmSplit anSplit cdSplit ctSplit), slSplit⟩)
    (cSplit : PySem.W.codeIn K cdSplit "split_layout" = true)
    (kSplit : PySem.W.keepIn K (.ref fSplit) = true)
    (aInitial : PySem.W.nsIn K mainGlobals "initial_state" = some (some (.ref fInitial)))
    (lInitial : K.lookup fInitial = some ⟨ocInitial, odInitial, .func (PySem.W.fnOf "initial_state" "initial_state" (defArgs sInitial) (defBody sInitial) (defScope sInitial) .none kVInitial dcInitial pmInitial anInitial cdInitial ctInitial), slInitial⟩)
    (cInitial : PySem.W.codeIn K cdInitial "initial_state" = true)
    (kInitial : PySem.W.keepIn K (.ref fInitial) = true)
    (aStateOf : PySem.W.nsIn K mainGlobals "state_of" = some (some (.ref fStateOf)))
    (lStateOf : K.lookup fStateOf = some ⟨ocStateOf, odStateOf, .func (PySem.W.fnOf "state_of" "state_of" (defArgs sStateOf) (defBody sStateOf) (defScope sStateOf) .none kVStateOf dcStateOf pmStateOf anStateOf cdStateOf ctStateOf), slStateOf⟩)
    (cStateOf : PySem.W.codeIn K cdStateOf "state_of" = true)
    (kStateOf : PySem.W.keepIn K (.ref fStateOf) = true)
    (aLMix : PySem.W.nsIn K mainGlobals "_law_mix" = some (some (.ref fLMix)))
    (lLMix : K.lookup fLMix = some ⟨ocLMix, odLMix, .func (PySem.W.fnOf "_law_mix" "_law_mix" (defArgs sMix) (defBody sMix) (defScope sMix) .none kVLMix dcLMix pmLMix anLMix cdLMix ctLMix), slLMix⟩)
    (cLMix : PySem.W.codeIn K cdLMix "_law_mix" = true)
    (kLMix : PySem.W.keepIn K (.ref fLMix) = true)
    (aLNext : PySem.W.nsIn K mainGlobals "_law_next" = some (some (.ref fLNext)))
    (lLNext : K.lookup fLNext = some ⟨ocLNext, odLNext, .func (PySem.W.fnOf "_law_next" "_law_next" (defArgs sNext) (defBody sNext) (defScope sNext) .none kVLNext dcLNext pmLNext anLNext cdLNext ctLNext), slLNext⟩)
    (cLNext : PySem.W.codeIn K cdLNext "_law_next" = true)
    (kLNext : PySem.W.keepIn K (.ref fLNext) = true)
    (aLAlike : PySem.W.nsIn K mainGlobals "_law_alike" = some (some (.ref fLAlike)))
    (lLAlike : K.lookup fLAlike = some ⟨ocLAlike, odLAlike, .func (PySem.W.fnOf "_law_alike" "_law_alike" (defArgs sAlike) (defBody sAlike) (defScope sAlike) .none kVLAlike dcLAlike pmLAlike anLAlike cdLAlike ctLAlike), slLAlike⟩)
    (cLAlike : PySem.W.codeIn K cdLAlike "_law_alike" = true)
    (kLAlike : PySem.W.keepIn K (.ref fLAlike) = true)
    (aLError : PySem.W.nsIn K mainGlobals "_law_error" = some (some (.ref fLError)))
    (lLError : K.lookup fLError = some ⟨ocLError, odLError, .func (PySem.W.fnOf "_law_error" "_law_error" (defArgs sError) (defBody sError) (defScope sError) .none kVLError dcLError pmLError anLError cdLError ctLError), slLError⟩)
    (cLError : PySem.W.codeIn K cdLError "_law_error" = true)
    (kLError : PySem.W.keepIn K (.ref fLError) = true)
    (aLPlan : PySem.W.nsIn K mainGlobals "_law_plan" = some (some (.ref fLPlan)))
    (lLPlan : K.lookup fLPlan = some ⟨ocLPlan, odLPlan, .func (PySem.W.fnOf "_law_plan" "_law_plan" (defArgs sPlan) (defBody sPlan) (defScope sPlan) .none kVLPlan dcLPlan pmLPlan anLPlan cdLPlan ctLPlan), slLPlan⟩)
    (cLPlan : PySem.W.codeIn K cdLPlan "_law_plan" = true)
    (kLPlan : PySem.W.keepIn K (.ref fLPlan) = true)
    (aLFirstBad : PySem.W.nsIn K mainGlobals "_law_first_bad" = some (some (.ref fLFirstBad)))
    (lLFirstBad : K.lookup fLFirstBad = some ⟨ocLFirstBad, odLFirstBad, .func (PySem.W.fnOf "_law_first_bad" "_law_first_bad" (defArgs sFirstBad) (defBody sFirstBad) (defScope sFirstBad) .none kVLFirstBad dcLFirstBad pmLFirstBad anLFirstBad cdLFirstBad ctLFirstBad), slLFirstBad⟩)
    (cLFirstBad : PySem.W.codeIn K cdLFirstBad "_law_first_bad" = true)
    (kLFirstBad : PySem.W.keepIn K (.ref fLFirstBad) = true)
    (aLSpoilt : PySem.W.nsIn K mainGlobals "_law_spoilt" = some (some (.ref fLSpoilt)))
    (lLSpoilt : K.lookup fLSpoilt = some ⟨ocLSpoilt, odLSpoilt, .func (PySem.W.fnOf "_law_spoilt" "_law_spoilt" (defArgs sSpoilt) (defBody sSpoilt) (defScope sSpoilt) .none kVLSpoilt dcLSpoilt pmLSpoilt anLSpoilt cdLSpoilt ctLSpoilt), slLSpoilt⟩)
    (cLSpoilt : PySem.W.codeIn K cdLSpoilt "_law_spoilt" = true)
    (kLSpoilt : PySem.W.keepIn K (.ref fLSpoilt) = true)
    (aLMeetings : PySem.W.nsIn K mainGlobals "_law_meetings" = some (some (.ref fLMeetings)))
    (lLMeetings : K.lookup fLMeetings = some ⟨ocLMeetings, odLMeetings, .func (PySem.W.fnOf "_law_meetings" "_law_meetings" (defArgs sMeetings) (defBody sMeetings) (defScope sMeetings) .none kVLMeetings dcLMeetings pmLMeetings anLMeetings cdLMeetings ctLMeetings), slLMeetings⟩)
    (cLMeetings : PySem.W.codeIn K cdLMeetings "_law_meetings" = true)
    (kLMeetings : PySem.W.keepIn K (.ref fLMeetings) = true)
    (aLaw : PySem.W.nsIn K mainGlobals "law" = some (some (.ref fLaw)))
    (lLaw : K.lookup fLaw = some ⟨ocLaw, odLaw, .func (PySem.W.fnOf "law" "law" (defArgs sLaw) (defBody sLaw) (defScope sLaw) .none kVLaw dcLaw pmLaw anLaw cdLaw ctLaw), slLaw⟩)
    (cLaw : PySem.W.codeIn K cdLaw "law" = true)
    (kLaw : PySem.W.keepIn K (.ref fLaw) = true)
    (n_isinstance : PySem.W.nsIn K mainGlobals "isinstance" = some none)
    (n_bool : PySem.W.nsIn K mainGlobals "bool" = some none)
    (n_int : PySem.W.nsIn K mainGlobals "int" = some none)
    (n_str : PySem.W.nsIn K mainGlobals "str" = some none)
    (n_list : PySem.W.nsIn K mainGlobals "list" = some none)
    (n_tuple : PySem.W.nsIn K mainGlobals "tuple" = some none)
    (n_dict : PySem.W.nsIn K mainGlobals "dict" = some none)
    (n_len : PySem.W.nsIn K mainGlobals "len" = some none)
    (n_range : PySem.W.nsIn K mainGlobals "range" = some none)
    (n_enumerate : PySem.W.nsIn K mainGlobals "enumerate" = some none)
    (n_max : PySem.W.nsIn K mainGlobals "max" = some none)
    (n_sum : PySem.W.nsIn K mainGlobals "sum" = some none)
    (n_set : PySem.W.nsIn K mainGlobals "set" = some none)
    (n_zip : PySem.W.nsIn K mainGlobals "zip" = some none)
    (n_divmod : PySem.W.nsIn K mainGlobals "divmod" = some none)
    (n_sorted : PySem.W.nsIn K mainGlobals "sorted" = some none)
    (n_abs : PySem.W.nsIn K mainGlobals "abs" = some none)
    (n_min : PySem.W.nsIn K mainGlobals "min" = some none)
    (n_super : PySem.W.nsIn K mainGlobals "super" = some none)
    (n_ValueError : PySem.W.nsIn K mainGlobals "ValueError" = some none)
    (n_lcm : PySem.W.nsIn K mainGlobals "lcm" = some (some (.builtin "math.lcm")))
    (m1 : PySem.W.nsIn K mainGlobals "MOST_SHELVES" = some (some (.int 12 tm1)))
    (m2 : PySem.W.nsIn K mainGlobals "MOST_ON_SHELF" = some (some (.int 9 tm2)))
    (m3 : PySem.W.nsIn K mainGlobals "MOST_CARRIERS" = some (some (.int 6 tm3)))
    (m4 : PySem.W.nsIn K mainGlobals "MOST_ENTRIES" = some (some (.int 6 tm4)))
    (eS : PySem.W.nsIn K mainGlobals "ShelfError" = some (some (.ref CS)))
    (e0 : PySem.W.nsIn K mainGlobals "InvalidPlan" = some (some (.ref C0)))
    (e1 : PySem.W.nsIn K mainGlobals "InvalidState" = some (some (.ref C1)))
    (e2 : PySem.W.nsIn K mainGlobals "InvalidCount" = some (some (.ref C2)))
    (e3 : PySem.W.nsIn K mainGlobals "UnknownPlace" = some (some (.ref C3)))
    (e4 : PySem.W.nsIn K mainGlobals "UnknownParcel" = some (some (.ref C4)))
    (e5 : PySem.W.nsIn K mainGlobals "UnknownShelf" = some (some (.ref C5)))
    (e6 : PySem.W.nsIn K mainGlobals "UnknownCarrier" = some (some (.ref C6)))
    (e7 : PySem.W.nsIn K mainGlobals "InvalidEffect" = some (some (.ref C7)))
    (e8 : PySem.W.nsIn K mainGlobals "DifferentSizes" = some (some (.ref C8)))
    (e9 : PySem.W.nsIn K mainGlobals "InvalidParcels" = some (some (.ref C9)))
    (e10 : PySem.W.nsIn K mainGlobals "Contradiction" = some (some (.ref C10)))
    (e11 : PySem.W.nsIn K mainGlobals "InvalidArrangement" = some (some (.ref C11)))
    (e12 : PySem.W.nsIn K mainGlobals "ShelfFull" = some (some (.ref C12)))
    (e13 : PySem.W.nsIn K mainGlobals "ParcelCarried" = some (some (.ref C13)))
    (e14 : PySem.W.nsIn K mainGlobals "InvalidSwap" = some (some (.ref C14)))
    (xk0 : PySem.W.keepIn K (.ref C0) = true)
    (xb0 : PySem.W.subIn K (.ref C0) (.type "BaseException") = some true)
    (xt0 : PySem.W.typeIn K (.ref C0) = some (.type "type"))
    (yg0 : PySem.W.findIn K (.ref C0) "__getattribute__" = some (some (.builtin "BaseException.__getattribute__")))
    (yk0 : PySem.W.findIn K (.ref C0) "__getattr__" = some none)
    (yd0 : PySem.W.hasDictIn K C0 = true)
    (ya0 : PySem.W.findIn K (.ref C0) "__class__" = some (some (.builtin "object.__class__")))
    (ym0 : PySem.W.mroIn K C0 (.type "object") = some true)
    (ze0 : PySem.W.exmOne K (.ref C0) (.ref CS) = some true)
    (zv0 : PySem.W.kitOne K (.ref C0) (.type "ValueError") = some true)
    (z0_0 : PySem.W.kitOne K (.ref C0) (.ref C0) = some true)
    (z0_1 : PySem.W.kitOne K (.ref C0) (.ref C1) = some false)
    (z0_2 : PySem.W.kitOne K (.ref C0) (.ref C2) = some false)
    (z0_3 : PySem.W.kitOne K (.ref C0) (.ref C3) = some false)
    (z0_4 : PySem.W.kitOne K (.ref C0) (.ref C4) = some false)
    (z0_5 : PySem.W.kitOne K (.ref C0) (.ref C5) = some false)
    (z0_6 : PySem.W.kitOne K (.ref C0) (.ref C6) = some false)
    (z0_7 : PySem.W.kitOne K (.ref C0) (.ref C7) = some false)
    (z0_8 : PySem.W.kitOne K (.ref C0) (.ref C8) = some false)
    (z0_9 : PySem.W.kitOne K (.ref C0) (.ref C9) = some false)
    (z0_10 : PySem.W.kitOne K (.ref C0) (.ref C10) = some false)
    (z0_11 : PySem.W.kitOne K (.ref C0) (.ref C11) = some false)
    (z0_12 : PySem.W.kitOne K (.ref C0) (.ref C12) = some false)
    (z0_13 : PySem.W.kitOne K (.ref C0) (.ref C13) = some false)
    (z0_14 : PySem.W.kitOne K (.ref C0) (.ref C14) = some false)
    (x1 : PySem.W.excIn K C1 [.type "ValueError", .type "Exception", .type "BaseException", .type "object"] "ValueError.__new__" = true)
    (xk1 : PySem.W.keepIn K (.ref C1) = true)
    (xb1 : PySem.W.subIn K (.ref C1) (.type "BaseException") = some true)
    (xt1 : PySem.W.typeIn K (.ref C1) = some (.type "type"))
    (x2 : PySem.W.excIn K C2 [.type "ValueError", .type "Exception", .type "BaseException", .type "object"] "ValueError.__new__" = true)
    (xk2 : PySem.W.keepIn K (.ref C2) = true)
    (xb2 : PySem.W.subIn K (.ref C2) (.type "BaseException") = some true)
    (xt2 : PySem.W.typeIn K (.ref C2) = some (.type "type"))
    (x3 : PySem.W.excIn K C3 [.type "ValueError", .type "Exception", .type "BaseException", .type "object"] "ValueError.__new__" = true)
    (xk3 : PySem.W.keepIn K (.ref C3) = true)
    (xb3 : PySem.W.subIn K (.ref C3) (.type "BaseException") = some true)
    (xt3 : PySem.W.typeIn K (.ref C3) = some (.type "type"))
    (x4 : PySem.W.excIn K C4 [.type "ValueError", .type "Exception", .type "BaseException", .type "object"] "ValueError.__new__" = true)
    (xk4 : PySem.W.keepIn K (.ref C4) = true)
    (xb4 : PySem.W.subIn K (.ref C4) (.type "BaseException") = some true)
    (xt4 : PySem.W.typeIn K (.ref C4) = some (.type "type"))
    (x5 : PySem.W.excIn K C5 [.type "ValueError", .type "Exception", .type "BaseException", .type "object"] "ValueError.__new__" = true)
    (xk5 : PySem.W.keepIn K (.ref C5) = true)
    (xb5 : PySem.W.subIn K (.ref C5) (.type "BaseException") = some true)
    (xt5 : PySem.W.typeIn K (.ref C5) = some (.type "type"))
    (x6 : PySem.W.excIn K C6 [.type "ValueError", .type "Exception", .type "BaseException", .type "object"] "ValueError.__new__" = true)
    (xk6 : PySem.W.keepIn K (.ref C6) = true)
    (xb6 : PySem.W.subIn K (.ref C6) (.type "BaseException") = some true)
    (xt6 : PySem.W.typeIn K (.ref C6) = some (.type "type"))
    (x7 : PySem.W.excIn K C7 [.type "ValueError", .type "Exception", .type "BaseException", .type "object"] "ValueError.__new__" = true)
    (xk7 : PySem.W.keepIn K (.ref C7) = true)
    (xb7 : PySem.W.subIn K (.ref C7) (.type "BaseException") = some true)
    (xt7 : PySem.W.typeIn K (.ref C7) = some (.type "type"))
    (x8 : PySem.W.excIn K C8 [.type "ValueError", .type "Exception", .type "BaseException", .type "object"] "ValueError.__new__" = true)
    (xk8 : PySem.W.keepIn K (.ref C8) = true)
    (xb8 : PySem.W.subIn K (.ref C8) (.type "BaseException") = some true)
    (xt8 : PySem.W.typeIn K (.ref C8) = some (.type "type"))
    (y_n : PySem.W.specialIn K (.builtin "object.__class__") "__get__" = some (some (.builtin "getset_descriptor.__get__")))
    (y_t : PySem.W.takesIn K (.builtin "object.__class__") = some true)
    (pC : K.lookup C0 = some (excClassObj pnm pq C0 pN pbs pbm true psn psub pab pcol pdd pk0 pk1 pk2 pk3 pk5 "ValueError.__new__"))
    (pR : PySem.HandSPX.refsVE pbm = true)
    (pSa : PySem.W.findIn K (.ref C0) "__setattr__" = some (some (.builtin "object.__setattr__")))
    (pN1 : PySem.W.findIn K (.ref C0) "part" = some none)
    (pN2 : PySem.W.findIn K (.ref C0) "index" = some none)
    (iC : PySem.W.findIn K (.ref C0) "__init__" = some (some (.ref fI)))
    (tI : PySem.W.typeIn K (.ref fI) = some (.type "function"))
    (lI : K.lookup fI = some ⟨ocI, odI, .func ((nfPlan cc c0).fd docI pmI ctI), slI⟩)
    (pCell : K.lookup cc = some ⟨ccl, ccd, .cell (some (.ref C0)), ccs⟩)
    (pCode : PySem.W.codeIn K (.ref c0) "InvalidPlan.__init__" = true)
    (pKo : K.lookup c0 = some ⟨kcl, kcd, .fields kvs, kcs⟩)
    (pKf : kvs[2]? = some (.str kfl ktf))
    (pKm : ((P.main.file : Str) == kfl) = true)
    (pTop : (P.main.scope.names.lookup ("super" : Str)).isSome = false)
    (pHs : PySem.W.ks_superIn K C0 C0 "__init__" = some (some (.builtin "ValueError.__init__")))
    (pHo : PySem.W.nsIn K PySem.cStatics "thirdparty.any" = some none)
    (pHB : PySem.W.subIn K (.ref C0) (.type "ValueError") = some true)
    (pHm : PySem.W.mroIn K C0 (.ref C0) = some true)
    (hcode : cdLaw = .ref c)
    (htab : PySem.W.codeHdIn K c Pt = true)
    (hnone : K.lookup Pt = none)
    : ∃ (fd : FuncData) (cs : List (Addr × Addr)) (sp : Sp), (∀ p ∈ cs, h.get? p.2 = some { cls := .none, data := .fields #[] }) ∧ (∀ p ∈ cs, K.lookup p.2 = none) ∧ (∀ p ∈ cs, PySem.W.CodeHd h p.1 p.2) ∧ (∀ (s : Shared) (u : Value), BindsTo s fd ⟨[u], []⟩ [("_law_script", u)]) ∧
    (∀ (H : Hp) (a : Addr) (ns : List Int), ns.length ≤ 63 → (∀ z ∈ ns, Builtin.Int.intBits z ≤ 1048576) → (∀ p ∈ cs, H p.2 = some (.tbl #[])) → SqL K H a (ns.map V.int) → sp [.ref a] H (fun v _ => v = .bl true) fun _ _ _ => False) ∧
    ∀ base : Heap, K.In base → base.Ns mainGlobals mg → (∀ p ∈ cs, TabB base mg p.1 p.2) → FnOk P w K mg base CX0 8 fa fd ["_law_script"] sp := by
  have e := hfa.symm.trans (PySem.W.mg_of X G aLaw)
  cases e
  subst hcode
  have DWithin := df_mk (ps := ["number", "low", "high"]) X G aWithin lWithin cWithin kWithin fun _ _ _ _ _ _ us hl => match us, hl with | [_, _, _], _ => rfl
  have DPattern := df_mk (ps := ["plan"]) X G aPattern lPattern cPattern kPattern fun _ _ _ _ _ _ us hl => match us, hl with | [_], _ => rfl
  have DVisits := df_mk (ps := ["plan", "number"]) X G aVisits lVisits cVisits kVisits fun _ _ _ _ _ _ us hl => match us, hl with | [_, _], _ => rfl
  have DPlaces := df_mk (ps := ["plan"]) X G aPlaces lPlaces cPlaces kPlaces fun _ _ _ _ _ _ us hl => match us, hl with | [_], _ => rfl
  have DCheckPlan := df_mk (ps := ["plan"]) X G aCheckPlan lCheckPlan cCheckPlan kCheckPlan fun _ _ _ _ _ _ us hl => match us, hl with | [_], _ => rfl
  have DCheckSizes := df_mk (ps := ["sizes"]) X G aCheckSizes lCheckSizes cCheckSizes kCheckSizes fun _ _ _ _ _ _ us hl => match us, hl with | [_], _ => rfl
  have DCheckRoutes := df_mk (ps := ["routes", "shelves"]) X G aCheckRoutes lCheckRoutes cCheckRoutes kCheckRoutes fun _ _ _ _ _ _ us hl => match us, hl with | [_, _], _ => rfl
  have DIsRoute := df_mk (ps := ["route", "shelves"]) X G aIsRoute lIsRoute cIsRoute kIsRoute fun _ _ _ _ _ _ us hl => match us, hl with | [_, _], _ => rfl
  have DPlacesOf := df_mk (ps := ["plan"]) X G aPlacesOf lPlacesOf cPlacesOf kPlacesOf fun _ _ _ _ _ _ us hl => match us, hl with | [_], _ => rfl
  have DNumPlaces := df_mk (ps := ["plan"]) X G aNumPlaces lNumPlaces cNumPlaces kNumPlaces fun _ _ _ _ _ _ us hl => match us, hl with | [_], _ => rfl
  have DVisitsIn := df_mk (ps := ["routes", "number"]) X G aVisitsIn lVisitsIn cVisitsIn kVisitsIn fun _ _ _ _ _ _ us hl => match us, hl with | [_, _], _ => rfl
  have DCommon := df_mk (ps := ["routes"]) X G aCommon lCommon cCommon kCommon fun _ _ _ _ _ _ us hl => match us, hl with | [_], _ => rfl
  have DRoutePat := df_mk (ps := ["route"]) X G aRoutePat lRoutePat cRoutePat kRoutePat fun _ _ _ _ _ _ us hl => match us, hl with | [_], _ => rfl
  have DSplit := df_mk (ps := ["plan", "contents"]) X G aSplit lSplit cSplit kSplit fun _ _ _ _ _ _ us hl => match us, hl with | [_, _], _ => rfl
  have DInitial := df_mk (ps := ["plan"]) X G aInitial lInitial cInitial kInitial fun _ _ _ _ _ _ us hl => match us, hl with | [_], _ => rfl
  have DStateOf := df_mk (ps := ["plan", "time", "parcels"]) X G aStateOf lStateOf cStateOf kStateOf fun _ _ _ _ _ _ us hl => match us, hl with | [_, _, _], _ => rfl
  have DLMix := df_mk (ps := ["_law_script", "_law_seed"]) X G aLMix lLMix cLMix kLMix fun _ _ _ _ _ _ us hl => match us, hl with | [_, _], _ => rfl
  have DLNext := df_mk (ps := ["_law_h", "_law_limit"]) X G aLNext lLNext cLNext kLNext fun _ _ _ _ _ _ us hl => match us, hl with | [_, _], _ => rfl
  have DLAlike := df_mk (ps := ["_law_found", "_law_due"]) X G aLAlike lLAlike cLAlike kLAlike fun _ _ _ _ _ _ us hl => match us, hl with | [_, _], _ => rfl
  have DLError := df_mk (ps := ["_law_call"]) X G aLError lLError cLError kLError fun _ _ _ _ _ _ us hl => match us, hl with | [_], _ => rfl
  have DLPlan := df_mk (ps := ["_law_h", "_law_shelves", "_law_carriers"]) X G aLPlan lLPlan cLPlan kLPlan fun _ _ _ _ _ _ us hl => match us, hl with | [_, _, _], _ => rfl
  have DLFirstBad := df_mk (ps := ["_law_plan_here"]) X G aLFirstBad lLFirstBad cLFirstBad kLFirstBad fun _ _ _ _ _ _ us hl => match us, hl with | [_], _ => rfl
  have DLSpoilt := df_mk (ps := ["_law_h", "_law_plan_here"]) X G aLSpoilt lLSpoilt cLSpoilt kLSpoilt fun _ _ _ _ _ _ us hl => match us, hl with | [_, _], _ => rfl
  have DLMeetings := df_mk (ps := ["_law_plan_here", "_law_number"]) X G aLMeetings lLMeetings cLMeetings kLMeetings fun _ _ _ _ _ _ us hl => match us, hl with | [_, _], _ => rfl
  have DLaw := df_mk (ps := ["_law_script"]) X G aLaw lLaw cLaw kLaw fun _ _ _ _ _ _ us hl => match us, hl with | [_], _ => rfl
  have B : Bt mg := ⟨PySem.W.mg_none_of X G n_isinstance, PySem.W.mg_none_of X G n_bool, PySem.W.mg_none_of X G n_int, PySem.W.mg_none_of X G n_str, PySem.W.mg_none_of X G n_list, PySem.W.mg_none_of X G n_tuple, PySem.W.mg_none_of X G n_dict, PySem.W.mg_none_of X G n_len, PySem.W.mg_none_of X G n_range, PySem.W.mg_none_of X G n_enumerate, PySem.W.mg_none_of X G n_max, PySem.W.mg_none_of X G n_sum, PySem.W.mg_none_of X G n_set, PySem.W.mg_none_of X G n_zip, PySem.W.mg_none_of X G n_divmod, PySem.W.mg_none_of X G n_sorted, PySem.W.mg_none_of X G n_abs, PySem.W.mg_none_of X G n_min⟩
  have OX : OexC K C0 := ⟨⟨pnm, pq, pN, pbs, pbm, psn, psub, pab, pcol, pdd, pk0, pk1, pk2, pk3, pk5, pC, pR⟩, pSa, xb0, xt0, xk0⟩
  have XF : XfC K C0 := ⟨yg0, yk0, xb0, yd0⟩
  have SF : SupF P K mg C0 fI cc (nfPlan cc c0) arPlan := ⟨OX, rfl, ⟨_, _, _, pCell⟩, pCode, ⟨_, _, _, _, _, _, pKo, pKf, pKm⟩, pTop, PySem.W.mg_none_of X G n_super, rfl, rfl, rfl, pHs, pHo, pHB, pHm⟩
  have PL : Pl P K mg C0 fI ((nfPlan cc c0).fd docI pmI ctI) := ⟨⟨cc, c0, _, _, _, _, _, _, rfl, SF, lI⟩, pN1, pN2, PySem.W.mg_of X G e0, iC, tI, .all fun us hl => match us, hl with | [_, _, _], _ => rfl, XF⟩
  let T : Bd P K mg := { bt := B, lcm := PySem.W.mg_of X G n_lcm, C := C0, aInit := fI, dInit := _, pl := PL, m1 := ⟨_, PySem.W.mg_of X G m1⟩, m2 := ⟨_, PySem.W.mg_of X G m2⟩, m3 := ⟨_, PySem.W.mg_of X G m3⟩, m4 := ⟨_, PySem.W.mg_of X G m4⟩, CE := C7, ce := ⟨PySem.W.mg_of X G e7, x7, xk7, xb7, xt7⟩, CC := C2, cc := ⟨PySem.W.mg_of X G e2, x2, xk2, xb2, xt2⟩, CD := C8, cd := ⟨PySem.W.mg_of X G e8, x8, xk8, xb8, xt8⟩, CS := C1, cs := ⟨PySem.W.mg_of X G e1, x1, xk1, xb1, xt1⟩, CUp := C3, cup := ⟨PySem.W.mg_of X G e3, x3, xk3, xb3, xt3⟩, CUr := C4, cur := ⟨PySem.W.mg_of X G e4, x4, xk4, xb4, xt4⟩, CUs := C5, cus := ⟨PySem.W.mg_of X G e5, x5, xk5, xb5, xt5⟩, CUc := C6, cuc := ⟨PySem.W.mg_of X G e6, x6, xk6, xb6, xt6⟩, aWithin := _, dWithin := _, Within := DWithin, aPattern := _, dPattern := _, Pattern := DPattern, aVisits := _, dVisits := _, Visits := DVisits, aPlaces := _, dPlaces := _, Places := DPlaces, aCheckPlan := _, dCheckPlan := _, CheckPlan := DCheckPlan, aCheckSizes := _, dCheckSizes := _, CheckSizes := DCheckSizes, aCheckRoutes := _, dCheckRoutes := _, CheckRoutes := DCheckRoutes, aIsRoute := _, dIsRoute := _, IsRoute := DIsRoute, aPlacesOf := _, dPlacesOf := _, PlacesOf := DPlacesOf, aNumPlaces := _, dNumPlaces := _, NumPlaces := DNumPlaces, aVisitsIn := _, dVisitsIn := _, VisitsIn := DVisitsIn, aCommon := _, dCommon := _, Common := DCommon, aRoutePat := _, dRoutePat := _, RoutePat := DRoutePat, aSplit := _, dSplit := _, Split := DSplit, aInitial := _, dInitial := _, Initial := DInitial, aStateOf := _, dStateOf := _, StateOf := DStateOf, aLMix := _, dLMix := _, LMix := DLMix, aLNext := _, dLNext := _, LNext := DLNext, aLAlike := _, dLAlike := _, LAlike := DLAlike, aLError := _, dLError := _, LError := DLError, aLPlan := _, dLPlan := _, LPlan := DLPlan, aLFirstBad := _, dLFirstBad := _, LFirstBad := DLFirstBad, aLSpoilt := _, dLSpoilt := _, LSpoilt := DLSpoilt, aLMeetings := _, dLMeetings := _, LMeetings := DLMeetings, aLaw := _, dLaw := _, Law := DLaw }
  have EG : ErG mg CS C0 C1 C2 C3 C4 C5 C6 C7 C8 C9 C10 C11 C12 C13 C14 := ⟨PySem.W.mg_of X G eS, PySem.W.mg_of X G e0, PySem.W.mg_of X G e1, PySem.W.mg_of X G e2, PySem.W.mg_of X G e3, PySem.W.mg_of X G e4, PySem.W.mg_of X G e5, PySem.W.mg_of X G e6, PySem.W.mg_of X G e7, PySem.W.mg_of X G e8, PySem.W.mg_of X G e9, PySem.W.mg_of X G e10, PySem.W.mg_of X G e11, PySem.W.mg_of X G e12, PySem.W.mg_of X G e13, PySem.W.mg_of X G e14, PySem.W.mg_none_of X G n_ValueError⟩
  have A0 := era_plan (K := K) ⟨⟨yg0, yk0, xb0, yd0, ya0, y_n, y_t, ym0⟩, ze0, zv0, z0_0, z0_1, z0_2, z0_3, z0_4, z0_5, z0_6, z0_7, z0_8, z0_9, z0_10, z0_11, z0_12, z0_13, z0_14⟩
  refine ⟨_, [(c, Pt)], spLaw K Pt, fun p hp => ?_, fun p hp => ?_, fun p hp => ?_, fun s u => ?_, fun H a ns hl _ hH hS => ?_, fun base _ _ TB => ok_law T DLaw rfl (TB (c, Pt) (List.mem_singleton.mpr rfl)) EG A0 XF pN1 pN2⟩
  · rw [List.mem_singleton.mp hp]
    exact hPt
  · rw [List.mem_singleton.mp hp]
    exact hnone
  · rw [List.mem_singleton.mp hp]
    exact PySem.W.codeHd_of_K X htab
  · exact .of_eq rfl
  · exact ⟨a, ns, rfl, hS, hl, fun p hp => by rw [List.mem_singleton.mp hp]; exact TabS.nil (hH (c, Pt) (List.mem_singleton.mpr rfl)), fun _ => rfl⟩
end
end Sv
open PySem PySem.W PyProof.Rows
set_option maxHeartbeats 0 in
theorem PySem.Challenge.cw_swapshelves_k01_plans_validated_holds : PySem.Challenge.rw_swapshelves_k01_plans_validated.Holds := by
  refine head ?_
  k_fill
  refine Sv.walk_ofTsX (l := PySem.Challenge.rw_swapshelves_k01_plans_validated) (n := 63) (k := 8) (x := "_law_script") (CX := fun _ => L2.CX0) rfl (by decide) rfl ⟨rfl, by decide, by decide⟩ (fun w h Y => PySem.W.km_in_of Y) ?F (fun _ _ _ _ _ h => h)
  case F =>
    intro w mg fa h XPh Y KX G hmg
    have hPt := PySem.W.km_tabs_of Y _ (List.mem_singleton.mpr rfl)
    refine' Sv.all_mk (Pt := _) KX G hmg hPt  ?aWithin ?lWithin ?cWithin ?kWithin ?aPattern ?lPattern ?cPattern ?kPattern ?aVisits ?lVisits ?cVisits ?kVisits ?aPlaces ?lPlaces ?cPlaces ?kPlaces ?aCheckPlan ?lCheckPlan ?cCheckPlan ?kCheckPlan ?aCheckSizes ?lCheckSizes ?cCheckSizes ?kCheckSizes ?aCheckRoutes ?lCheckRoutes ?cCheckRoutes ?kCheckRoutes ?aIsRoute ?lIsRoute ?cIsRoute ?kIsRoute ?aPlacesOf ?lPlacesOf ?cPlacesOf ?kPlacesOf ?aNumPlaces ?lNumPlaces ?cNumPlaces ?kNumPlaces ?aVisitsIn ?lVisitsIn ?cVisitsIn ?kVisitsIn ?aCommon ?lCommon ?cCommon ?kCommon ?aRoutePat ?lRoutePat ?cRoutePat ?kRoutePat ?aSplit ?lSplit ?cSplit ?kSplit ?aInitial ?lInitial ?cInitial ?kInitial ?aStateOf ?lStateOf ?cStateOf ?kStateOf ?aLMix ?lLMix ?cLMix ?kLMix ?aLNext ?lLNext ?cLNext ?kLNext ?aLAlike ?lLAlike ?cLAlike ?kLAlike ?aLError ?lLError ?cLError ?kLError ?aLPlan ?lLPlan ?cLPlan ?kLPlan ?aLFirstBad ?lLFirstBad ?cLFirstBad ?kLFirstBad ?aLSpoilt ?lLSpoilt ?cLSpoilt ?kLSpoilt ?aLMeetings ?lLMeetings ?cLMeetings ?kLMeetings ?aLaw ?lLaw ?cLaw ?kLaw ?n_isinstance ?n_bool ?n_int ?n_str ?n_list ?n_tuple ?n_dict ?n_len ?n_range ?n_enumerate ?n_max ?n_sum ?n_set ?n_zip ?n_divmod ?n_sorted ?n_abs ?n_min ?n_super ?n_ValueError ?n_lcm ?m1 ?m2 ?m3 ?m4 ?eS ?e0 ?e1 ?e2 ?e3 ?e4 ?e5 ?e6 ?e7 ?e8 ?e9 ?e10 ?e11 ?e12 ?e13 ?e14 ?xk0 ?xb0 ?xt0 ?yg0 ?yk0 ?yd0 ?ya0 ?ym0 ?ze0 ?zv0 ?z0_0 ?z0_1 ?z0_2 ?z0_3 ?z0_4 ?z0_5 ?z0_6 ?z0_7 ?z0_8 ?z0_9 ?z0_10 ?z0_11 ?z0_12 ?z0_13 ?z0_14 ?x1 ?xk1 ?xb1 ?xt1 ?x2 ?xk2 ?xb2 ?xt2 ?x3 ?xk3 ?xb3 ?xt3 ?x4 ?xk4 ?xb4 ?xt4 ?x5 ?xk5 ?xb5 ?xt5 ?x6 ?xk6 ?xb6 ?xt6 ?x7 ?xk7 ?xb7 ?xt7 ?x8 ?xk8 ?xb8 ?xt8 ?y_n ?y_t ?pC ?pR ?pSa ?pN1 ?pN2 ?iC ?tI ?lI ?pCell ?pCode ?pKo ?pKf ?pKm ?pTop ?pHs ?pHo ?pHB ?pHm ?hcode ?htab ?hnone
    (case aWithin => k_is)
    (case lWithin => k_is)
    (case cWithin => k_is)
    (case kWithin => k_is)
    (case aPattern => k_is)
    (case lPattern => k_is)
    (case cPattern => k_is)
    (case kPattern => k_is)
    (case aVisits => k_is)
    (case lVisits => k_is)
    (case cVisits => k_is)
    (case kVisits => k_is)
    (case aPlaces => k_is)
    (case lPlaces => k_is)
    (case cPlaces => k_is)
    (case kPlaces => k_is)
    (case aCheckPlan => k_is)
    (case lCheckPlan => k_is)
    (case cCheckPlan => k_is)
    (case kCheckPlan => k_is)
    (case aCheckSizes => k_is)
    (case lCheckSizes => k_is)
    (case cCheckSizes => k_is)
    (case kCheckSizes => k_is)
    (case aCheckRoutes => k_is)
    (case lCheckRoutes => k_is)
    (case cCheckRoutes => k_is)
    (case kCheckRoutes => k_is)
    (case aIsRoute => k_is)
    (case lIsRoute => k_is)
    (case cIsRoute => k_is)
    (case kIsRoute => k_is)
    (case aPlacesOf => k_is)
    (case lPlacesOf => k_is)
    (case cPlacesOf => k_is)
    (case kPlacesOf => k_is)
    (case aNumPlaces => k_is)
    (case lNumPlaces => k_is)
    (case cNumPlaces => k_is)
    (case kNumPlaces => k_is)
    (case aVisitsIn => k_is)
    (case lVisitsIn => k_is)
    (case cVisitsIn => k_is)
    (case kVisitsIn => k_is)
    (case aCommon => k_is)
    (case lCommon => k_is)
    (case cCommon => k_is)
    (case kCommon => k_is)
    (case aRoutePat => k_is)
    (case lRoutePat => k_is)
    (case cRoutePat => k_is)
    (case kRoutePat => k_is)
    (case aSplit => k_is)
    (case lSplit => k_is)
    (case cSplit => k_is)
    (case kSplit => k_is)
    (case aInitial => k_is)
    (case lInitial => k_is)
    (case cInitial => k_is)
    (case kInitial => k_is)
    (case aStateOf => k_is)
    (case lStateOf => k_is)
    (case cStateOf => k_is)
    (case kStateOf => k_is)
    (case aLMix => k_is)
    (case lLMix => k_is)
    (case cLMix => k_is)
    (case kLMix => k_is)
    (case aLNext => k_is)
    (case lLNext => k_is)
    (case cLNext => k_is)
    (case kLNext => k_is)
    (case aLAlike => k_is)
    (case lLAlike => k_is)
    (case cLAlike => k_is)
    (case kLAlike => k_is)
    (case aLError => k_is)
    (case lLError => k_is)
    (case cLError => k_is)
    (case kLError => k_is)
    (case aLPlan => k_is)
    (case lLPlan => k_is)
    (case cLPlan => k_is)
    (case kLPlan => k_is)
    (case aLFirstBad => k_is)
    (case lLFirstBad => k_is)
    (case cLFirstBad => k_is)
    (case kLFirstBad => k_is)
    (case aLSpoilt => k_is)
    (case lLSpoilt => k_is)
    (case cLSpoilt => k_is)
    (case kLSpoilt => k_is)
    (case aLMeetings => k_is)
    (case lLMeetings => k_is)
    (case cLMeetings => k_is)
    (case kLMeetings => k_is)
    (case aLaw => k_is)
    (case lLaw => k_is)
    (case cLaw => k_is)
    (case kLaw => k_is)
    (case n_isinstance => k_is)
    (case n_bool => k_is)
    (case n_int => k_is)
    (case n_str => k_is)
    (case n_list => k_is)
    (case n_tuple => k_is)
    (case n_dict => k_is)
    (case n_len => k_is)
    (case n_range => k_is)
    (case n_enumerate => k_is)
    (case n_max => k_is)
    (case n_sum => k_is)
    (case n_set => k_is)
    (case n_zip => k_is)
    (case n_divmod => k_is)
    (case n_sorted => k_is)
    (case n_abs => k_is)
    (case n_min => k_is)
    (case n_super => k_is)
    (case n_ValueError => k_is)
    (case n_lcm => k_is)
    (case m1 => k_is)
    (case m2 => k_is)
    (case m3 => k_is)
    (case m4 => k_is)
    (case eS => k_is)
    (case e0 => k_is)
    (case e1 => k_is)
    (case e2 => k_is)
    (case e3 => k_is)
    (case e4 => k_is)
    (case e5 => k_is)
    (case e6 => k_is)
    (case e7 => k_is)
    (case e8 => k_is)
    (case e9 => k_is)
    (case e10 => k_is)
    (case e11 => k_is)
    (case e12 => k_is)
    (case e13 => k_is)
    (case e14 => k_is)
    (case xk0 => k_is)
    (case xb0 => k_is)
    (case xt0 => k_is)
    (case yg0 => k_is)
    (case yk0 => k_is)
    (case yd0 => k_is)
    (case ya0 => k_is)
    (case ym0 => k_is)
    (case ze0 => kernel_rfl)
    (case zv0 => kernel_rfl)
    (case z0_0 => kernel_rfl)
    (case z0_1 => kernel_rfl)
    (case z0_2 => kernel_rfl)
    (case z0_3 => kernel_rfl)
    (case z0_4 => kernel_rfl)
    (case z0_5 => kernel_rfl)
    (case z0_6 => kernel_rfl)
    (case z0_7 => kernel_rfl)
    (case z0_8 => kernel_rfl)
    (case z0_9 => kernel_rfl)
    (case z0_10 => kernel_rfl)
    (case z0_11 => kernel_rfl)
    (case z0_12 => kernel_rfl)
    (case z0_13 => kernel_rfl)
    (case z0_14 => kernel_rfl)
    (case x1 => first | k_exc | k_is)
    (case xk1 => k_is)
    (case xb1 => k_is)
    (case xt1 => k_is)
    (case x2 => first | k_exc | k_is)
    (case xk2 => k_is)
    (case xb2 => k_is)
    (case xt2 => k_is)
    (case x3 => first | k_exc | k_is)
    (case xk3 => k_is)
    (case xb3 => k_is)
    (case xt3 => k_is)
    (case x4 => first | k_exc | k_is)
    (case xk4 => k_is)
    (case xb4 => k_is)
    (case xt4 => k_is)
    (case x5 => first | k_exc | k_is)
    (case xk5 => k_is)
    (case xb5 => k_is)
    (case xt5 => k_is)
    (case x6 => first | k_exc | k_is)
    (case xk6 => k_is)
    (case xb6 => k_is)
    (case xt6 => k_is)
    (case x7 => first | k_exc | k_is)
    (case xk7 => k_is)
    (case xb7 => k_is)
    (case xt7 => k_is)
    (case x8 => first | k_exc | k_is)
    (case xk8 => k_is)
    (case xb8 => k_is)
    (case xt8 => k_is)
    (case y_n => k_is)
    (case y_t => k_is)
    (case pC => k_is)
    (case pR => decide +kernel)
    (case pSa => k_is)
    (case pN1 => k_is)
    (case pN2 => k_is)
    (case iC => k_is)
    (case tI => k_is)
    (case lI => k_is)
    (case pCell => k_is)
    (case pCode => k_is)
    (case pKo => k_is)
    (case pKf => rfl)
    (case pKm => first | rfl | decide +kernel)
    (case pTop => first | rfl | decide +kernel)
    (case pHs => kernel_rfl)
    (case pHo => first | k_is | kernel_rfl)
    (case pHB => k_is)
    (case pHm => first | k_is | kernel_rfl)
    (case hcode => rfl)
    (case htab => kernel_rfl)
    (case hnone => kernel_rfl)

