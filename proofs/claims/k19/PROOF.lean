import PyProof.Rows.All
import Wide.All
import OpenK.AllK
import Wide.FinOn
import HandS.ForMost
import HandS.ForExc
import HandS.Lambda
import HandS.Nested
import HandS.EndTab
import HandS.Conv
import HandS.Zip
import HandS.SetFor
import HandS.TupAny
import HandS.Gcd
import HandS.Wide
import HandS.WideBits
import HandS.IsInst
import HandS.ExcIs
import HandS.Flow
import KE.KMathGC
import KE.GoesMore
import PyProof.EnumMake
import PyProof.Draws
import HandS.ExcInit
import HandS.ExcSuper
import HandS.ExcField
import HandS.FStr
import KE.KExcSuper
import KE.KSuper
import PySem.Str
import HandS.TupMul
import KE.KTupSum
import KE.KExcIs
import HandS.DictComp
import HandS.Strs
import KE.GoesZip
import HandS.Style
import HandS.More
import HandS.SortInts
import HandS.Deep
import HandS.Walk
import HandS.WordsDict
import HandS.SortKw
import KE.DatumOrd
import PySem.Challenge.RW_swapshelves_k19_whole_known_plans
set_option Elab.async false
set_option linter.all false
set_option maxRecDepth 100000
section
open PySem PySem.W PyProof.Rows
set_option maxHeartbeats 0
open_top head for PySem.Challenge.rw_swapshelves_k19_whole_known_plans
end
set_option maxHeartbeats 4000000
/-! lambdas as values: made with or without one default, called where their cells still hold -/
namespace Sv
open PySem PySem.Spec PyProof.Rows L2 LamX NdefX

/-- a lambda: its text, what it captured, its defaults, its code object -/
structure LF where
  params : Arguments
  body : Expr
  scope : Scope
  qual : Str
  cl : List (Str × Addr)
  dV : Value
  c : Addr
def LF.fd (L : LF) (pm ctv : Value) : FuncData :=
  { PySem.W.kla_fn "<lambda>" L.qual L.params L.body L.scope L.cl pm (.ref L.c) ctv with defaults := L.dV }
def LF.obj (L : LF) (pm ctv : Value) : Obj := { cls := .type "function", data := .func (L.fd pm ctv) }
def LamO (f : Addr) (L : LF) : HO := .ext fun h => ∃ (od : Option Addr) (sl : Array (Option Value)) (pm ctv : Value), h.get? f = some (⟨.type "function", od, .func (L.fd pm ctv), sl⟩ : Obj)
theorem lamO_tbl {f : Addr} {L : LF} (ps : Array Value) : LamO f L ≠ .tbl ps := fun z => by
  unfold LamO at z
  cases z
theorem lamO_at {P : Program} {w : World} {H : Hp} {h : Heap} {f : Addr} {L : LF} (hok : HOk P w H h) (e : H f = some (LamO f L)) :
    ∃ (od : Option Addr) (sl : Array (Option Value)) (pm ctv : Value), h.get? f = some (⟨.type "function", od, .func (L.fd pm ctv), sl⟩ : Obj) := (hok f _ e).1

section
variable {M : Model} {A : Around} {E : Value → Shared → Prop} {s : Shared} {qual : Str} {params : Arguments} {body : Expr} {scope : Scope} {env : Env} {c P : Addr} {ps : Array Value}
  {pos : Pos} {fl : Nat} {mg : Str → Option Value} {clos : List (Str × Addr)} {dV : Value} {Q : Value → Shared → Prop}
/-- the end of its making, the code object new -/
theorem tail_new (hcl : closureFor scope env = pure clos) (hge : env.globals = mainGlobals) (hg : s.heap.Ns mainGlobals mg) (hcode : env.code = .ref c) (C : PySem.W.CodeHd s.heap c P)
    (hP : s.heap.get? P = some { cls := .none, data := .fields ps }) (ht : TriplesOk ps.toList) (hnf : codeAmong pos ps.toList = none) (hgP : mainGlobals ≠ P) (hb : s.heap.BuiltinsAt mg P)
    (h : ∀ c' ctv h' tk, Heap.ExtBut P s.heap h' → s.heap.objs.size ≤ c' → c' < h'.objs.size → h'.CodeRec (.ref c') qual →
      h'.get? P = some { cls := .none, data := .fields (ps ++ #[rawInt pos.line, rawInt pos.col, .ref c']) } →
      Q (.ref h'.objs.size) { s with heap := h'.push (LF.obj ⟨params, body, scope, qual, clos, dV, c'⟩ ((mg "__name__").getD .none) ctv), toks := tk }) :
    wpAny M A (makeTail "<lambda>" qual params (.expr body) scope env dV .none none pos fl) Q E s := by
  obtain ⟨bm, ob, e1, e2, _, e3, e4, e5, e6, e7⟩ := hb
  unfold makeTail
  rw [hcl, hge]
  refine wpAny_bind (wpAny_pure ?_)
  by_cases hz : clos.isEmpty = true
  · rw [if_pos hz]
    refine wpAny_bind (wpAny_pure (wpAny_bind (wpAny_functionCodeX hcode (C.code hP ht) (C.tab hP) hnf fun c' h' tk x1 x2 x3 _ x4 x5 _ => ?_)))
    have g1 := hg.extBut x1 hgP
    refine wpAny_bind (wpAny_builtinsFor g1 e1 e2 (x1 _ _ e3 e4) e5 e6 e7 (wpAny_bind (wpAny_nsGet g1 ?_)))
    exact wpAny_bind (wpAny_pure (wpAny_newObj_type (h c' .none h' tk x1 x2 x3 x4 x5.2) (by size_fits)))
  · rw [if_neg hz]
    refine wpAny_bind (wpAny_newTextTuple ?_)
    have kp : ∀ (oT : Obj) b o, s.heap.get? b = some o → (s.heap.push oT).get? b = some o := fun oT b o e => Heap.get?_push_of_some _ e
    refine wpAny_bind (wpAny_functionCodeX hcode ((C.keeps (kp _)).code (kp _ _ _ hP) ht) ((C.keeps (kp _)).tab (kp _ _ _ hP)) hnf fun c' h' tk x1 x2 x3 _ x4 x5 _ => ?_)
    have g1 := (hg.push _).extBut x1 hgP
    have x1' : Heap.ExtBut P s.heap h' := fun b o n e => x1 b o n (kp _ b o e)
    have x2' : s.heap.objs.size ≤ c' := Nat.le_trans (by rw [Heap.size_push]; omega) x2
    refine wpAny_bind (wpAny_builtinsFor g1 e1 e2 (x1' _ _ e3 e4) e5 e6 e7 (wpAny_bind (wpAny_nsGet g1 ?_)))
    exact wpAny_bind (wpAny_pure (wpAny_newObj_type (h c' _ h' tk x1' x2' x3 x4 x5.2) (by size_fits)))
/-- .. the code object found -/
theorem tail_hit {c' : Addr} (hcl : closureFor scope env = pure clos) (hge : env.globals = mainGlobals) (hg : s.heap.Ns mainGlobals mg) (hcode : env.code = .ref c) (C : PySem.W.CodeHd s.heap c P)
    (hP : s.heap.get? P = some { cls := .none, data := .fields ps }) (ht : TriplesOk ps.toList) (hf : codeAmong pos ps.toList = some (.ref c')) (hb : s.heap.BuiltinsAt mg P)
    (h : ∀ (ctv : Value) (h' : Heap) (tk : Tok), (∀ b o, s.heap.get? b = some o → h'.get? b = some o) → s.heap.objs.size ≤ h'.objs.size →
      Q (.ref h'.objs.size) { s with heap := h'.push (LF.obj ⟨params, body, scope, qual, clos, dV, c'⟩ ((mg "__name__").getD .none) ctv), toks := tk }) :
    wpAny M A (makeTail "<lambda>" qual params (.expr body) scope env dV .none none pos fl) Q E s := by
  obtain ⟨bm, ob, e1, e2, _, e3, e4, e5, e6, e7⟩ := hb
  unfold makeTail
  rw [hcl, hge]
  refine wpAny_bind (wpAny_pure ?_)
  by_cases hz : clos.isEmpty = true
  · rw [if_pos hz]
    refine wpAny_bind (wpAny_pure (wpAny_bind (wpAny_functionCode_hit hcode (C.code hP ht) hf ?_)))
    refine wpAny_bind (wpAny_builtinsFor hg e1 e2 e4 e5 e6 e7 (wpAny_bind (wpAny_nsGet hg ?_)))
    exact wpAny_bind (wpAny_pure (wpAny_newObj_type (h .none s.heap s.toks (fun _ _ e => e) (Nat.le_refl _)) (by size_fits)))
  · rw [if_neg hz]
    refine wpAny_bind (wpAny_newTextTuple ?_)
    have kp : ∀ (oT : Obj) b o, s.heap.get? b = some o → (s.heap.push oT).get? b = some o := fun oT b o e => Heap.get?_push_of_some _ e
    refine wpAny_bind (wpAny_functionCode_hit hcode ((C.keeps (kp _)).code (kp _ _ _ hP) ht) hf ?_)
    refine wpAny_bind (wpAny_builtinsFor (hg.push _) e1 e2 (kp _ _ _ e4) e5 e6 e7 (wpAny_bind (wpAny_nsGet (hg.push _) ?_)))
    have sz : ∀ oT : Obj, s.heap.objs.size ≤ (s.heap.push oT).objs.size := fun oT => by rw [Heap.size_push]; omega
    exact wpAny_bind (wpAny_pure (wpAny_newObj_type (h _ _ s.toks (kp _) (sz _)) (by size_fits)))
end

section
variable {X : Cx} {pins : List (Addr × Obj)} {σ : L2.St} {H : Hp} {s : Shared}
/-- a function object just made is known from now on -/
theorem inv_lam {L : LF} {t' : Nat} {pm ctv : Value} (I : Inv X pins σ H s) :
    Inv X pins σ (upd H s.heap.objs.size (LamO s.heap.objs.size L)) { s with heap := s.heap.push (L.obj pm ctv), toks := t' } := by
  refine I.laid (a := s.heap.objs.size) (fun b u e => Heap.get?_push_of_some _ e) (Nat.le_refl _) ?_
  have e : (s.heap.push (L.obj pm ctv)).get? s.heap.objs.size = some (L.obj pm ctv) := Heap.get?_push_size _ rfl
  exact ⟨⟨_, _, pm, ctv, e⟩, ⟨_, e⟩, fun h1 h2 ⟨a1, a2, a3, a4, z⟩ st => ⟨a1, a2, a3, a4, st _ z⟩⟩
/-- what is asked of the makers' tables -/
structure LamT (X : Cx) (T : List (Addr × Str)) (c P : Addr) : Prop where
  tb : TabB X.base X.mg c P
  code : X.env.code = .ref c
  mem : (P, X.env.qual ++ "<lambda>") ∈ T
  uni : ∀ p ∈ T, p.1 = P → p.2 = X.env.qual ++ "<lambda>"
theorem lam_tail {T : List (Addr × Str)} {c P : Addr} {params : Arguments} {body : Expr} {scope : Scope} {pos : Pos} {fl : Nat} {dV : Value} {E : Value → Shared → Prop} {Q : Value → Shared → Prop} (I : Inv X pins σ H s) (LT : LamT X T c P)
    (hT : Tabs T H) (hfree : ∀ y ∈ scope.names, y.2 = .free → ∃ c, X.env.cells.lookup y.1 = some c)
    (h : ∀ (f c' : Addr) (H1 : Hp) (s' : Shared), Inv X pins σ H1 s' → ExtN H H1 → (∀ b, H1 b = none → H b = none) → Tabs T H1 → H f = none →
      H1 f = some (LamO f ⟨params, body, scope, X.env.qual ++ "<lambda>", cloFrom X.env.cells scope.names [], dV, c'⟩) → H1 c' = some (CodeO c' (X.env.qual ++ "<lambda>")) → Q (.ref f) s') :
    wpAny (model X.prog X.w) X.A (makeTail "<lambda>" (X.env.qual ++ "<lambda>") params (.expr body) scope X.env dV .none none pos fl) Q E s := by
  obtain ⟨ps, hP, ht, ha⟩ := hT _ LT.mem
  have bP : s.heap.BuiltinsAt X.mg P := LT.tb.bm.keeps I.bk
  have gP : s.heap.get? P = some { cls := .none, data := .fields ps } := I.hok P _ hP
  cases hc : codeAmong pos ps.toList with
  | none =>
    refine tail_new (mg := X.mg) (c := c) (P := P) (ps := ps) (closure_ok hfree) I.ok.glob (I.mod.glob.keeps I.bk) LT.code (LT.tb.code.keeps I.bk) gP ht hc LT.tb.gP bP fun c' ctv h' tk x1 x2 x3 x4 x5 => ?_
    obtain ⟨c2, oc, vs, t, e2, hoc, hd, hv⟩ := x4
    cases e2
    have nC : H c' = none := I.hok.fresh x2
    have I1 := inv_table (t' := tk) (more := #[rawInt pos.line, rawInt pos.col, .ref c']) (h' := h') I hP (fun b o hb e => x1 b o hb e) x5 x2 ⟨oc, vs, t, hoc, hd, hv⟩
    generalize hG : upd (upd H P (.tbl (ps ++ #[rawInt pos.line, rawInt pos.col, .ref c']))) c' (CodeO c' (X.env.qual ++ "<lambda>")) = G at I1
    have atC : G c' = some (CodeO c' (X.env.qual ++ "<lambda>")) := by rw [← hG]; exact upd_same
    have hE : ExtN H G := fun b o e n => by
      rw [← hG, upd_ne (ne_of_none e nC), upd_ne (fun z => n ps (Option.some.inj (e.symm.trans (by rw [z]; exact hP))))]
      exact e
    have eL : (ps ++ #[rawInt pos.line, rawInt pos.col, .ref c']).toList = ps.toList ++ [rawInt pos.line, rawInt pos.col, .ref c'] := by simp
    have T1 : Tabs T G := fun p hp => by
      by_cases hb : p.1 = P
      · rw [LT.uni p hp hb, hb]
        refine ⟨_, by rw [← hG, upd_ne (ne_of_none hP nC), upd_same], by rw [eL]; exact PySem.TriplesOk_snoc _ _ _ _ ht, fun p' cv hcv => ?_⟩
        rw [eL] at hcv
        rcases among_app _ ht hcv with z | z
        · obtain ⟨c0, q1, q2⟩ := ha p' cv z
          exact ⟨c0, q1, hE _ _ q2 codeO_ne⟩
        · exact ⟨c', z, atC⟩
      · obtain ⟨ps', a1, a2, a3⟩ := hT p hp
        refine ⟨ps', by rw [← hG, upd_ne (ne_of_none a1 nC), upd_ne hb]; exact a1, a2, fun p' cv hcv => ?_⟩
        obtain ⟨c0, q1, q2⟩ := a3 p' cv hcv
        exact ⟨c0, q1, hE _ _ q2 codeO_ne⟩
    have nF := I1.hok.fresh (Nat.le_refl _)
    have I2 := inv_lam (L := ⟨params, body, scope, X.env.qual ++ "<lambda>", cloFrom X.env.cells scope.names [], dV, c'⟩) (t' := tk) (pm := (X.mg "__name__").getD .none) (ctv := ctv) I1
    refine h h'.objs.size c' _ _ I2 (fun b o e n => ?_) (fun b e => ?_) (T1.ext fun b o e => ?_) (I.hok.fresh (Nat.le_trans x2 (Nat.le_of_lt x3))) upd_same ?_
    · exact (upd_ne (ne_of_none (hE b o e n) nF)).trans (hE b o e n)
    · have e1 := upd_none e
      rw [← hG] at e1
      exact upd_none (upd_none e1)
    · exact (upd_ne (ne_of_none e nF)).trans e
    · exact (upd_ne (Nat.ne_of_lt x3)).trans atC
  | some cv =>
    obtain ⟨c', e, hco⟩ := ha pos cv hc
    subst e
    refine tail_hit (mg := X.mg) (c := c) (P := P) (ps := ps) (closure_ok hfree) I.ok.glob (I.mod.glob.keeps I.bk) LT.code (LT.tb.code.keeps I.bk) gP ht hc bP fun ctv h' tk x1 x2 => ?_
    have I1 : Inv X pins σ H { s with heap := h', toks := tk } := I.kept x1
    have nF : H h'.objs.size = none := I1.hok.fresh (Nat.le_refl _)
    have I2 := inv_lam (L := ⟨params, body, scope, X.env.qual ++ "<lambda>", cloFrom X.env.cells scope.names [], dV, c'⟩) (t' := tk) (pm := (X.mg "__name__").getD .none) (ctv := ctv) I1
    refine h h'.objs.size c' _ _ I2 (fun b o e n => ?_) (fun b e => upd_none e) (hT.ext fun b o e => ?_) nF upd_same ?_
    · exact (upd_ne (ne_of_none e nF)).trans e
    · exact (upd_ne (ne_of_none e nF)).trans e
    · exact (upd_ne (ne_of_none hco nF)).trans hco
end
/-- what the defaults' place holds -/
def DflAt (H : Hp) (dV : Value) (dvs : List V) : Prop := (dvs = [] ∧ dV = .none) ∨ (dvs ≠ [] ∧ ∃ T, dV = .ref T ∧ H T = some (.tup dvs))
/-- the reading of a lambda: a new function, mk its datum -/
def tLamV (T : List (Addr × Str)) (dvs : List V) (mk : Value → Addr → LF) : TE := fun _ H Q => Tabs T H ∧ ∀ (f c' : Addr) (dV : Value) (H1 : Hp), ExtN H H1 → (∀ b, H1 b = none → H b = none) → Tabs T H1 → H f = none →
  H1 f = some (LamO f (mk dV c')) → H1 c' = some (CodeO c' (mk dV c').qual) → DflAt H1 dV dvs → Q (.ref f) H1
section
variable {X : Cx}
theorem pe_lam0 {T : List (Addr × Str)} {c P : Addr} {params : Arguments} {body : Expr} {scope : Scope} {pos : Pos} (LT : LamT X T c P) (hd : defaultsOf params X.env = ([], []))
    (hfree : ∀ y ∈ scope.names, y.2 = .free → X.env.scope.names.lookup y.1 = some .cell ∨ X.env.scope.names.lookup y.1 = some .free) :
    PE X (.Lambda params body scope pos) (tLamV T [] fun dV c' => ⟨params, body, scope, X.env.qual ++ "<lambda>", cloFrom X.env.cells scope.names [], dV, c'⟩) := by
  refine ⟨fun pins s σ H Q I ⟨hT, h⟩ => PySem.W.kla_eval hd ?_⟩
  rw [makeFunction_eq]
  simp only [List.zip_nil_right, List.filterMap_nil, List.isEmpty_nil, if_true, pure_bind]
  have hf : ∀ y ∈ scope.names, y.2 = .free → ∃ c, X.env.cells.lookup y.1 = some c := fun y hy e => (hfree y hy e).elim (fun z => I.ok.has _ (.inl z)) fun z => I.ok.has _ (.inr z)
  exact lam_tail I LT hT hf fun f c' H1 s' I1 a1 a2 a3 a4 a5 a6 => ⟨.ref f, H1, I1, rfl, h f c' .none H1 a1 a2 a3 a4 a5 a6 (.inl ⟨rfl, rfl⟩)⟩
theorem pe_lam1 {T : List (Addr × Str)} {c P : Addr} {params : Arguments} {body : Expr} {scope : Scope} {pos : Pos} {i j : Int} {jn : Nat} {p2 : Pos} (LT : LamT X T c P)
    (hd : defaultsOf params X.env = ([eval (.Constant (.int i) jn p2) X.env], []))
    (hfree : ∀ y ∈ scope.names, y.2 = .free → X.env.scope.names.lookup y.1 = some .cell ∨ X.env.scope.names.lookup y.1 = some .free) :
    PE X (.Lambda params body scope pos) (tLamV T [.int i] fun dV c' => ⟨params, body, scope, X.env.qual ++ "<lambda>", cloFrom X.env.cells scope.names [], dV, c'⟩) := by
  refine ⟨fun pins s σ H Q I ⟨hT, h⟩ => ?_⟩
  rw [arm_eval_Lambda, hd]
  have hf : ∀ y ∈ scope.names, y.2 = .free → ∃ c, X.env.cells.lookup y.1 = some c := fun y hy e => (hfree y hy e).elim (fun z => I.ok.has _ (.inl z)) fun z => I.ok.has _ (.inr z)
  refine wpAny_bind (wpAny_evalAll_cons (thn ((pe_int (X := X) (i := i) (j := jn) (pos := p2)).run pins s σ H (fun v H1 => v = .int i ∧ H1 = H) I ⟨rfl, rfl⟩) fun u s1 ⟨v, H1, I1, r1, q1⟩ => ?_))
  obtain ⟨ev, eH⟩ := q1
  subst ev
  subst eH
  refine wpAny_evalAll_nil (wpAny_bind (wpAny_holding (wpAny_pure ?_)))
  rw [makeFunction_eq]
  simp only [List.zip_nil_right, List.filterMap_nil, List.isEmpty_nil, if_true, pure_bind, List.isEmpty_cons, Bool.false_eq_true, if_false]
  refine wpAny_bind (wpAny_newTextTuple ?_)
  have nT := I1.hok.fresh (Nat.le_refl s1.heap.objs.size)
  have I2 : Inv X pins σ (upd H1 s1.heap.objs.size (.tup [.int i])) { s1 with heap := s1.heap.push { cls := .type "tuple", data := .seq [u].toArray } } := by
    refine I1.laid (t' := s1.toks) (fun b o e => Heap.get?_push_of_some _ e) (Nat.le_refl _) ⟨(by decide : (1 : Nat) ≤ sizeLine), [u], .cons r1 .nil, ?_⟩
    exact ⟨_, Heap.get?_push_size _ rfl, rfl, ⟨_, rfl⟩⟩
  have hT2 : Tabs T (upd H1 s1.heap.objs.size (.tup [.int i])) := hT.ext fun b o e => by
    rw [upd_ne (ne_of_none e nT)]
    exact e
  refine lam_tail I2 LT hT2 hf fun f c' H2 s' I3 a1 a2 a3 a4 a5 a6 => ⟨.ref f, H2, I3, rfl, h f c' _ H2 (fun b o e n => ?_) (fun b e => upd_none (a2 b e)) a3 (upd_none a4) a5 a6 (.inr ⟨List.cons_ne_nil _ _, _, rfl, ?_⟩)⟩
  · exact a1 b o (by rw [upd_ne (ne_of_none e nT)]; exact e) n
  · exact a1 _ _ upd_same (fun ps z => nomatch z)
end
end Sv


set_option maxHeartbeats 4000000
/-! what a lambda promises; its call where only the state at the entry knows its cells -/
namespace Sv
open PySem PySem.Spec PyProof.Rows L2 LamX NdefX

def LF.nf (L : LF) : NF := ⟨"<lambda>", L.qual, L.params, [], L.scope, L.cl, L.c⟩
/-- how the defaults bind -/
def LBinds (L : LF) (ps : List Str) (dvs : List V) : Prop := ∀ (H : Hp) (P : Program) (w : World) (s : Shared), HOk P w H s.heap → DflAt H L.dV dvs →
  ∃ us, Vals dvs us ∧ ∀ pm ctv, BindsTo s (L.fd pm ctv) ⟨[], []⟩ (ps.zip us)
theorem lbinds0 {L : LF} (h : ∀ q cl pm cv ctv, bindArgs (PySem.W.kla_fn "<lambda>" q L.params L.body L.scope cl pm cv ctv) ⟨[], []⟩ = pure []) : LBinds L [] [] := fun H P w s hok d => by
  rcases d with ⟨_, e⟩ | ⟨e, _⟩
  · refine ⟨[], .nil, fun pm ctv => .of_eq ?_⟩
    have z := h L.qual L.cl pm (.ref L.c) ctv
    unfold LF.fd
    rw [e]
    exact z
  · exact absurd rfl e
theorem lbinds1 {L : LF} {a : Str} {v : V} (h : ∀ q cl pm cv ctv (T : Addr) (u : Value), ∃ k, bindArgs { PySem.W.kla_fn "<lambda>" q L.params L.body L.scope cl pm cv ctv with defaults := .ref T } ⟨[], []⟩ = seqItems? (.ref T) >>= k ∧
    k (some [u].toArray) = pure [(a, u)]) : LBinds L [a] [v] := fun H P w s hok d => by
  rcases d with ⟨e, _⟩ | ⟨_, T, e, hT⟩
  · cases e
  · obtain ⟨_, its, r, o, ho, _, n, hd⟩ := hok T _ hT
    obtain ⟨u, rfl, ru⟩ := Vals.one r
    refine ⟨[u], .cons ru .nil, fun pm ctv M A Q E q => ?_⟩
    obtain ⟨k, e1, e2⟩ := h L.qual L.cl pm (.ref L.c) ctv T u
    unfold LF.fd
    rw [e]
    rw [e1]
    refine wpAny_bind (wpAny_seqItems ho hd ?_)
    rw [e2]
    exact wpAny_pure q

/-- the promise of the lambda L at f, its cells holding ws -/
structure LOk (P : Program) (w : World) (K : PySem.W.Frag) (mg : Str → Option Value) (base : Heap) (k : Nat) (f : Addr) (L : LF) (fr : List Str) (dvs : List V) (tl : List (Option V) → XK → Hp → VK → Prop) : Prop where
  run : ∀ (A : Around) (outer : List Env) (s : Shared) (H : Hp) (ws : List (Option V)) (Q : VK) (E : XK), Room k A → Env0 P w K mg base A outer s H → H f = some (LamO f L) → H L.c = some (CodeO L.c L.qual) → DflAt H L.dV dvs →
    CellsAt L.cl fr ws s.heap H → tl ws E H Q → codeAny (model P w) A (.call (.ref f) ⟨[], []⟩) (CR (L2.CX P w) outer P w H s Q E) s
section
variable {P : Program} {w : World} {K : PySem.W.Frag} {mg : Str → Option Value} {base : Heap} {N ps fr : List Str} {L : LF} {f : Addr} {k : Nat} {dvs : List V} {tl : List (Option V) → XK → Hp → VK → Prop}
theorem lok_of (S : NScope N ps fr L.scope) (hb : LBinds L ps dvs) (hl : dvs.length = ps.length)
    (hbody : ∀ (A : Around) (outer : List Env) (s : Shared) (H : Hp) (ws : List (Option V)) (Q : VK) (E : XK), Room k (A.deeper (envF L.nf f s.heap.objs.size)) → ws.length = fr.length → tl ws E H Q →
      ∃ t, PE (ncx (L2.CX P w) P w K mg base N L.nf f A outer s H E) L.body t ∧ t (startF N dvs ws) H Q) : LOk P w K mg base (k + 1) f L fr dvs tl := by
  refine ⟨fun A outer s H ws Q E hr e0 hf hc hd C ht => ?_⟩
  have lim : s.heap.NoLimit := e0.mod.nolimit.keeps fun b o e => (e0.bs b o e).1
  obtain ⟨od, sl, pm, ctv, ho⟩ := lamO_at e0.hok hf
  obtain ⟨us, r, hbi⟩ := hb H P w s e0.hok hd
  obtain ⟨⟨oc, vs, t, hoc, hdc, hvc⟩, _, _⟩ := e0.hok L.c _ hc
  have hus : us.length = ps.length := by rw [← r.length]; exact hl
  refine PySem.W.kla_callFunE hr.depth ho rfl S.co S.gen rfl ⟨L.c, oc, vs, t, rfl, hoc, hdc, hvc⟩ (hbi pm ctv _ _ _ _ ?_)
  refine wpAny_newFunctionEnv S.nocell (fun ⟨n, _⟩ hy => S.par n (List.of_mem_zip hy).1) (fun h₁ hns hsb => ⟨lim.fresh _ hsb, ?_⟩) S.kind
  show codeAny _ _ (.expr L.body (envF L.nf f s.heap.objs.size)) _ _
  have kp : ∀ b o, s.heap.get? b = some o → h₁.get? b = some o := fun b o e => hsb.extBut b o (Nat.ne_of_lt (Heap.lt_size e)) (Heap.get?_push_of_some _ e)
  obtain ⟨t, hp, hq⟩ := hbody A outer s H ws Q E (hr.deeper _) C.len ht
  have I : Inv (ncx (L2.CX P w) P w K mg base N L.nf f A outer s H E) [] (startF N dvs ws) H { s with heap := h₁, toks := s.toks + (ps.zip us).length } := inv_startN (F := L.nf) S hr.hd e0 hl r C hns kp
  refine PySem.W.kla_codeExpr (wpAny_mono (hp.run [] _ _ H Q I hq) (fun u s' hs => ?_) fun e s' hs => hs)
  obtain ⟨v', H', J, rv, q⟩ := hs
  exact ⟨v', H', J.os, J.bare, J.base, J.hok, rv, q⟩
theorem LOk.mono {j : Nat} (o : LOk P w K mg base j f L fr dvs tl) (h : j ≤ k) : LOk P w K mg base k f L fr dvs tl := ⟨fun A outer s H ws Q E hr => o.run A outer s H ws Q E (hr.mono h)⟩
end
/-- what the cells held they hold behind anything that keeps the untracked -/
theorem cells_later {fs ex : List Addr} {cl : List (Str × Addr)} {fr : List Str} {ws : List (Option V)} {h h1 : Heap} {H H1 : Hp} (C : CellsAt cl fr ws h H) (nf : ∀ y c, cl.lookup y = some c → c ∉ fs) (nx : ∀ y c, cl.lookup y = some c → c ∉ ex) (u : Un fs ex H H1 h h1) :
    CellsAt cl fr ws h1 H1 := by
  have kp : ∀ y c, cl.lookup y = some c → ∀ v, h.IsCell c v → h1.IsCell c v := fun y c e v ⟨o, ho, hd⟩ => ⟨o, u.keep c o ho (C.all y c e).1 (nf y c e) (nx y c e), hd⟩
  refine ⟨C.len, fun y c e => ?_, C.inj, fun i y e => ?_⟩
  · obtain ⟨n, v, z⟩ := C.all y c e
    refine ⟨?_, v, kp y c e v z⟩
    obtain ⟨o, ho, _⟩ := z
    exact u.free c o ho n (nx y c e)
  · obtain ⟨c, hc, hv⟩ := C.has i y e
    refine ⟨c, hc, fun v ev => ?_⟩
    obtain ⟨uu, r, z⟩ := hv v ev
    exact ⟨uu, r, kp y c hc _ z⟩
/-- no cell of the running frame is one of the frames that run -/
def Far (X : Cx) : Prop := ∀ y c, X.env.cells.lookup y = some c → c ∉ frs X.stack
theorem far_def {X : Cx} {pins : List (Addr × Obj)} {σ : L2.St} {H : Hp} {s : Shared} (I : Inv X pins σ H s) (hf : ∀ y, X.fn y = true) : Far X := fun y c e hm => by
  rcases List.mem_cons.mp (I.stkSub c hm) with z | z
  · exact I.cne y c e z
  · obtain ⟨_, o, ho, _⟩ := I.ok.funs.mem z
    exact Nat.lt_irrefl _ (Nat.lt_of_lt_of_le (Heap.lt_size ho) (I.ok.cab y c (hf y) e))
/-- what is known where a comprehension's block begins -/
structure Blk0 (X : Cx) (σ : L2.St) (s : Shared) (H : Hp) (cl : List (Str × Addr)) (fp : List Addr) : Prop where
  inv : ∃ pins, Inv X pins σ H s ∧ ∀ b ∈ fp, FpOk X pins H b
  far : Far X → ∀ y c, cl.lookup y = some c → c ∉ frs X.stack
theorem blk_far {X : Cx} {pins : List (Addr × Obj)} {σ : L2.St} {H : Hp} {s : Shared} {scope : Scope} (I : Inv X pins σ H s) (hfree : ∀ y ∈ scope.names, y.2 = .free → ∃ c, X.env.cells.lookup y.1 = some c) (F : Far X) :
    ∀ y c, (cellsFrom (s.heap.objs.size + 1) scope.names (cloFrom X.env.cells scope.names [])).lookup y = some c → c ∉ frs X.stack := fun y c e hm => by
  rw [← Heap.size_push s.heap { cls := .type "dict", data := .dict #[] }] at e
  rcases cells_mem (PySem.mem_of_lookup e) with z | ⟨_, z, _⟩
  · rcases cloFrom_mem z with z | ⟨h1, h2⟩
    · cases z
    · obtain ⟨c1, hc⟩ := hfree _ h1 rfl
      have e2 : c = c1 := by
        rw [h2, hc]
        rfl
      exact F y c (by rw [e2]; exact hc) hm
  · rw [Heap.size_push] at z
    obtain ⟨_, o, ho, _⟩ := I.stack.mem hm
    exact Nat.lt_irrefl _ (Nat.lt_of_lt_of_le (Heap.lt_size ho) (Nat.le_of_succ_le z))
section
variable {X : Cx}
/-- a comprehension whose element may know the state where the block begins -/
theorem pe_lcI {elt tg iter : Expr} {ifs : List Expr} {scope : Scope} {own : List (Str × Nat)} {pos : Pos} {wi : TI} {g : TG} {tt : L2.St → TT} {te : L2.St → TE} (hc : X.calm = true) (hN : X.N.Nodup) (hi : PI X tg iter wi) (ok : BlkOk X.N X.env.scope scope own)
    (hg : ∀ (s : Shared) (H : Hp) (C : Addr) (cl : List (Str × Addr)) (fp : List Addr), PG (X.blk s H scope (compEnvC scope cl C X.env) fp) tg g)
    (ht : ∀ (σ : L2.St) (s : Shared) (H : Hp) (C : Addr) (cl : List (Str × Addr)) (fp : List Addr), Blk0 X σ s H cl fp → PTs (X.blk s H scope (compEnvC scope cl C X.env) fp) ifs (tt σ))
    (he : ∀ (σ : L2.St) (s : Shared) (H : Hp) (C : Addr) (cl : List (Str × Addr)) (fp : List Addr), Blk0 X σ s H cl fp → PE (X.blk s H scope (compEnvC scope cl C X.env) fp) elt (te σ))
    (hs : ∀ x, foldedSetIterable iter X.env x = pure x := by intro _; rfl) :
    PE X (.ListComp elt [⟨tg, iter, ifs, 0⟩] scope pos) (fun σ H Q => tLc wi g (tt σ) (te σ) (own.map (·.2)) σ H Q) := by
  refine ⟨fun pins s σ H Q I h => ?_⟩
  have hfree : ∀ y ∈ scope.names, y.2 = .free → ∃ c, X.env.cells.lookup y.1 = some c := fun y hy e => (ok.free y hy e).elim (fun k => I.ok.has _ (.inl k)) fun k => I.ok.has _ (.inr k)
  rw [eval_ListComp]
  refine wpAny_comprehension_free (use := none) rfl hs (closure_ok hfree) ok.kind (fun y hy e => by rw [ok.uniq y hy, e]) (thn (hi.run pins s σ H _ I h) fun xv s1 hx => thn hx fun itv s2 h2 => ?_)
  obtain ⟨it, fp, tn, J, H2, rfl, I2, T, st2, f2, q⟩ := h2
  refine wpAny_newObj_type (newEnv_comp ?_) (by show 0 ≤ sizeLine; decide)
  have nD : H2 s2.heap.objs.size = none := I2.hok.fresh (Nat.le_refl _)
  obtain ⟨W, ⟨m0, w0⟩, turn⟩ := q _ nD
  generalize hD : s2.heap.objs.size = D at nD w0 turn ⊢
  generalize hs3 : ({ s2 with heap := s2.heap.push { cls := .type "list", data := .seq ([] : List Value).toArray } } : Shared) = s3
  have h3 : s3.heap = s2.heap.push { cls := .type "list", data := .seq ([] : List Value).toArray } := by rw [← hs3]
  have I3 : Inv X pins σ (upd H2 D (.lst [])) s3 := by
    rw [← hs3]
    refine I2.laid (t' := s2.toks) (fun b o e => Heap.get?_push_of_some _ e) (Nat.le_of_eq hD) ⟨Nat.zero_le _, [], 0, .nil, ?_⟩
    rw [← hD]
    exact Heap.get?_push_size _ rfl
  have f3 : ∀ b ∈ fp, FpOk X pins (upd H2 D (.lst [])) b ∧ b < s3.heap.objs.size := fun b hb => by
    obtain ⟨o, e, _⟩ := T.obj _ _ st2 b hb
    have hlt := Heap.lt_size e
    refine ⟨⟨?_, (f2 b hb).2⟩, by rw [h3, Heap.size_push]; exact Nat.lt_succ_of_lt hlt⟩
    rw [upd_ne (by rw [← hD]; exact Nat.ne_of_lt hlt)]
    exact (f2 b hb).1
  have st3 : tn 0 s3.heap := T.keep _ _ _ st2 fun b _ o e => by rw [h3]; exact Heap.get?_push_of_some _ e
  have I4 := block_start I3 ok hN f3
  have K0 : Blk0 X σ s3 (upd H2 D (.lst [])) (cellsFrom (s3.heap.objs.size + 1) scope.names (cloFrom X.env.cells scope.names [])) fp := ⟨⟨pins, I3, fun b hb => (f3 b hb).1⟩, blk_far I3 hfree⟩
  have pg := hg s3 (upd H2 D (.lst [])) s3.heap.objs.size (cellsFrom (s3.heap.objs.size + 1) scope.names (cloFrom X.env.cells scope.names [])) fp
  have pt := ht σ s3 (upd H2 D (.lst [])) s3.heap.objs.size _ fp K0
  have pe := he σ s3 (upd H2 D (.lst [])) s3.heap.objs.size _ fp K0
  have nfp : ∀ b ∈ fp, (upd H2 D (.lst [])) b = none := fun b hb => (f3 b hb).1.1
  have fin0 : ∀ (C : Addr) (s' : Shared) (m : Str → Option Value) (H' : Hp), Inv X pins σ H' s' → Q (.ref D) H' → s'.heap.Ns C m → FpOk X pins H' C →
      compPost (model X.prog X.w) X.A X.xe none (fun u s' => EP X pins σ Q u s') (.ref D) C (.ok .next) s' := fun C s' m H' I' qq hn f =>
    ⟨m, hn, fun h'' sb => ⟨.ref D, H', I'.turned (t' := s'.toks) (fun b o hb e => (sb.2 b hb).trans e) f.1 f.2.1 f.2.2.2.1 f.2.2.2.2.1 f.2.2.2.2.2, rfl, qq⟩⟩
  generalize hce : compEnvC scope (cellsFrom (s3.heap.objs.size + 1) scope.names (cloFrom X.env.cells scope.names [])) s3.heap.objs.size X.env = ce at I4 pg pt pe
  have cL : ce.locals = s3.heap.objs.size := by subst hce; rfl
  generalize hH3 : upd H2 D (.lst []) = H3 at I3 I4 pg pt pe w0 nfp f3
  show codeAny _ _ (.compStart (.ListComp elt [⟨tg, iter, ifs, 0⟩] scope pos) 0 (.ref it) (.ref D) (compEnvC scope (cellsFrom (s3.heap.objs.size + 1) scope.names (cloFrom X.env.cells scope.names [])) s3.heap.objs.size X.env)) (compPost (model X.prog X.w) X.A X.xe none _ (.ref D) s3.heap.objs.size) { s3 with heap := pushCells (s3.heap.push { cls := .type "dict", data := .dict #[] }) scope.names }
  rw [hce]
  generalize hs4 : ({ s3 with heap := pushCells (s3.heap.push { cls := .type "dict", data := .dict #[] }) scope.names } : Shared) = s4 at I4 ⊢
  have st4 : tn 0 s4.heap := T.keep _ _ _ st3 fun b _ o e => by rw [← hs4]; exact pushCells_keeps _ _ _ _ (Heap.get?_push_of_some _ e)
  let Y : Cx := X.blk s3 H3 scope ce fp
  have stat : ∀ {σ' : L2.St} {H' : Hp} {s' : Shared}, Inv Y [] σ' H' s' → (∀ b ∈ fp, H' b = none) → ∀ b ∈ fp, FpOk Y [] H' b := fun {σ' H' s'} I' hn b hb =>
    ⟨hn b hb, (I'.ok.exf b hb).1, I'.ok.exfs b hb, .inl hb, fun x c e => (I'.ok.exf b hb).2 x c e, fun p hp => absurd (show p ∈ ([] : List (Addr × Obj)) ++ [] from hp) (by simp)⟩
  refine codeAny_compStart_list ?loop (T.self X.A 0 _ _ _ st4 ?loop)
  refine compLoop_any (fun n s' => ∃ i H', Inv Y [] (wipe σ (own.map (·.2))) H' s' ∧ tn i s'.heap ∧ (∀ b ∈ fp, H' b = none) ∧ W i n H') ?_ m0 ⟨0, H3, I4, st4, nfp, w0⟩
  rintro n s5 ⟨i, H5, I5, st5, n5, w5⟩
  rcases turn i n H5 w5 with ⟨stop, qq⟩ | ⟨go, Nx, hNx, step⟩
  · refine thnF (T.done Y rfl rfl rfl hc i [] s5 _ H5 (fun _ _ => False) I5 (stat I5 n5) st5 stop) fun r s6 ⟨hr, I6⟩ => ?_
    subst hr
    have I7 : Inv X pins σ H5 s6 := I3.call' (ch := fp) I6.os I6.base I6.hok I6.bare fun b hb => ⟨(f3 b hb).1.2.2.2.1, (f3 b hb).1.2.1, (f3 b hb).1.2.2.2.2.1, (f3 b hb).1.2.2.2.2.2⟩
    have nC : H5 s3.heap.objs.size = none := by
      have z : H5 ce.locals = none := I6.free
      rw [cL] at z
      exact z
    obtain ⟨m, hn, _⟩ := I6.loc
    have hn : s6.heap.Ns ce.locals m := hn
    rw [cL] at hn
    exact fin0 s3.heap.objs.size s6 m H5 I7 qq hn (I3.fpOk (Nat.le_refl _) nC)
  · refine thnF (T.item Y rfl rfl rfl hc i [] s5 _ H5 (fun _ _ => False) I5 (stat I5 n5) st5 go) fun r s6 ⟨u, hr, h6⟩ => ?_
    subst hr
    refine thnF h6 fun _ s7 ⟨x, H7, I7, r7, y7, st7, n7⟩ => ?_
    have I7' := I7.pinned (stat I7 n7) (T.obj _ _ st7)
    refine thnF (pg.run _ s7 _ H7 x u _ I7' r7 (step x H7 y7)) fun _ s8 ⟨σ8, H8, I8, hw8, q8⟩ => ?_
    refine thnF (pt.run _ s8 σ8 H8 _ I8 q8) fun b s9 ⟨H9, I9, q9⟩ => ?_
    have fin : ∀ {s' : Shared} {H' : Hp}, Inv Y ([] ++ pinsAt fp s7.heap) σ8 H' s' → Nx H' → ∃ m, m < n ∧ ∃ i H', Inv Y [] (wipe σ (own.map (·.2))) H' s' ∧ tn i s'.heap ∧ (∀ b ∈ fp, H' b = none) ∧ W i m H' := fun {s' H'} I' nx => by
      obtain ⟨m', hm, w'⟩ := hNx H' nx
      have pin' : ∀ b ∈ fp, ∀ o, s7.heap.get? b = some o → s'.heap.get? b = some o ∧ H' b = none := fun b hb o e =>
        let z := I'.pin (b, o) (List.mem_append_right _ (List.mem_append_right _ (mem_pinsAt hb e)))
        ⟨z.1, z.2.1⟩
      refine ⟨m', hm, i + 1, H', (I'.unpinned (pins := [])).weak (by rw [← hw8, wipe_length]) (fun j v e => ?_), T.keep _ _ _ st7 fun b hb o e => (pin' b hb o e).1, fun b hb => ?_, w'⟩
      · rw [← hw8] at e
        exact (wipe_some e).1
      · obtain ⟨o, e, _⟩ := T.obj _ _ st7 b hb
        exact (pin' b hb o e).2
    cases b with
    | false =>
      simp only [Bool.false_eq_true, if_false] at q9 ⊢
      exact fin I9 q9
    | true =>
      simp only [if_true] at q9 ⊢
      refine thnF (pe.run _ s9 σ8 H9 _ I9 q9) fun z s10 ⟨yv, H10, I10, r10, acc, hD10, hz10, nx⟩ => ?_
      exact app_ok (X := Y) I10 hD10 hz10 r10 fun s11 I11 => fin I11 nx
end
end Sv


set_option maxHeartbeats 4000000
/-! a def that is handed a lambda and calls it -/
namespace Sv
open PySem PySem.Spec PyProof.Rows L2 LamX NdefX

/-- at this state the lambda stands at f, its cells hold ws -/
structure LamAt (P : Program) (w : World) (K : PySem.W.Frag) (mg : Str → Option Value) (base : Heap) (k : Nat) (fs : List Addr) (s : Shared) (H : Hp) (f : Addr) (L : LF) (fr : List Str) (dvs : List V) (ws : List (Option V)) (tl : List (Option V) → XK → Hp → VK → Prop) : Prop where
  fn : H f = some (LamO f L)
  code : H L.c = some (CodeO L.c L.qual)
  dfl : DflAt H L.dV dvs
  ok : LOk P w K mg base k f L fr dvs tl
  cells : CellsAt L.cl fr ws s.heap H
  far : ∀ y c, L.cl.lookup y = some c → c ∉ fs
section
variable {CXg : CXT} {P : Program} {w : World} {K : PySem.W.Frag} {mg : Str → Option Value} {base : Heap} {Ng : List Str} {qg : Str} {sg : Scope} {g : Addr} {cdg : Value} {A : Around} {outer : List Env} {s : Shared} {H : Hp} {Eg : XK}
  {k i : Nat} {a : Str} {pn : List (Addr × Obj)} {xe : Value → Shared → Prop} {W : WX} {E : XK} {f : Addr} {L : LF} {fr : List Str} {dvs : List V} {ws : List (Option V)} {tl : List (Option V) → XK → Hp → VK → Prop} {p1 p2 : Pos}
/-- x() in the def that was handed the lambda -/
theorem pe_actL (LA : LamAt P w K mg base k (frs outer) s H f L fr dvs ws tl) (tk : Takes ((cxOf CXg P w K mg base Ng qg sg g cdg A outer s H Eg).tr pn xe) W)
    (hr : Room k (A.deeper (envOfC qg sg s.heap.objs.size g cdg))) (hN : Ng[i]? = some a) (hv : Vis sg a) (hd : (a == ("__debug__" : Str)) = false := by decide) (hcd : (a == ("__classdict__" : Str)) = false := by decide) :
    PE ((cxOf CXg P w K mg base Ng qg sg g cdg A outer s H Eg).tr pn xe) (.Call (.Name a p1) [] [] p2)
      (fun σZ HZ Q => σZ[i]? = some (some (.ref f)) ∧ HZ f = some (LamO f L) ∧ HZ L.c = some (CodeO L.c L.qual) ∧ DflAt HZ L.dV dvs ∧ ∃ (E' : XK) (Q' : VK), (∀ cls d H', E' cls d H' → W cls d σZ H') ∧ (∀ v H', Q' v H' → Q v H') ∧ tl ws E' HZ Q') := by
  refine ⟨fun pinsZ sZ σZ HZ Q IZ ⟨hs, h1, h2, h3, E', Q', hE, hQ, h4⟩ => ?_⟩
  refine wpAny_Call_Name_kw (thn ((pe_var (pos := p1) hN hv hd hcd).run pinsZ sZ σZ HZ (fun v H1 => v = .ref f ∧ H1 = HZ) IZ ⟨.ref f, hs, rfl, rfl⟩) fun u s1 ⟨v, H1, I1, r1, e1, e2⟩ => ?_)
  subst e1
  subst e2
  obtain rfl : u = Value.ref f := r1
  obtain ⟨od, sl, pm, ctv, ho⟩ := lamO_at I1.hok h1
  refine PySem.W.callWith_F0 ⟨_, _, _, _, ho⟩ ?_
  have C1 : CellsAt L.cl fr ws s1.heap H1 := cells_later (fs := frs outer) (ex := []) LA.cells LA.far (fun y c e z => nomatch z) I1.base
  refine wpAny_call (codeAny_mono (LA.ok.run _ _ s1 H1 ws Q' E' hr I1.env0 h1 h2 h3 C1 h4) fun r s' hq => ?_)
  cases r with
  | error e => exact tk e s' (XE.of_call I1 hE hq)
  | ok fl =>
    cases fl with
    | ret u =>
      obtain ⟨v', H', J, rv, q⟩ := I1.after hq
      exact ⟨v', H', J, rv, hQ _ _ q⟩
    | next => exact False.elim hq
    | brk => exact False.elim hq
    | cont => exact False.elim hq
end
/-- a def of one parameter, its promise told of the very state -/
structure FnSt (P : Program) (w : World) (K : PySem.W.Frag) (mg : Str → Option Value) (base : Heap) (k : Nat) (g : Addr) (Kn : List Addr → Shared → Hp → V → VK → Prop) : Prop where
  run : ∀ (A : Around) (outer : List Env) (s : Shared) (H : Hp) (u : Value) (v : V) (Q : VK), Room k A → Env0 P w K mg base A outer s H → RelV v u → Kn (frs outer) s H v Q → codeAny (model P w) A (.call (.ref g) ⟨[u], []⟩) (CR CX0 outer P w H s Q E0) s
theorem fnst_of {P : Program} {w : World} {K : PySem.W.Frag} {mg : Str → Option Value} {base : Heap} {x : Str} {st : Stmt} {g : Addr} {fd : FuncData} {N : List Str} {a : Str} {k : Nat} {Kn : List Addr → Shared → Hp → V → VK → Prop}
    (F : Fun K x x st g fd) (S : FnScope N [a] (defScope st)) (hb : Binds K fd [a] [])
    (hbody : ∀ (cdv : Value) (A : Around) (outer : List Env) (s : Shared) (H : Hp) (v : V) (Q : VK), Room k (A.deeper (envOfC x (defScope st) s.heap.objs.size g cdv)) → Env0 P w K mg base A outer s H → Kn (frs outer) s H v Q →
      ∃ t, PSs (cxOf CX0 P w K mg base N x (defScope st) g cdv A outer s H E0).nox (defBody st) t ∧ t { nx := fun _ H' => Q .non H', rt := Q } (L2.start N [v]) H) : FnSt P w K mg base (k + 1) g Kn := by
  obtain ⟨oc, od, kV, doc, pm, an, cdv, ct, osl, rfl, lk, hcd⟩ := F.ex
  refine ⟨fun A outer s H u v Q hr e0 r hk => ?_⟩
  refine run_ofS (N := N) (ps := [a]) (us := [u]) (vs := [v]) lk hcd S hr e0 (hb s [u] (e0.mod.kin.keeps fun b o e => (e0.bs b o e).1) rfl) (.cons r .nil) rfl fun hr' => ?_
  obtain ⟨t, ht, hq⟩ := hbody cdv A outer s H v Q hr' e0 hk
  exact ⟨t, ht.nox, hq⟩
section
variable {Y : Cx} {x : Str} {g : Addr} {e : Expr} {te : TE} {k : Nat} {p pos : Pos} {Kn : List Addr → Shared → Hp → V → VK → Prop}
/-- its call -/
theorem pe_callSt (G : FnSt Y.prog Y.w Y.K Y.mg Y.base k g Kn) (hr : Room k Y.A) (hg : Gl Y x) (hm : Y.mg x = some (.ref g)) (hk : PySem.W.keepIn Y.K (.ref g) = true) (he : PE Y e te) (hdb : (x == ("__debug__" : Str)) = false := by decide)
    (hst : starEach [e] Y.env = (false, eval e Y.env) :: starEach [] Y.env := by rfl) : PE Y (.Call (.Name x p) [e] [] pos) (fun σ H Q => te σ H fun v H1 => ∀ pins s, Inv Y pins σ H1 s → Kn (frs Y.stack) s H1 v Q) := by
  refine ⟨fun pins s σ H Q I h => ?_⟩
  refine wpAny_Call_Name_kw (ld_glob I hg hm ?_ hdb)
  refine PySem.W.callWith_K (h₀ := Y.base) I.ok.mod.kin hk (thn ((pa_cons he pa_nil hst).run pos pins s σ H (fun vs H1 => match vs with | [v] => ∀ pins s, Inv Y pins σ H1 s → Kn (frs Y.stack) s H1 v Q | _ => False) I h) fun us s1 ⟨vs, H1, I1, r, q⟩ => ⟨I1.kIn, ?_⟩) hst (by rfl)
  match vs, r, q with
  | [v], r, q =>
    obtain ⟨u, rfl, ru⟩ := Vals.one r
    refine wpAny_call (codeAny_mono (G.run Y.A Y.stack s1 H1 u v Q hr I1.env0 ru (q pins s1 I1)) fun r s' hq => ?_)
    cases r with
    | error e => exact (show False from hq).elim
    | ok fl =>
      cases fl with
      | ret u => exact I1.after hq
      | next => exact False.elim hq
      | brk => exact False.elim hq
      | cont => exact False.elim hq
  | [], _, q => exact q.elim
  | _ :: _ :: _, _, q => exact q.elim
end
end Sv


set_option maxHeartbeats 4000000
/-! a few more rules: enumerate of a tuple, lcm, len(set(tuple)), a count of truth values -/
namespace Sv
open PySem PySem.Spec PyProof.Rows L2
section
open AutoSeq1 (wpAny_loadPart')
theorem enum_newT (l : Addr) (items : Array Value) (n : Nat) (dct : Option Addr) (sl : Array (Option Value)) :
    Meets (Builtin.«enumerate.__new__» ⟨[.type "enumerate", .ref l], []⟩) (fun _ R s => s.heap.get? l = some { cls := .type "tuple", dict := dct, data := .seq items n, slots := sl } ∧
      R (.ok (.ret (.ref (s.heap.push { cls := .type "tuple_iterator", data := .fields #[.ref l, .int 0 0] }).objs.size)))
        { s with heap := (s.heap.push { cls := .type "tuple_iterator", data := .fields #[.ref l, .int 0 0] }).push { cls := .type "enumerate", data := .fields #[.none, .bool false, .ref s.heap.objs.size, rawInt 0, .none, .none] } }) :=
  .of_wp fun prog w A R s h => by
    obtain ⟨hp, g, d, tk, os⟩ := s
    obtain ⟨hl, h⟩ := h
    have hsub := sub_enumerate
    have hL : Heap.IsTuple (Shared.heap ⟨hp, g, d, tk, os⟩) l items := ⟨_, hl, rfl, n, rfl⟩
    wp_walk using wpAny_loadPart' hl
    refine wpAny_stack_any fun st => wpAny_pure ?_
    split
    · rename_i c _ _ _ _ _
      cases (c == Value.type "enumerate")
      · wp_walk using wpAny_loadPart' hl, wpAny_pyIter_tuple hL
        exact ⟨_, rfl, h⟩
      · wp_walk using wpAny_loadPart' hl, wpAny_pyIter_tuple hL
        exact ⟨_, rfl, h⟩
    · wp_walk using wpAny_loadPart' hl, wpAny_pyIter_tuple hL
      exact ⟨_, rfl, h⟩
end
section
variable {prog : Program} {w : World} {A : Around} {E : Value → Shared → Prop} {s : Shared}
theorem call_enumT {l : Addr} {items : Array Value} {Q : Value → Shared → Prop} (hL : s.heap.IsTuple l items)
    (h : ∀ h', IsEnum h' (s.heap.objs.size + 1) s.heap.objs.size 0 .none → h'.IsTupleIter s.heap.objs.size l 0 → h'.objs.size = s.heap.objs.size + 2 → (∀ b o, s.heap.get? b = some o → h'.get? b = some o) → Q (.ref (s.heap.objs.size + 1)) { s with heap := h' }) :
    wpAny (model prog w) A (call (.type "enumerate") [.ref l]) Q E s := by
  obtain ⟨⟨c, dct, dt, sl⟩, hl, hc, n, hd⟩ := hL
  obtain rfl : c = .type "tuple" := hc
  obtain rfl : dt = .seq items n := hd
  refine callType_new F.called_enumerate (by decide) (F.typeCall_enumerate_1 _) (F.newCall_enumerate_1 _) (fun obj => F.args_object_init_2 obj _) F.entry_enumerate_new (enum_newT l items n dct sl) ⟨hl, ?_⟩
  have hz : ∀ o : Obj, (s.heap.push o).objs.size = s.heap.objs.size + 1 := fun o => Heap.size_push ..
  have g2 : ∀ (o1 o2 : Obj), o2.isFreed = false → ((s.heap.push o1).push o2).get? (s.heap.objs.size + 1) = some o2 := fun o1 o2 e => by
    have q := Heap.get?_push_size (s.heap.push o1) (o := o2) e
    rw [hz] at q
    exact q
  show _ ∧ _
  rw [hz]
  refine ⟨⟨_, g2 _ _ rfl, rfl⟩, h _ (g2 _ _ rfl) ⟨_, Heap.get?_push_of_some _ (Heap.get?_push_size _ rfl), rfl, rfl⟩ (by rw [Heap.size_push, hz]) fun b o y => Heap.get?_push_of_some _ (Heap.get?_push_of_some _ y)⟩
end
/-- a tuple's items with their numbers, each in a new pair -/
def IteT (K : PySem.W.Frag) (a : Addr) : It :=
  ⟨fun i H => ∃ (xs : List V) (x : V), SqT K H a xs ∧ xs[i]? = some x, fun i H v H' => ∃ T x, v = .ref T ∧ H T = none ∧ H' = upd H T (.tup [.int (i : Nat), x]) ∧ ∀ xs, SqT K H a xs → xs[i]? = some x,
    fun i H => ∃ xs : List V, SqT K H a xs ∧ i = xs.length⟩
theorem turn_enumT {P : Program} {w : World} {K : PySem.W.Frag} {elts : List Expr} {kk : Nat} {tpos : Pos} (a e it : Addr) (hai : a ≠ it) (hea : e ≠ a) :
    Turn P w K (.Tuple elts kk tpos) (IteT K a) [e, it] e (fun i h => (∃ old, IsEnum h e it ((i : Nat) : Int) old) ∧ h.IsTupleIter it a i ∧ e ≠ it) where
  mem := by simp
  obj := fun i h st b hb => by
    obtain ⟨⟨old, he⟩, ⟨o, ho, hc, hd⟩, _⟩ := st
    rcases (by simpa using hb : b = e ∨ b = it) with z | z
    · subst z
      exact ⟨_, he, fun v q => nomatch q⟩
    · subst z
      exact ⟨o, ho, fun v q => by rw [hd] at q; cases q⟩
  keep := fun i h h' st k => ⟨st.1.elim fun old he => ⟨old, k e (by simp) _ he⟩, st.2.1.at fun o q => k it (by simp) o q, st.2.2⟩
  item := by
    intro X hP hw hK hc i pins s σ H E I hf st hg
    subst hP hw hK
    obtain ⟨⟨old, he⟩, hit, hne⟩ := st
    obtain ⟨xs, x, hq, hx⟩ := hg
    obtain ⟨its, rv, p, hz⟩ := I.tuple hq
    obtain ⟨u, hu, ru⟩ := rv.get hx
    have hi : i < its.toArray.size := by
      obtain ⟨hlt, _⟩ := List.getElem?_eq_some_iff.mp hu
      simpa using hlt
    have hel : e < s.heap.objs.size := Heap.lt_size he
    have hil : it < s.heap.objs.size := by obtain ⟨_, q, _⟩ := hit; exact Heap.lt_size q
    have hh : X.A.in1.handled = none := by
      have := I.ok.hd hc
      simpa using this
    refine wpAny_pyNext_enum_itemD (Draws.tuple hh it a hai its.toArray) he ⟨hit, p⟩ hi hne (by simp; exact ⟨hne, hea⟩) fun y h' tk hy ho hst' hT hsz hk => ?_
    obtain rfl : y = u := by
      have q : its.toArray[i]? = some y := hy
      rw [show its.toArray[i]? = some u by simpa using hu] at q
      exact (Option.some.inj q).symm
    refine ⟨_, rfl, wpAny_letOwnedTupleGo_enum (s := { s with heap := h', toks := tk + 1 }) ho fun h'' he' sb => ?_⟩
    have hT2 : h''.get? s.heap.objs.size = some { cls := .type "tuple", data := .seq #[.int i tk, y] } := (sb.2 _ (Nat.ne_of_gt hel)).trans hT
    have new : ObjOk X.prog X.w (upd H s.heap.objs.size (.tup [.int (i : Nat), x])) h'' s.heap.objs.size (.tup [.int (i : Nat), x]) :=
      ⟨by show 2 ≤ sizeLine; decide, [.int i tk, y], .cons ⟨_, rfl⟩ (.cons ru .nil), ⟨_, hT2, rfl, _, rfl⟩⟩
    have I1 : Inv X pins σ (upd H s.heap.objs.size (.tup [.int (i : Nat), x])) { s with heap := h'', toks := tk + 1 } :=
      I.turnedNew (ch := [e, it]) (fun b ob hb q => (sb.2 b (fun z => hb (by simp [z]))).trans (hk b ob (fun z => hb (by simp [z])) (fun z => hb (by simp [z])) q)) hf (Nat.le_refl _) new
    refine ⟨.ref s.heap.objs.size, _, I1, rfl, ⟨_, x, rfl, I.hok.fresh (Nat.le_refl _), rfl, fun ys hy => by rw [I.tuple_inj hy hq]; exact hx⟩, ⟨⟨y, ?_⟩, hst'.1.at fun o q => (sb.2 it (Ne.symm hne)).trans q, hne⟩, fun b hb => ?_⟩
    · rw [show ((i + 1 : Nat) : Int) = (i : Int) + 1 by omega]
      exact he'
    · have hb' : b < s.heap.objs.size := by
        rcases (by simpa using hb : b = e ∨ b = it) with z | z
        · rw [z]; exact hel
        · rw [z]; exact hil
      rw [upd_ne (Nat.ne_of_lt hb')]
      exact (hf b hb).1
  done := by
    intro X hP hw hK hc i pins s σ H E I hf st hg
    subst hP hw hK
    obtain ⟨⟨old, he⟩, hit, hne⟩ := st
    obtain ⟨xs, hq, hx⟩ := hg
    obtain ⟨its, rv, p, hz⟩ := I.tuple hq
    obtain ⟨f0, f1, f2, f3, f4, f5⟩ := hf it (by simp)
    have hl := rv.length
    have hh : X.A.in1.handled = none := by
      have := I.ok.hd hc
      simpa using this
    refine wpAny_pyNext_enum_endD (Draws.tuple hh it a hai its.toArray) he ⟨?_, p⟩ fun h' eb => ⟨rfl, I.turned (t' := s.toks) (fun b o hb q => eb b o hb q) f0 f1 f3 f4 f5⟩
    rw [List.size_toArray, ← hl, ← hx]
    exact hit
  self := fun A i s Q E st h => let ⟨⟨_, he⟩, _⟩ := st; wpAny_pyIter_enum he h
def iEnumT (K : PySem.W.Frag) (ta : TA) : TI := fun σ H R => ta σ H fun vs H1 => ∃ a xs, vs = [.ref a] ∧ SqT K H1 a xs ∧ R (IteT K a) H1
theorem pi_enumT {X : Cx} {e : Expr} {ta : TA} {p pos tpos : Pos} {elts : List Expr} {kk : Nat} (hg : Gl X "enumerate") (hm : X.mg "enumerate" = none) (ha : PA X [e] ta) (hs : starEach [e] X.env = [(false, eval e X.env)] := by rfl) :
    PI X (.Tuple elts kk tpos) (.Call (.Name "enumerate" p) [e] [] pos) (iEnumT X.K ta) := by
  refine ⟨fun pins s σ H R I h => ?_⟩
  refine Call_ (ld_blt I hg hm boot_enumerate (PyProof.Rows.callWith_type1 (thn (ha.run pos pins s σ H _ I h) fun us s1 ⟨vs, H1, I1, r1, a, xs, ex, hq, q⟩ => ?_) hs rfl))
  subst ex
  obtain rfl := r1.ref1
  obtain ⟨its, rv, p', hz⟩ := I1.tuple hq
  have hal : a < s1.heap.objs.size := (let ⟨_, q, _⟩ := p'; Heap.lt_size q)
  refine call_enumT p' fun h' he hit hsz hk => wpAny_pyIter_enum he ?_
  have I2 : Inv X pins σ H1 { s1 with heap := h' } := I1.kept (t' := s1.toks) hk
  refine ⟨s1.heap.objs.size + 1, [s1.heap.objs.size + 1, s1.heap.objs.size], _, _, H1, rfl, I2, turn_enumT a (s1.heap.objs.size + 1) s1.heap.objs.size (Nat.ne_of_lt hal) (Nat.ne_of_gt (Nat.lt_succ_of_lt hal)), ⟨⟨.none, he⟩, hit, Nat.succ_ne_self _⟩, fun b hb => ?_, q⟩
  have hle : s1.heap.objs.size ≤ b := by
    rcases (by simpa using hb : b = s1.heap.objs.size + 1 ∨ b = s1.heap.objs.size) with z | z
    · rw [z]; exact Nat.le_add_right _ _
    · rw [z]; exact Nat.le_refl _
  exact I1.fpOk hle (I1.hok.fresh hle)
theorem for_enumT {K : PySem.W.Frag} {a : Addr} {xs : List V} {g : TG} {tb : TS} {D : Ends} {σ : L2.St} {H : Hp} (Pv : Nat → L2.St → Hp → Prop) (h0 : Pv 0 σ H) (hl : ∀ i σ H, i ≤ xs.length → Pv i σ H → SqT K H a xs)
    (turn : ∀ i x σ H T, xs[i]? = some x → Pv i σ H → H T = none → g (.ref T) σ (upd H T (.tup [.int (i : Nat), x])) fun σ' H' => tb { nx := fun σ2 H2 => Pv (i + 1) σ2 H2, rt := D.rt, bk := D.nx, ct := fun σ2 H2 => Pv (i + 1) σ2 H2 } σ' H')
    (after : ∀ σ H, Pv xs.length σ H → D.nx σ H) : ∃ W : Nat → Nat → L2.St → Hp → Prop, (∃ m, W 0 m σ H) ∧ ∀ i m σ H, W i m σ H →
      ((IteT K a).stop i H ∧ D.nx σ H) ∨ ((IteT K a).go i H ∧ ∃ Nx : L2.St → Hp → Prop, (∀ σ' H', Nx σ' H' → ∃ m', m' < m ∧ W (i + 1) m' σ' H') ∧ ∀ x H', (IteT K a).yld i H x H' → g x σ H' fun σ2 H2 => tb { nx := Nx, rt := D.rt, bk := D.nx, ct := Nx } σ2 H2) := by
  refine ⟨fun i m σ H => i + m = xs.length ∧ Pv i σ H, ⟨xs.length, Nat.zero_add _, h0⟩, fun i m σ H ⟨em, hP⟩ => ?_⟩
  have hS := hl i σ H (by omega) hP
  by_cases hi : i < xs.length
  · have gx : xs[i]? = some xs[i] := List.getElem?_eq_getElem hi
    refine .inr ⟨⟨xs, _, hS, gx⟩, fun σ' H' => Pv (i + 1) σ' H', fun σ' H' h => ⟨m - 1, by omega, by omega, h⟩, fun x H' hy => ?_⟩
    obtain ⟨T, y, rfl, nT, rfl, hy⟩ := hy
    have ey : y = xs[i] := Option.some.inj ((hy xs hS).symm.trans gx)
    rw [ey]
    exact turn i _ σ H T gx hP nT
  · have e : i = xs.length := by omega
    refine .inl ⟨⟨xs, hS, e⟩, after σ H ?_⟩
    rw [← e]
    exact hP

/-! ### lcm -/
def rLcm : List V → Hp → VK → Prop := fun vs H Q => ∃ a b : Nat, vs = [.int a, .int b] ∧ a < 2 ^ 64 ∧ b < 2 ^ 64 ∧ Q (.int ((Nat.lcm a b : Nat) : Int)) H
theorem cr_lcm {X : Cx} : CallR X (.builtin "math.lcm") rLcm := by
  intro pins s σ H vs us Q I r h
  obtain ⟨a, b, rfl, ha, hb, q⟩ := h
  obtain ⟨t, u, rfl⟩ := Vals.int2 r
  exact PySem.W.mc_lcm (by simpa using ha) (by simpa using hb) fun _ => ⟨.int _, H, I.tok _, ⟨_, rfl⟩, by simpa using q⟩
/-! ### len(set(t)), t a tuple of ints -/
theorem nodup_sub_len : ∀ {l m : List Int}, l.Nodup → (∀ x ∈ l, x ∈ m) → l.length ≤ m.length
  | [], _, _, _ => Nat.zero_le _
  | x :: r, m, nd, h => by
    have hx : x ∈ m := h x (List.mem_cons_self ..)
    have nr := (List.nodup_cons.mp nd)
    have ih := nodup_sub_len (l := r) (m := m.erase x) nr.2 fun y hy => (List.mem_erase_of_ne (fun e => nr.1 (by rw [← e]; exact hy))).mpr (h y (List.mem_cons_of_mem _ hy))
    rw [List.length_erase_of_mem hx] at ih
    have : 0 < m.length := List.length_pos_of_mem hx
    show r.length + 1 ≤ m.length
    omega
theorem nodup_of_len : ∀ {l m : List Int}, m.Nodup → (∀ x ∈ m, x ∈ l) → l.length ≤ m.length → l.Nodup
  | [], _, _, _, _ => List.nodup_nil
  | x :: r, m, nd, h, hl => by
    have hx : x ∉ r := fun hm => by
      have q := nodup_sub_len (l := m) (m := r) nd fun y hy => (List.mem_cons.mp (h y hy)).elim (fun e => by rw [e]; exact hm) id
      simp at hl
      omega
    refine List.nodup_cons.mpr ⟨hx, nodup_of_len (m := m.erase x) (nd.erase x) (fun y hy => ?_) ?_⟩
    · have hm := List.mem_of_mem_erase hy
      rcases List.mem_cons.mp (h y hm) with e | e
      · rw [e] at hy
        exact absurd hy (nd.not_mem_erase)
      · exact e
    · by_cases hm : x ∈ m
      · rw [List.length_erase_of_mem hm]
        simp at hl
        omega
      · rw [List.erase_of_not_mem hm]
        simp at hl
        omega
/-- how many: all of them, just where none stands twice -/
def tLenSetT (K : PySem.W.Frag) (ta : TE) : TE := fun σ H Q => ta σ H fun x H1 => ∃ (l : Addr) (ns : List Int), x = .ref l ∧ SqT K H1 l (ns.map V.int) ∧ ns.length ≤ 4000 ∧ ∀ c : Nat, c ≤ ns.length → (c = ns.length ↔ ns.Nodup) → Q (.int c) H1
theorem pe_lenSetT {X : Cx} {a : Expr} {ta : TE} {p p2 q pos : Pos} (hg : Gl X "len") (hm : X.mg "len" = none) (hg2 : Gl X "set") (hm2 : X.mg "set" = none) (ha : PE X a ta) (hc : X.calm = true := by rfl)
    (na : starEach [a] X.env = (false, eval a X.env) :: starEach [] X.env := by rfl) : PE X (.Call (.Name "len" p) [.Call (.Name "set" p2) [a] [] q] [] pos) (tLenSetT X.K ta) := by
  refine ⟨fun pins s σ H Q I h => Call_ (ld_blt I hg hm boot_len ?_)⟩
  refine PyProof.Rows.callWith_builtin1 (PyProof.Rows.args_cons (Call_ (ld_blt I hg2 hm2 boot_set ?_)) rfl) rfl rfl
  refine PyProof.Rows.callWith_type1 (PyProof.Rows.args_cons (thn (ha.run pins s σ H _ I h) fun v s1 ⟨x, H1, I1, r1, q1⟩ => PyProof.Rows.args_nil ?_) na) na rfl
  obtain ⟨l, ns, rfl, hq, hl, q1⟩ := q1
  cases r1
  obtain ⟨its, r, pl, hz⟩ := I1.tuple hq
  refine call_set_tupI ns (I1.ok.hd hc) pl (by simpa using RZ.intsAre_vals r) (by unfold scanBound; omega) fun h' tk c hS hcl hk => PyProof.Rows.args_nil ?_
  obtain ⟨o, es, ep, t, ho, hex, hd, _, nd, hmem, _, hf, hn, _⟩ := hS
  have I2 : Inv X pins σ H1 { s1 with heap := h', toks := tk } := I1.kept hk
  have hmm : ∀ k, k ∈ es.toList.map keyOf ↔ k ∈ ns := fun k => by rw [← hmem k]; exact decide_eq_true_iff
  have hlen : (es.toList.map keyOf).length = c := by rw [List.length_map, Array.length_toList]; exact hn
  refine call_len_set ho hex hd hf (by rw [hn] <;> omega) ⟨.int c, H1, I2.tok _, ⟨_, by rw [hn]⟩, q1 c hcl ⟨fun e => ?_, fun e => ?_⟩⟩
  · exact nodup_of_len nd (fun x hx => (hmm x).mp hx) (by rw [hlen, e]; exact Nat.le_refl _)
  · have q := nodup_sub_len e fun x hx => (hmm x).mpr hx
    rw [hlen] at q
    omega
/-! ### xs.count(y), y and the items plain -/
theorem count_eqU {x : V} : ∀ {xs : List V} {us : List Value}, Vals xs us → xs.all flatV = true → us.countP (eqU x) = xs.countP fun y => eqV y x
  | _, _, .nil, _ => rfl
  | y :: xs, u :: us, .cons r t, f => by
    rw [List.all_cons, Bool.and_eq_true] at f
    rw [List.countP_cons, List.countP_cons, count_eqU t f.2, eqU_of r f.1]
def rCntV (K : PySem.W.Frag) : V → List V → Hp → VK → Prop := fun x xs H Q => ∃ (p : Addr) (ys : List V) (y : V), x = .ref p ∧ xs = [y] ∧ SqL K H p ys ∧ flatV y = true ∧ ys.all flatV = true ∧ Q (.int (ys.countP fun z => eqV z y : Nat)) H
theorem mt_countV {X : Cx} : MtR X "list.count" (rCntV X.K) := by
  intro pins s σ H x xs v us Q I rx rxs h
  obtain ⟨p, ys, y, rfl, rfl, hs, fy, fys, q⟩ := h
  cases rx
  obtain ⟨u, rfl, ru⟩ := rxs.one
  obtain ⟨its, rv, ⟨⟨cls, dd, data, sl⟩, n, ho, hc, hdn, hd⟩, hlen⟩ := I.list hs
  simp only at hc hd
  subst hc hd
  refine call_meets PySem.F.slot_list_count ⟨_, ho, rfl⟩ PySem.F.entry_list_count (PySem.F.args_list_count_2 _ _)
    (SeqAt.list_countAt p its.toArray n dd sl u (eqU y)) ⟨ho, fun u' hu' => mem_eqAt ru fy rv fys u' (by simpa using hu'), ?_⟩
  refine ⟨.int (ys.countP fun z => eqV z y : Nat), H, I.tok _, ⟨s.toks, ?_⟩, q⟩
  rw [← count_eqU rv fys]
end Sv


set_option maxHeartbeats 4000000
namespace Sv
open PySem PySem.Spec PyProof.Rows L2
def topS (i : Nat) : Stmt := PySem.Challenge.pw_swapshelves_k19_whole_known_plans.main.body.getD i (.Pass ⟨0, 0, 0, 0⟩)
abbrev sInvalidPlan : Stmt := topS 3
abbrev sWithin : Stmt := topS 11
abbrev sCheckCount : Stmt := topS 12
abbrev sCheckTicks : Stmt := topS 13
abbrev sCheckOrdinal : Stmt := topS 14
abbrev sCheckBetween : Stmt := topS 15
abbrev sPattern : Stmt := topS 21
abbrev sCheckPlan : Stmt := topS 22
abbrev sCheckSizes : Stmt := topS 23
abbrev sCheckRoutes : Stmt := topS 24
abbrev sIsRoute : Stmt := topS 25
abbrev sPlacesOf : Stmt := topS 26
abbrev sCheckShelf : Stmt := topS 27
abbrev sCheckCarrier : Stmt := topS 28
abbrev sShelvesOf : Stmt := topS 29
abbrev sNumPlaces : Stmt := topS 30
abbrev sVisitsIn : Stmt := topS 31
abbrev sCommon : Stmt := topS 32
abbrev sRoutePat : Stmt := topS 33
abbrev sJoin : Stmt := topS 35
abbrev sSplit : Stmt := topS 36
abbrev sAfterTick : Stmt := topS 37
abbrev sLap : Stmt := topS 39
abbrev sEffectTicks : Stmt := topS 41
abbrev sInverse : Stmt := topS 42
abbrev sRepeated : Stmt := topS 43
abbrev sOrderOf : Stmt := topS 44
abbrev sCyclesOf : Stmt := topS 45
abbrev sCycleFrom : Stmt := topS 46
abbrev sInitial : Stmt := topS 50
abbrev sMoved : Stmt := topS 51
abbrev sStateOf : Stmt := topS 52
abbrev sParcelsIn : Stmt := topS 53
abbrev sCheckState : Stmt := topS 54
abbrev sFits : Stmt := topS 55
abbrev sTupOf : Stmt := topS 56
abbrev sParcels : Stmt := topS 57
abbrev sCheckParcel : Stmt := topS 58
abbrev sPlaceOfParcel : Stmt := topS 59
abbrev sStartOf : Stmt := topS 60
abbrev sAdvance : Stmt := topS 62
abbrev sLocate : Stmt := topS 63
abbrev sPeriod : Stmt := topS 64
abbrev sStopsJ : Stmt := topS 66
abbrev sLeftsJ : Stmt := topS 67
abbrev sCountIn : Stmt := topS 68
abbrev sTimesLeft : Stmt := topS 70
abbrev sTicksCarried : Stmt := topS 71
abbrev sNthLeft : Stmt := topS 72
abbrev sStampAt : Stmt := topS 73
abbrev sStampsJ : Stmt := topS 74
abbrev sFollowsBy : Stmt := topS 76
abbrev sFamilies : Stmt := topS 77
abbrev sFirstMeeting : Stmt := topS 78
abbrev sMarks : Stmt := topS 79
abbrev sShelvesLap : Stmt := topS 80
abbrev sMarksLap : Stmt := topS 81
abbrev sPairs : Stmt := topS 82
abbrev sMix : Stmt := topS 84
abbrev sNext : Stmt := topS 85
abbrev sAlike : Stmt := topS 86
abbrev sOneRight : Stmt := topS 87
abbrev sQueueRight : Stmt := topS 88
abbrev sRoundRight : Stmt := topS 89
abbrev sLaw : Stmt := topS 90
end Sv



set_option maxHeartbeats 4000000
/-! an exception class of the program whose __init__ begins with super().__init__(..) -/
namespace Sv
open PySem PySem.Spec PyProof.Rows L2 NdefX
section
open PySem.W PySem.Calls
variable {prog : Program} {w : World} {A : Around} {E : Value → Shared → Prop} {h : Heap} {g : Array GenState} {d : Drawn} {t : Nat} {os : OsState}
variable {nm q : Str} {C N : Addr} {bs bm : List Value} {hdct : Bool} {sn : List Str} {sub : List Value} {ab : Bool} {col : Option Bool} {dd : Option Addr} {k0 k1 k2 k3 k5 : Option Value}
/-- the bound ValueError.__init__, called -/
theorem call_mw {u e t0 : Addr} {rest : List Value} {Q : Value → Shared → Prop}
    (hC : h.get? C = some (excClassObj nm q C N bs bm hdct sn sub ab col dd k0 k1 k2 k3 k5 "ValueError.__new__")) (he : h.get? e = some (HandSPX.excO C t0)) (hu : h.get? u = some (kxs_mw "ValueError.__init__" e)) (hrest : rest.length ≤ sizeLine)
    (hq : ∀ h' t1, (∀ b o, b ≠ e → h.get? b = some o → h'.get? b = some o) → h'.get? e = some (HandSPX.excO C t1) → Q .none ⟨h', g, d, t, os⟩) :
    wpAny (model prog w) A (call (.ref u) rest) Q E ⟨h, g, d, t, os⟩ := by
  refine wpAny_call (codeAny_of_tree ?_)
  show wpAny _ A.in1 (callAny (.ref u) ⟨rest, []⟩) _ _ _
  simp only [callAny]
  refine wpAny_bind (wpAny_load hu ?_)
  simp only [kxs_mw, show (Value.type "method-wrapper" == Value.type "method" || Value.type "method-wrapper" == Value.type "builtin_function_or_method" || Value.type "method-wrapper" == Value.type "method-wrapper") = true by decide, if_true]
  refine W.KFB.if_so (by decide) ?_
  refine wpAny_bind (ESX.check_bound F.excBase_ValueError hC he rfl ?_)
  refine wpAny_bind (wpAny_pure (wpAny_pure ?_))
  refine ⟨Code.quiet_builtin _ (by decide +kernel), codeAny_builtin F.excBase_ValueError.initEntry ?_⟩
  rw [Around.under_plainId F.excBase_ValueError.init.plain _]
  wp_walk
  refine hq _ h.objs.size (fun b o hb ho => ?_) ?_
  · rw [Heap.get?_update_other _ _ (Ne.symm hb)]
    exact Heap.get?_push_of_some _ ho
  · rw [Heap.get?_update_self _ (Heap.get?_push_of_some _ he) rfl]
    rfl
end
/-- what is asked of such a class and of its __init__ -/
structure SupF (P : Program) (K : PySem.W.Frag) (mg : Str → Option Value) (C fI cc : Addr) (F : NF) (ar : Arg) : Prop where
  T : OexC K C
  cl : F.cl = [(("__class__" : Str), cc)]
  cell : ∃ cl cld csl, K.lookup cc = some ⟨cl, cld, .cell (some (.ref C)), csl⟩
  code : PySem.W.codeIn K (.ref F.c) F.qual = true
  file : ∃ (ccl : Value) (cdd : Option Addr) (vs : Array Value) (ccs : Array (Option Value)) (fl : Str) (tf : Tok), K.lookup F.c = some ⟨ccl, cdd, .fields vs, ccs⟩ ∧ vs[2]? = some (.str fl tf) ∧ ((P.main.file : Str) == fl) = true
  top : (P.main.scope.names.lookup ("super" : Str)).isSome = false
  sup : mg "super" = none
  ks : F.scope.names.lookup ("super" : Str) = some .globalImplicit
  kc : F.scope.names.lookup ("__class__" : Str) = some .free
  hp : (F.params.posonlyargs ++ F.params.args).head? = some ar
  hs : PySem.W.ks_superIn K C C "__init__" = some (some (.builtin "ValueError.__init__"))
  ho : PySem.W.nsIn K PySem.cStatics "thirdparty.any" = some none
  hB : PySem.W.subIn K (.ref C) (.type "ValueError") = some true
  hm : PySem.W.mroIn K C (.ref C) = some true
section
variable {P : Program} {w : World} {K : PySem.W.Frag} {mg : Str → Option Value} {base : Heap} {C fI cc : Addr} {F : NF} {ar : Arg}
theorem boot_super : bootBuiltins "super" = some (.type "super") := by decide +kernel
/-- super().__init__(e) as a statement -/
theorem sup_stmt {X : Cx} {pins : List (Addr × Obj)} {σ : L2.St} {H : Hp} {s : Shared} {a : Addr} {e : Expr} {te : TE} {p0 p1 p2 p3 p4 : Pos} {body : List Stmt} {Q : Flow → Shared → Prop} (S : SupF X.prog X.K X.mg C fI cc F ar) (I : Inv X pins σ H s)
    (henv : X.env = envF F fI X.env.locals) (hf : ∃ oc od osl doc pm ctv, X.K.lookup fI = some ⟨oc, od, .func (F.fd doc pm ctv), osl⟩) (hi : X.N[0]? = some ar.arg) (hσ : σ[0]? = some (some (.ref a))) (hv : X.env.scope.names.lookup ar.arg = some .local) (ha : H a = some (exo a C none)) (he : PE X e te)
    (hst : starEach [e] X.env = (false, eval e X.env) :: starEach [] X.env)
    (hev : ∃ pl, eval (.Call (.Attribute (.Call (.Name "super" p0) [] [] p1) "__init__" p2) [e] [] p3) X.env = (do
      let ov ← attributeBase (.Call (.Name "super" p0) [] [] p1) "__init__" X.env (eval (.Call (.Name "super" p0) [] [] p1) X.env)
      standAt p2.atName
      let (f, first) ← holding [ov] (getMethod ov "__init__" pl)
      callWith p3 f first (backTo p3 (starEach [e] X.env)) []))
    (hin : interactive X.env = false) (hsw : swapsWith (.Call (.Attribute (.Call (.Name "super" p0) [] [] p1) "__init__" p2) [e] [] p3) none p4.line X.env = pure false)
    {W : VK} (h : te σ H W) (hW : ∀ v H1, W v H1 → H1 a = some (exo a C none) ∧ ∀ s', Inv X pins σ H1 s' → Q .next s') :
    _root_.PySem.wpAt (model X.prog X.w) X.A (.func body X.env) (exec (.Expr (.Call (.Attribute (.Call (.Name "super" p0) [] [] p1) "__init__" p2) [e] [] p3) p4) X.env) Q X.xe s := by
  obtain ⟨pl, hev⟩ := hev
  refine PySem.ks_wpAt_Expr_any ?_ hin hsw
  refine PySem.ks_wpAt_MethodCall (pl := pl) ?_ hev
  have KX : X.K.In s.heap := I.kIn
  obtain ⟨cl, cld, csl, hcell⟩ := S.cell
  obtain ⟨ccl, cdd, vs, ccs, fl, tf, hcode, hvs, hfile⟩ := S.file
  obtain ⟨oc, od, osl, doc, pm, ctv, hfo⟩ := hf
  obtain ⟨nm, q, N, bs, bm, sn, sub, ab, col, dd, k0, k1, k2, k3, k5, hC, hbm⟩ := S.T.cls
  have hcl : PySem.W.clsIn X.K C = some { name := nm, bases := bs, mro := .ref C :: bm, ns := N, qualname := q, hasDict := true, slotNames := sn, subclasses := sub, abstract := ab, collection := col, hasDel := false } := by unfold PySem.W.clsIn; rw [hC] <;> rfl
  have ek : ∀ y, X.env.kindOf y = F.scope.names.lookup y := fun y => by rw [henv]; rfl
  have efn : X.env.func = some fI := by rw [henv]
  have eco : X.env.code = .ref F.c := by rw [henv]
  have ecl : X.env.cells = F.cl := by rw [henv]
  refine PySem.ks_wpAt_super_base (ar := ar) (by rw [ek]; exact S.ks) (by rw [ek]; exact S.kc) (by decide) efn (KX _ _ hfo) rfl S.hp eco (KX _ _ hcode) rfl hvs hfile S.top ?_
  obtain ⟨mb, hb1, hb2⟩ := I.mod.blt
  refine PySem.W.ks_loadName_global I.ok.kind (by rw [ek]; exact S.ks) (Calls.loadGlobal_builtin (by rw [I.ok.glob]; exact I.mod.glob.keeps I.bk) S.sup (by rw [I.ok.blt]; exact hb1.keeps I.bk) ((hb2 _ (by decide +kernel)).trans boot_super) ⟨rfl, ?_⟩)
  refine wpAny_loadName_free I.ok.kind (by rw [ek]; exact S.kc) (c := cc) (by rw [ecl, S.cl]; rfl) ⟨_, KX _ _ hcell, rfl⟩ ?_
  obtain ⟨m, hn, hl⟩ := I.loc
  obtain ⟨ua, rua, la⟩ := hl 0 ar.arg (.ref a) hi hσ (.inl hv)
  obtain rfl : ua = Value.ref a := rua
  have hma : m ar.arg = some (.ref a) := by
    rcases la with ⟨_, z⟩ | ⟨z, _⟩
    · exact z
    · have hv' : X.env.kindOf ar.arg = some .local := hv
      rcases z with z | z <;> rw [hv'] at z <;> cases z
  refine wpAny_loadName_local I.ok.kind hv hn hma ?_
  refine PySem.ks_wpAny_isType_cls (KX _ _ hC) rfl ⟨rfl, ?_⟩
  obtain ⟨t1, hoa⟩ := exo_at I.hok ha
  obtain ⟨hp, g, d, tk, os⟩ := s
  refine PySem.ks_wpAny_call_super (C := C) (KX _ _ hC) rfl hoa rfl (fun c z => nomatch z) (PySem.W.looks_mroIn KX S.hm) (fun h' hso kp => ?_)
  have I1 : Inv X pins σ H ⟨h', g, d, tk, os⟩ := I.kept (t' := tk) kp
  have KX1 := I1.kIn
  have IA : PySem.W.InstAt h' a { cls := .ref C, dict := none, data := .fields #[.ref t1, .none, .none, .none, .bool false, .none] } C none := ⟨kp _ _ hoa, rfl, rfl, trivial⟩
  have hm := S.hs
  unfold PySem.W.ks_superIn at hm
  rw [hcl] at hm
  refine PySem.W.kxs_getMethod PySem.W.kxs_ValueError hso (PySem.W.looks_opaque KX1 S.ho) (l₀ := .ref C :: bm) (fun A Q E s k q => wpAny_bind ((PySem.W.looks_clsIn KX1 hcl) A _ E s k (wpAny_pure q))) rfl KX1 hm (IA.type.andThen (PySem.W.looks_subIn KX1 S.hB)) (PySem.W.ks_ne KX1 IA hcl) (by decide) ?_
  have hmw : (h'.push (PySem.W.kxs_mw "ValueError.__init__" a)).get? h'.objs.size = some (PySem.W.kxs_mw "ValueError.__init__" a) := Heap.get?_push_size _ rfl
  have I2 : Inv X pins σ H ⟨h'.push (PySem.W.kxs_mw "ValueError.__init__" a), g, d, tk + 1, os⟩ := I1.kept (t' := tk + 1) fun b o e => Heap.get?_push_of_some _ e
  generalize hG : h'.push (PySem.W.kxs_mw "ValueError.__init__" a) = G at hmw I2
  have fpo : FpOk X pins H h'.objs.size := I1.fpOk (Nat.le_refl _) (I1.hok.fresh (Nat.le_refl _))
  have I3 := I2.pinned (fp := [h'.objs.size]) (fun b hb => by rw [List.mem_singleton.mp hb]; exact fpo) (fun b hb => by rw [List.mem_singleton.mp hb]; exact ⟨_, hmw, fun v z => nomatch z⟩)
  have hpl : (backTo p3 (starEach [e] X.env)).any (·.1) = false := by rw [hst]; rfl
  refine PySem.W.kxs_callWith (i := "ValueError.__init__") (x := a) hpl ?_
  rw [hst]
  refine PySem.Calls.evalArgs_plain ?_
  show wpAny _ _ (spliced (backTo p3 ((false, eval e X.env) :: starEach [] X.env))) _ _ _
  rw [← hst]
  refine wpAny_mono ((pa_cons he pa_nil hst).run p3 _ _ σ H (fun vs H1 => match vs with | [v] => W v H1 | _ => False) I3 h) (fun us s1 hs => ?_) fun _ _ x => x
  · obtain ⟨vs1, H1, J, rv, hw⟩ := hs
    obtain ⟨v, rfl, ea, hq⟩ : ∃ v, vs1 = [v] ∧ H1 a = some (exo a C none) ∧ ∀ s', Inv X pins σ H1 s' → Q .next s' := by
      match vs1, hw with
      | [v], hw => exact ⟨v, rfl, hW v H1 hw⟩
      | [], hw => exact hw.elim
      | _ :: _ :: _, hw => exact hw.elim
    obtain ⟨u, rfl, ru⟩ := Vals.one rv
    have hpin := (J.pin (h'.objs.size, _) (List.mem_append_right _ (List.mem_append_right _ (mem_pinsAt (List.mem_singleton.mpr rfl) hmw)))).1
    refine ⟨hpin, ?_⟩
    obtain ⟨t2, hoa2⟩ := exo_at J.hok ea
    obtain ⟨hp1, g1, d1, tk1, os1⟩ := s1
    refine call_mw (J.kIn _ _ hC) hoa2 hpin (by show 1 ≤ sizeLine; decide) fun h3 t3 k3 hx => ?_
    have J2 := J.write (t' := tk1) (x := a) (e := a) (o := exo a C none) (by rw [ea]; exact True.intro) (.inl rfl) k3 ⟨_, hx⟩ (exo_ok hx)
    have eu : upd H1 a (exo a C none) = H1 := by
      funext b
      by_cases hb : b = a
      · rw [hb, upd_same, ea]
      · rw [upd_ne hb]
    rw [eu] at J2
    exact hq _ J2.unpinned
/-- THE RULE for such an __init__ -/
theorem fnOk_sup {N ps : List Str} {e : Expr} {rest : List Stmt} {p0 p1 p2 p3 p4 : Pos} {sp : Sp} {k : Nat} {oc : Value} {od : Option Addr} {osl : Array (Option Value)} {doc pm ctv : Value} (S : SupF P K mg C fI cc F ar) (lk : K.lookup fI = some ⟨oc, od, .func (F.fd doc pm ctv), osl⟩)
    (NS : NScope N ps ["__class__"] F.scope) (hN : N[0]? = some ar.arg) (hv : F.scope.names.lookup ar.arg = some .local) (hbd : F.body = .Expr (.Call (.Attribute (.Call (.Name "super" p0) [] [] p1) "__init__" p2) [e] [] p3) p4 :: rest)
    (len : ∀ vs H Q E, sp vs H Q E → vs.length = ps.length)
    (hst : ∀ env, starEach [e] env = (false, eval e env) :: starEach [] env)
    (hev : ∀ L, ∃ pl, eval (.Call (.Attribute (.Call (.Name "super" p0) [] [] p1) "__init__" p2) [e] [] p3) (envF F fI L) = (do
      let ov ← attributeBase (.Call (.Name "super" p0) [] [] p1) "__init__" (envF F fI L) (eval (.Call (.Name "super" p0) [] [] p1) (envF F fI L))
      standAt p2.atName
      let (f, first) ← holding [ov] (getMethod ov "__init__" pl)
      callWith p3 f first (backTo p3 (starEach [e] (envF F fI L))) []))
    (hin : ∀ L, interactive (envF F fI L) = false) (hsw : ∀ L, swapsWith (.Call (.Attribute (.Call (.Name "super" p0) [] [] p1) "__init__" p2) [e] [] p3) none p4.line (envF F fI L) = pure false)
    (hbody : ∀ (A : Around) (outer : List Env) (s : Shared) (H : Hp) (vs : List V) (Q : VK) (E : XK), Room k (A.deeper (envF F fI s.heap.objs.size)) → sp vs H Q E →
      ∃ (a : Addr) (te : TE) (tr : TS), (startF N vs [some (.ref C)])[0]? = some (some (.ref a)) ∧ H a = some (exo a C none) ∧ PE (ncx CX0 P w K mg base N F fI A outer s H E) e te ∧ PSs (ncx CX0 P w K mg base N F fI A outer s H E) rest tr ∧
        te (startF N vs [some (.ref C)]) H fun _ H1 => H1 a = some (exo a C none) ∧ tr { nx := fun _ H' => Q .non H', rt := Q } (startF N vs [some (.ref C)]) H1) :
    FnOk P w K mg base CX0 (k + 1) fI (F.fd doc pm ctv) ps sp := by
  refine ⟨len, fun A outer s H args us vs Q E hr e0 hbi r hsp => ?_⟩
  have KX : K.In s.heap := e0.mod.kin.keeps fun b o e => (e0.bs b o e).1
  have nT : ∀ b o, K.lookup b = some o → H b = none := fun b o e => (e0.bs b o (e0.mod.kin b o e)).2
  have lim : s.heap.NoLimit := e0.mod.nolimit.keeps fun b o e => (e0.bs b o e).1
  obtain ⟨cl, cld, csl, hcell⟩ := S.cell
  have hl := len _ _ _ _ hsp
  have ecl : ∀ y c, F.cl.lookup y = some c → y = "__class__" ∧ c = cc := fun y c e => by
    rw [S.cl] at e
    by_cases h : y = "__class__"
    · subst h
      exact ⟨rfl, (Option.some.inj e).symm⟩
    · have h2 : (y == ("__class__" : Str)) = false := by simpa using h
      simp [List.lookup, h2] at e
  have CA : CellsAt F.cl ["__class__"] [some (.ref C)] s.heap H := by
    refine ⟨rfl, fun y c e => ?_, fun x y c e1 e2 => (ecl x c e1).1.trans (ecl y c e2).1.symm, fun i y e => ?_⟩
    · obtain ⟨rfl, rfl⟩ := ecl y c e
      exact ⟨nT _ _ hcell, _, _, KX _ _ hcell, rfl⟩
    · have hi : i = 0 ∧ y = "__class__" := by
        cases i with
        | zero => exact ⟨rfl, (Option.some.inj e).symm⟩
        | succ n => simp at e
      obtain ⟨rfl, rfl⟩ := hi
      refine ⟨cc, by rw [S.cl]; rfl, fun v ev => ?_⟩
      obtain rfl : V.ref C = v := Option.some.inj (Option.some.inj ev)
      exact ⟨.ref C, rfl, _, KX _ _ hcell, rfl⟩
  refine PySem.ks_codeAny_call_defAt (body := F.body) hr.depth (KX _ _ lk) rfl lim (PySem.W.codeRec_of KX S.code) rfl hbi NS.nocell (fun ⟨n, _⟩ hy => NS.par n (List.of_mem_zip hy).1) (fun h₁ hns kp => ?_) NS.co NS.gen NS.kind
  have I : Inv (ncx CX0 P w K mg base N F fI A outer s H E) [] (startF N vs [some (.ref C)]) H { s with heap := h₁, toks := s.toks + (ps.zip us).length } := inv_startN NS hr.hd e0 (by rw [hl]) r CA hns kp
  obtain ⟨a, te, tr, h0, ha, he, hp, hq⟩ := hbody A outer s H vs Q E (hr.deeper _) hsp
  show _root_.PySem.wpAt _ (A.deeper (envF F fI s.heap.objs.size)) (.func F.body (envF F fI s.heap.objs.size)) (execs F.body (envF F fI s.heap.objs.size)) _ _ _
  rw [hbd]
  refine PySem.ks_wpAt_execs_cons ?_
  refine sup_stmt (X := ncx CX0 P w K mg base N F fI A outer s H E) (te := te) S I rfl ⟨oc, od, osl, doc, pm, ctv, lk⟩ hN h0 hv ha he (hst _) (hev _) (hin _) (hsw _) hq fun v H1 hw => ⟨hw.1, fun s' J => ?_⟩
  refine _root_.PySem.wpAt_of_wpAny (wpAny_mono (hp.run [] s' (startF N vs [some (.ref C)]) H1 _ J hw.2) (fun fl s2 hs => ?_) fun e s2 hs => hs)
  have fin : ∀ {σ' : L2.St} {H' : Hp} {v : V} {u : Value}, Inv (ncx CX0 P w K mg base N F fI A outer s H E) [] σ' H' s2 → L2.RelV v u → Q v H' → CE outer P w H s Q u s2 :=
    fun {σ' H' v u} J rv q => ⟨v, H', J.os, J.bare, J.base, J.hok, rv, q⟩
  cases fl with
  | ret u =>
    obtain ⟨v, σ', H', J, rv, q⟩ := hs
    exact fin J rv q
  | next =>
    obtain ⟨σ', H', J, q⟩ := hs
    exact fin (v := V.non) (u := Value.none) J rfl q
  | brk =>
    obtain ⟨_, _, _, q⟩ := hs
    exact False.elim q
  | cont =>
    obtain ⟨_, _, _, q⟩ := hs
    exact False.elim q
end
end Sv


set_option maxHeartbeats 1000000
/-! effects as lists of numbers: iterates, periods, cycles, repetitions -/
namespace Sv
/-- a list of each number below its length once -/
def Eff (e : List Nat) : Prop := (∀ x ∈ e, x < e.length) ∧ e.Nodup
def ap (e : List Nat) (x : Nat) : Nat := e.getD x 0
def it (e : List Nat) : Nat → Nat → Nat
  | 0, x => x
  | k + 1, x => ap e (it e k x)
theorem ap_at {e : List Nat} {x : Nat} (h : x < e.length) : e[x]? = some (ap e x) := by
  unfold ap
  rw [List.getD_eq_getElem?_getD, List.getElem?_eq_getElem h]
  rfl
theorem ap_lt {e : List Nat} (E : Eff e) {x : Nat} (h : x < e.length) : ap e x < e.length := E.1 _ (List.mem_of_getElem? (ap_at h))
theorem ap_inj {e : List Nat} (E : Eff e) {x y : Nat} (hx : x < e.length) (hy : y < e.length) (q : ap e x = ap e y) : x = y := by
  have h1 := ap_at hx
  have h2 := ap_at hy
  rw [q, ← h2] at h1
  rw [List.getElem?_eq_getElem hx, List.getElem?_eq_getElem hy] at h1
  exact (List.getElem_inj E.2).mp (Option.some.inj h1)
theorem it_lt {e : List Nat} (E : Eff e) : ∀ {k x : Nat}, x < e.length → it e k x < e.length
  | 0, _, h => h
  | k + 1, _, h => ap_lt E (it_lt E h)
theorem it_add (e : List Nat) (a b x : Nat) : it e (a + b) x = it e a (it e b x) := by
  induction a with
  | zero =>
    rw [Nat.zero_add]
    rfl
  | succ a ih =>
    rw [Nat.succ_add]
    show ap e (it e (a + b) x) = ap e (it e a (it e b x))
    rw [ih]
theorem it_inj {e : List Nat} (E : Eff e) : ∀ {k x y : Nat}, x < e.length → y < e.length → it e k x = it e k y → x = y
  | 0, _, _, _, _, q => q
  | k + 1, _, _, hx, hy, q => it_inj (k := k) E hx hy (ap_inj E (it_lt E hx) (it_lt E hy) q)
theorem nat_sub_len : ∀ {l m : List Nat}, l.Nodup → (∀ x ∈ l, x ∈ m) → l.length ≤ m.length
  | [], _, _, _ => Nat.zero_le _
  | x :: r, m, nd, h => by
    have hx : x ∈ m := h x (List.mem_cons_self ..)
    have nr := (List.nodup_cons.mp nd)
    have ih := nat_sub_len (l := r) (m := m.erase x) nr.2 fun y hy => (List.mem_erase_of_ne (fun e => nr.1 (by rw [← e]; exact hy))).mpr (h y (List.mem_cons_of_mem _ hy))
    rw [List.length_erase_of_mem hx] at ih
    have := List.length_pos_of_mem hx
    show r.length + 1 ≤ m.length
    omega
theorem below_len {l : List Nat} {n : Nat} (nd : l.Nodup) (h : ∀ x ∈ l, x < n) : l.length ≤ n := by
  have q := nat_sub_len (m := List.range n) nd fun x hx => List.mem_range.mpr (h x hx)
  rwa [List.length_range] at q
theorem least {P : Nat → Prop} : (∃ k, P k) → ∃ k, P k ∧ ∀ j, j < k → ¬ P j := by
  intro ⟨k, hk⟩
  induction k using Nat.strongRecOn with
  | _ k ih =>
    by_cases h : ∃ j, j < k ∧ P j
    · obtain ⟨j, hj, pj⟩ := h
      exact ih j hj pj
    · exact ⟨k, hk, fun j hj pj => h ⟨j, hj, pj⟩⟩
theorem map_nodup {f : Nat → Nat} {n : Nat} (h : ∀ i j, i < j → j < n → f i ≠ f j) : ((List.range n).map f).Nodup := by
  refine List.pairwise_iff_getElem.mpr fun i j hi hj hij => ?_
  have hi' : i < n := by simpa using hi
  have hj' : j < n := by simpa using hj
  simp only [List.getElem_map, List.getElem_range]
  exact h i j hij hj'
theorem returns {e : List Nat} (E : Eff e) {s : Nat} (hs : s < e.length) : ∃ k, 1 ≤ k ∧ k ≤ e.length ∧ it e k s = s := by
  by_cases h : ∃ i j, i < j ∧ j < e.length + 1 ∧ it e i s = it e j s
  · obtain ⟨i, j, hij, hj, q⟩ := h
    refine ⟨j - i, by omega, by omega, ?_⟩
    have e1 : it e j s = it e i (it e (j - i) s) := by
      rw [← it_add]
      congr 1
      omega
    rw [e1] at q
    exact (it_inj (k := i) E hs (it_lt E hs) q).symm
  · have nd := map_nodup (f := fun k => it e k s) (n := e.length + 1) fun i j hij hj q => h ⟨i, j, hij, hj, q⟩
    have hl := below_len nd (n := e.length) fun x hx => by
      obtain ⟨k, _, rfl⟩ := List.mem_map.mp hx
      exact it_lt E hs
    simp at hl
    omega
/-- the period of a place -/
noncomputable def per (e : List Nat) (s : Nat) : Nat := open Classical in if h : ∃ k, (1 ≤ k ∧ it e k s = s) then Classical.choose (least h) else 1
theorem per_spec {e : List Nat} (E : Eff e) {s : Nat} (hs : s < e.length) : 1 ≤ per e s ∧ it e (per e s) s = s ∧ (∀ j, 1 ≤ j → j < per e s → it e j s ≠ s) ∧ per e s ≤ e.length := by
  obtain ⟨k, h1, h2, h3⟩ := returns E hs
  have h : ∃ k, (1 ≤ k ∧ it e k s = s) := ⟨k, h1, h3⟩
  have q := Classical.choose_spec (least h)
  have ep : per e s = Classical.choose (least h) := by
    unfold per
    rw [dif_pos h]
  rw [ep]
  refine ⟨q.1.1, q.1.2, fun j a b c => q.2 j b ⟨a, c⟩, ?_⟩
  refine Nat.le_trans ?_ h2
  by_cases hk : Classical.choose (least h) ≤ k
  · exact hk
  · exact absurd ⟨h1, h3⟩ (q.2 k (by omega))
theorem per_pos {e : List Nat} (E : Eff e) {s : Nat} (hs : s < e.length) : 0 < per e s := (per_spec E hs).1
theorem it_mul {e : List Nat} {s p : Nat} (h : it e p s = s) : ∀ m : Nat, it e (m * p) s = s
  | 0 => by rw [Nat.zero_mul]; rfl
  | m + 1 => by
    rw [Nat.succ_mul, it_add, h]
    exact it_mul h m
theorem it_mod {e : List Nat} (E : Eff e) {s : Nat} (hs : s < e.length) (k : Nat) : it e k s = it e (k % per e s) s := by
  have h := Nat.div_add_mod k (per e s)
  have e1 : it e k s = it e (k % per e s + (k / per e s) * per e s) s := by
    congr 1
    rw [Nat.mul_comm (k / per e s)]
    omega
  rw [e1, it_add, it_mul (per_spec E hs).2.1]
theorem it_eq_iff {e : List Nat} (E : Eff e) {s : Nat} (hs : s < e.length) (k : Nat) : it e k s = s ↔ per e s ∣ k := by
  constructor
  · intro h
    rw [it_mod E hs] at h
    have hlt := Nat.mod_lt k (per_pos E hs)
    by_cases h0 : k % per e s = 0
    · exact Nat.dvd_of_mod_eq_zero h0
    · exact absurd h ((per_spec E hs).2.2.1 _ (by omega) hlt)
  · intro ⟨m, hm⟩
    rw [hm, Nat.mul_comm]
    exact it_mul (per_spec E hs).2.1 m
theorem per_it {e : List Nat} (E : Eff e) {s : Nat} (hs : s < e.length) (j : Nat) : per e (it e j s) = per e s := by
  have key : ∀ k, it e k (it e j s) = it e j s ↔ it e k s = s := fun k => by
    constructor
    · intro h
      rw [← it_add, Nat.add_comm, it_add] at h
      exact it_inj (k := j) E (it_lt E hs) hs h
    · intro h
      rw [← it_add, Nat.add_comm, it_add, h]
  have h1 := per_spec E hs
  have h2 := per_spec E (it_lt E hs : it e j s < e.length)
  refine Nat.le_antisymm ?_ ?_
  · by_cases h : per e (it e j s) ≤ per e s
    · exact h
    · exact absurd ((key _).mpr h1.2.1) (h2.2.2.1 _ h1.1 (by omega))
  · by_cases h : per e s ≤ per e (it e j s)
    · exact h
    · exact absurd ((key _).mp h2.2.1) (h1.2.2.1 _ h2.1 (by omega))
/-- a place, so many times on (or back) -/
noncomputable def rp (e : List Nat) (c : Int) (p : Nat) : Nat := it e (c % (per e p : Int)).toNat p
theorem rp_lt {e : List Nat} (E : Eff e) {c : Int} {p : Nat} (hp : p < e.length) : rp e c p < e.length := it_lt E hp
theorem per_rp {e : List Nat} (E : Eff e) {c : Int} {p : Nat} (hp : p < e.length) : per e (rp e c p) = per e p := per_it E hp _
theorem rp_nat {e : List Nat} (E : Eff e) (k : Nat) {p : Nat} (hp : p < e.length) : rp e (k : Int) p = it e k p := by
  unfold rp
  rw [it_mod E hp k]
  congr 1
theorem rp_add {e : List Nat} (E : Eff e) (a b : Int) {p : Nat} (hp : p < e.length) : rp e b (rp e a p) = rp e (a + b) p := by
  have hpos : (0 : Int) < (per e p : Int) := by
    have := per_pos E hp
    omega
  unfold rp
  rw [per_it E hp, ← it_add, it_mod E hp]
  congr 1
  have h1 := Int.emod_nonneg a (Int.ne_of_gt hpos)
  have h2 := Int.emod_nonneg b (Int.ne_of_gt hpos)
  have h3 := Int.emod_nonneg (a + b) (Int.ne_of_gt hpos)
  have e1 : (((b % (per e p : Int)).toNat + (a % (per e p : Int)).toNat : Nat) : Int) % (per e p : Int) = (a + b) % (per e p : Int) := by
    rw [Int.natCast_add, Int.toNat_of_nonneg h1, Int.toNat_of_nonneg h2, ← Int.add_emod, Int.add_comm]
  rw [← Int.natCast_emod] at e1
  omega
theorem rp_zero {e : List Nat} (p : Nat) : rp e 0 p = p := by
  unfold rp
  rw [Int.zero_emod]
  rfl
theorem rp_inj {e : List Nat} (E : Eff e) {c : Int} {p q : Nat} (hp : p < e.length) (hq : q < e.length) (h : rp e c p = rp e c q) : p = q := by
  have h1 := congrArg (rp e (-c)) h
  rw [rp_add E _ _ hp, rp_add E _ _ hq] at h1
  have e0 : c + -c = 0 := by omega
  rwa [e0, rp_zero, rp_zero] at h1
/-- the effect, so many times -/
noncomputable def rep (e : List Nat) (c : Int) : List Nat := (List.range e.length).map (rp e c)
theorem rep_len (e : List Nat) (c : Int) : (rep e c).length = e.length := by unfold rep; simp
theorem rep_ap {e : List Nat} {c : Int} {p : Nat} (hp : p < e.length) : ap (rep e c) p = rp e c p := by
  unfold rep ap
  rw [List.getD_eq_getElem?_getD, List.getElem?_map, List.getElem?_range hp]
  rfl
theorem map_eff {n : Nat} {f : Nat → Nat} (h1 : ∀ p, p < n → f p < n) (h2 : ∀ p q, p < n → q < n → f p = f q → p = q) : Eff ((List.range n).map f) := by
  refine ⟨fun x hx => ?_, map_nodup fun i j hij hj q => ?_⟩
  · obtain ⟨p, hp, rfl⟩ := List.mem_map.mp hx
    rw [List.length_map, List.length_range]
    exact h1 p (List.mem_range.mp hp)
  · have := h2 i j (by omega) hj q
    omega
theorem rep_eff {e : List Nat} (E : Eff e) (c : Int) : Eff (rep e c) := map_eff (fun p hp => rp_lt E hp) fun p q hp hq h => rp_inj E hp hq h
/-- two lists of one length are one if they are so at each place -/
theorem ext_ap {a b : List Nat} (hl : a.length = b.length) (h : ∀ p, p < a.length → ap a p = ap b p) : a = b := by
  refine List.ext_getElem? fun i => ?_
  by_cases hi : i < a.length
  · rw [ap_at hi, ap_at (by omega), h i hi]
  · rw [List.getElem?_eq_none (by omega), List.getElem?_eq_none (by omega)]
def comp (a b : List Nat) : List Nat := a.map (ap b)
theorem comp_len (a b : List Nat) : (comp a b).length = a.length := by unfold comp; simp
theorem comp_ap {a b : List Nat} {p : Nat} (hp : p < a.length) : ap (comp a b) p = ap b (ap a p) := by
  unfold comp
  have h : (a.map (ap b))[p]? = some (ap b (ap a p)) := by rw [List.getElem?_map, ap_at hp]; rfl
  rw [ap_at (by simpa using hp)] at h
  exact Option.some.inj h
theorem comp_eff {a b : List Nat} (A : Eff a) (B : Eff b) (hl : a.length = b.length) : Eff (comp a b) := by
  refine ⟨fun x hx => ?_, ?_⟩
  · obtain ⟨y, hy, rfl⟩ := List.mem_map.mp hx
    rw [comp_len, hl]
    exact ap_lt B (by rw [← hl]; exact A.1 y hy)
  · unfold comp
    refine List.pairwise_iff_getElem.mpr fun i j hi hj hij q => ?_
    simp only [List.getElem_map] at q
    simp at hi hj
    have q2 := ap_inj B (by rw [← hl]; exact A.1 _ (List.getElem_mem hi)) (by rw [← hl]; exact A.1 _ (List.getElem_mem hj)) q
    exact absurd ((List.getElem_inj A.2).mp q2) (by omega)
theorem comp_assoc {a b c : List Nat} (A : Eff a) (hl : a.length = b.length) : comp (comp a b) c = comp a (comp b c) := by
  refine ext_ap (by simp [comp_len]) fun p hp => ?_
  rw [comp_len, comp_len] at hp
  rw [comp_ap (by rw [comp_len]; exact hp), comp_ap hp, comp_ap hp, comp_ap (by rw [← hl]; exact ap_lt A hp)]
theorem rep_comp {e : List Nat} (E : Eff e) (a b : Int) : comp (rep e a) (rep e b) = rep e (a + b) := by
  refine ext_ap (by simp [comp_len, rep_len]) fun p hp => ?_
  rw [comp_len, rep_len] at hp
  rw [comp_ap (by rw [rep_len]; exact hp), rep_ap hp, rep_ap (rp_lt E hp), rep_ap hp, rp_add E _ _ hp]
theorem rep_one {e : List Nat} (E : Eff e) : rep e 1 = e := by
  refine ext_ap (rep_len e 1) fun p hp => ?_
  rw [rep_len] at hp
  rw [rep_ap hp]
  exact rp_nat E 1 hp
theorem rep_zero (e : List Nat) : rep e 0 = List.range e.length := by
  unfold rep
  rw [show (List.range e.length).map (rp e 0) = (List.range e.length).map id from List.map_congr_left fun p _ => rp_zero p]
  exact List.map_id _
/-- the inverse, as the program makes it: step by step -/
def invF (e : List Nat) : Nat → List Nat
  | 0 => List.replicate e.length 0
  | k + 1 => (invF e k).set (ap e k) k
theorem invF_len (e : List Nat) : ∀ k, (invF e k).length = e.length
  | 0 => List.length_replicate
  | k + 1 => by
    show ((invF e k).set _ _).length = _
    rw [List.length_set, invF_len e k]
theorem invF_at {e : List Nat} (E : Eff e) : ∀ (k : Nat), k ≤ e.length → ∀ i, i < k → ap (invF e k) (ap e i) = i
  | 0, _, i, hi => by omega
  | k + 1, hk, i, hi => by
    have hlen := invF_len e k
    show ap ((invF e k).set (ap e k) k) (ap e i) = i
    have hik : ap e i < (invF e k).length := by
      rw [hlen]
      exact ap_lt E (by omega)
    by_cases h : i = k
    · subst h
      unfold ap at *
      rw [List.getD_eq_getElem?_getD, List.getElem?_set_self hik]
      rfl
    · have ne : ap e k ≠ ap e i := fun q => h (ap_inj E (by omega) (by omega) q).symm
      have ih := invF_at E k (by omega) i (by omega)
      unfold ap at *
      rw [List.getD_eq_getElem?_getD, List.getElem?_set_ne ne, ← List.getD_eq_getElem?_getD]
      exact ih
def inv (e : List Nat) : List Nat := invF e e.length
theorem inv_len (e : List Nat) : (inv e).length = e.length := invF_len e _
theorem inv_ap {e : List Nat} (E : Eff e) {i : Nat} (hi : i < e.length) : ap (inv e) (ap e i) = i := invF_at E _ (Nat.le_refl _) i hi
/-- the inverse of a repetition -/
theorem inv_rep {e : List Nat} (E : Eff e) (c : Int) : inv (rep e c) = rep e (-c) := by
  refine ext_ap (by rw [inv_len, rep_len, rep_len]) fun q hq => ?_
  rw [inv_len, rep_len] at hq
  have h1 : rp e c (rp e (-c) q) = q := by
    rw [rp_add E _ _ hq, show -c + c = 0 by omega, rp_zero]
  have h2 := inv_ap (rep_eff E c) (i := rp e (-c) q) (by rw [rep_len]; exact rp_lt E hq)
  rw [rep_ap (rp_lt E hq), h1] at h2
  rw [h2, rep_ap hq]
theorem inv_eq {e : List Nat} (E : Eff e) : inv e = rep e (-1) := by
  have h := inv_rep E 1
  rwa [rep_one E] at h
theorem inv_eff {e : List Nat} (E : Eff e) : Eff (inv e) := by
  rw [inv_eq E]
  exact rep_eff E _
theorem inv_inv {e : List Nat} (E : Eff e) : inv (inv e) = e := by
  rw [inv_eq E, inv_rep E, show (- -1 : Int) = 1 by decide, rep_one E]
theorem comp_inv {e : List Nat} (E : Eff e) : comp e (inv e) = List.range e.length := by
  have h := rep_comp E 1 (-1)
  rw [rep_one E, ← inv_eq E, show (1 + -1 : Int) = 0 by decide, rep_zero] at h
  exact h
theorem rep_succ {e : List Nat} (E : Eff e) (k : Nat) : comp (rep e (k : Int)) e = rep e ((k + 1 : Nat) : Int) := by
  have h := rep_comp E (k : Int) 1
  rw [rep_one E] at h
  rw [h]
  rfl
end Sv


set_option maxHeartbeats 1000000
/-! routes and plans, the mathematics alone -/
namespace Sv
open PySem
abbrev Ro := List (Option Int)
/-- the first that p does not hold of -/
def fst {α : Type} (p : α → Bool) : List α → Nat → Option Nat
  | [], _ => none
  | x :: r, i => if p x = true then fst p r (i + 1) else some i
theorem fst_some {α : Type} {p : α → Bool} : ∀ {l : List α} {i k : Nat} {x : α}, (∀ (j : Nat) (y : α), j < i → l[j]? = some y → p y = true) → l[i]? = some x → p x = false → fst p l k = some (i + k)
  | [], i, k, x, _, h, _ => by simp at h
  | y :: l, 0, k, x, _, h, hp => by
    obtain rfl := Option.some.inj h
    unfold fst
    rw [hp]
    simp
  | y :: l, i + 1, k, x, hb, h, hp => by
    unfold fst
    rw [hb 0 y (by omega) rfl, if_pos rfl, fst_some (l := l) (i := i) (k := k + 1) (fun j z hj hz => hb (j + 1) z (by omega) (by simpa using hz)) (by simpa using h) hp]
    congr 1
    omega
theorem fst_none {α : Type} {p : α → Bool} : ∀ {l : List α} {k : Nat}, (∀ (j : Nat) (y : α), l[j]? = some y → p y = true) → fst p l k = none
  | [], _, _ => rfl
  | y :: l, k, h => by
    unfold fst
    rw [h 0 y rfl, if_pos rfl]
    exact fst_none fun j z hz => h (j + 1) z (by simpa using hz)
theorem fst_lt {α : Type} {p : α → Bool} : ∀ {l : List α} {k i : Nat}, fst p l k = some i → i < l.length + k
  | [], _, _, h => by cases h
  | y :: l, k, i, h => by
    unfold fst at h
    split at h
    · have := fst_lt h
      rw [List.length_cons]
      omega
    · cases h
      rw [List.length_cons]
      omega
theorem fst_all {α : Type} {p : α → Bool} : ∀ {l : List α} {k : Nat}, fst p l k = none → ∀ y ∈ l, p y = true
  | [], _, _, y, hy => by simp at hy
  | x :: l, k, h, y, hy => by
    unfold fst at h
    split at h
    · rename_i hx
      rcases List.mem_cons.mp hy with rfl | hy
      · exact hx
      · exact fst_all h y hy
    · cases h
def okZ (z : Int) : Bool := decide (0 ≤ z ∧ z ≤ 9)
def okE (n : Int) : Option Int → Bool
  | none => true
  | some i => decide (0 ≤ i ∧ i ≤ n - 1)
def okR (n : Int) (r : Ro) : Bool := decide (1 ≤ r.length ∧ r.length ≤ 6) && r.all (okE n)
def badS (zs : List Int) : Option Int := if 1 ≤ zs.length ∧ zs.length ≤ 12 then (fst okZ zs 0).map fun (k : Nat) => (k : Int) else some (-1)
def badR (n : Int) (rs : List Ro) : Option Int := if 1 ≤ rs.length ∧ rs.length ≤ 6 then (fst (okR n) rs 0).map fun (k : Nat) => (k : Int) else some (-1)
/-- what is wrong with a plan -/
def bad (zs : List Int) (rs : List Ro) : Option (Str × Int) := match badS zs with
  | some i => some ("sizes", i)
  | none => (badR zs.length rs).map fun i => ("routes", i)
def Small (zs : List Int) (rs : List Ro) : Prop := zs.length ≤ 1000 ∧ rs.length ≤ 1000 ∧ ∀ r ∈ rs, r.length ≤ 1000
/-- the entry of a route at a time -/
def ent (r : Ro) (m : Int) : Option Int := r.getD (m % (r.length : Int)).toNat none
theorem ent_get {r : Ro} (h : r ≠ []) (m : Int) : r[(m % (r.length : Int)).toNat]? = some (ent r m) ∧ m % (r.length : Int) = ((m % (r.length : Int)).toNat : Int) := by
  have hl : 0 < r.length := List.length_pos_iff.mpr h
  have h0 := Int.emod_nonneg m (by omega : (r.length : Int) ≠ 0)
  have h1 := Int.emod_lt_of_pos m (by omega : (0 : Int) < (r.length : Int))
  have e := Int.toNat_of_nonneg h0
  refine ⟨?_, e.symm⟩
  have hlt : (m % (r.length : Int)).toNat < r.length := by omega
  unfold ent
  rw [List.getD_eq_getElem?_getD, List.getElem?_eq_getElem hlt]
  rfl
def rot {α : Type} (r : List α) (s : Nat) : List α := r.drop s ++ r.take s
theorem rot_full {α : Type} (r : List α) : rot r r.length = r := by
  unfold rot
  rw [List.drop_of_length_le (Nat.le_refl _), List.take_of_length_le (Nat.le_refl _), List.nil_append]
theorem leastN {P : Nat → Prop} : (∃ k, P k) → ∃ k, P k ∧ ∀ j, j < k → ¬ P j := by
  rintro ⟨k, hk⟩
  induction k using Nat.strongRecOn with
  | _ k ih =>
    by_cases h : ∃ j, j < k ∧ P j
    · obtain ⟨j, hj, hp⟩ := h
      exact ih j hj hp
    · exact ⟨k, hk, fun j hj hp => h ⟨j, hj, hp⟩⟩
open Classical in
/-- the least number of steps that leaves a list as it is -/
noncomputable def rtp {α : Type} (r : List α) : Nat := if h : ∃ k, 1 ≤ k ∧ rot r k = r then Classical.choose (leastN h) else 0
theorem rtp_spec {α : Type} {r : List α} (h : r ≠ []) : 1 ≤ rtp r ∧ rot r (rtp r) = r ∧ (∀ j, 1 ≤ j → j < rtp r → rot r j ≠ r) ∧ rtp r ≤ r.length := by
  have hl : 1 ≤ r.length := List.length_pos_iff.mpr h
  have ex : ∃ k, 1 ≤ k ∧ rot r k = r := ⟨r.length, hl, rot_full r⟩
  have e : rtp r = Classical.choose (leastN ex) := by
    unfold rtp
    rw [dif_pos ex]
  have sp := Classical.choose_spec (leastN ex)
  rw [← e] at sp
  refine ⟨sp.1.1, sp.1.2, fun j h1 h2 z => sp.2 j h2 ⟨h1, z⟩, ?_⟩
  by_cases hh : rtp r ≤ r.length
  · exact hh
  · exact absurd ⟨hl, rot_full r⟩ (sp.2 r.length (by omega))
structure Good (zs : List Int) (rs : List Ro) : Prop where
  z1 : 1 ≤ zs.length ∧ zs.length ≤ 12
  z2 : ∀ z ∈ zs, 0 ≤ z ∧ z ≤ 9
  r1 : 1 ≤ rs.length ∧ rs.length ≤ 6
  r2 : ∀ r ∈ rs, 1 ≤ r.length ∧ r.length ≤ 6
theorem good_of {zs : List Int} {rs : List Ro} (h : bad zs rs = none) : Good zs rs := by
  unfold bad at h
  cases hb : badS zs with
  | some i => rw [hb] at h; cases h
  | none =>
    rw [hb] at h
    simp only [Option.map_eq_none_iff] at h
    unfold badS at hb
    unfold badR at h
    split at hb
    · split at h
      · rename_i c1 c2
        rw [Option.map_eq_none_iff] at hb h
        refine ⟨c1, fun z hz => of_decide_eq_true (fst_all hb z hz), c2, fun r hr => ?_⟩
        have := fst_all h r hr
        unfold okR at this
        rw [Bool.and_eq_true] at this
        exact of_decide_eq_true this.1
      · cases h
    · cases hb
theorem Good.ne {zs : List Int} {rs : List Ro} (g : Good zs rs) : ∀ r ∈ rs, r ≠ [] ∧ r.length ≤ 1000 := fun r hr => by
  have := g.r2 r hr
  exact ⟨fun z => by rw [z] at this; simp at this, by omega⟩
/-! ### the pattern of all routes -/
noncomputable def lc (rs : List Ro) : Nat := rs.foldl (fun m r => Nat.lcm m (rtp r)) 1
theorem lc_snoc (rs : List Ro) (r : Ro) : lc (rs ++ [r]) = Nat.lcm (lc rs) (rtp r) := by
  unfold lc
  rw [List.foldl_append]
  rfl
theorem dvd60 {k : Nat} (h1 : 1 ≤ k) (h2 : k ≤ 6) : k ∣ 60 := by
  have : k = 1 ∨ k = 2 ∨ k = 3 ∨ k = 4 ∨ k = 5 ∨ k = 6 := by omega
  rcases this with rfl | rfl | rfl | rfl | rfl | rfl <;> decide
theorem rtp_dvd60 {r : Ro} (h : 1 ≤ r.length ∧ r.length ≤ 6) : rtp r ∣ 60 := by
  obtain ⟨a, _, _, d⟩ := rtp_spec (r := r) (fun z => by rw [z] at h; simp at h)
  exact dvd60 a (by omega)
theorem fold_dvd60 : ∀ {rs : List Ro} {m : Nat}, m ∣ 60 → (∀ r ∈ rs, 1 ≤ r.length ∧ r.length ≤ 6) → rs.foldl (fun m r => Nat.lcm m (rtp r)) m ∣ 60
  | [], m, hm, _ => hm
  | r :: rs, m, hm, h => fold_dvd60 (rs := rs) (m := Nat.lcm m (rtp r)) (Nat.lcm_dvd hm (rtp_dvd60 (h r (List.mem_cons_self ..)))) fun x hx => h x (List.mem_cons_of_mem _ hx)
theorem lc_dvd60 {rs : List Ro} (h : ∀ r ∈ rs, 1 ≤ r.length ∧ r.length ≤ 6) : lc rs ∣ 60 := fold_dvd60 (by decide) h
theorem lc_le {rs : List Ro} (h : ∀ r ∈ rs, 1 ≤ r.length ∧ r.length ≤ 6) : 1 ≤ lc rs ∧ lc rs ≤ 60 := by
  have d := lc_dvd60 h
  refine ⟨Nat.pos_of_ne_zero fun z => ?_, Nat.le_of_dvd (by decide) d⟩
  rw [z] at d
  have := Nat.eq_zero_of_zero_dvd d
  omega
theorem fold_ge : ∀ {rs : List Ro} {m d : Nat}, (m ∣ d ∧ ∀ r ∈ rs, rtp r ∣ d) ↔ rs.foldl (fun m r => Nat.lcm m (rtp r)) m ∣ d
  | [], m, d => by simp
  | r :: rs, m, d => by
    rw [List.foldl_cons, ← fold_ge (rs := rs), List.forall_mem_cons]
    constructor
    · rintro ⟨h1, h2, h3⟩
      exact ⟨Nat.lcm_dvd h1 h2, h3⟩
    · rintro ⟨h1, h3⟩
      exact ⟨Nat.dvd_trans (Nat.dvd_lcm_left _ _) h1, Nat.dvd_trans (Nat.dvd_lcm_right _ _) h1, h3⟩
theorem lc_dvd {rs : List Ro} {d : Nat} : lc rs ∣ d ↔ ∀ r ∈ rs, rtp r ∣ d := by
  unfold lc
  rw [← fold_ge]
  exact ⟨fun h => h.2, fun h => ⟨Nat.one_dvd _, h⟩⟩
theorem rotr_at {α : Type} {r : List α} {k j : Nat} (hk : k ≤ r.length) (hj : j < r.length) : (rot r k)[j]? = r[(j + k) % r.length]? := by
  unfold rot
  by_cases h : j < r.length - k
  · rw [List.getElem?_append_left (by rw [List.length_drop]; exact h), List.getElem?_drop, Nat.mod_eq_of_lt (by omega), Nat.add_comm]
  · rw [List.getElem?_append_right (by rw [List.length_drop]; omega), List.length_drop, List.getElem?_take_of_lt (by omega)]
    congr 1
    rw [show j + k = (j - (r.length - k)) + r.length by omega, Nat.add_mod_right, Nat.mod_eq_of_lt (by omega)]
theorem rot_iff {α : Type} {r : List α} {k : Nat} (hk : k ≤ r.length) : rot r k = r ↔ ∀ j, j < r.length → r[(j + k) % r.length]? = r[j]? := by
  refine ⟨fun h j hj => ?_, fun h => List.ext_getElem? fun j => ?_⟩
  · rw [← rotr_at hk hj, h]
  · by_cases hj : j < r.length
    · rw [rotr_at hk hj, h j hj]
    · have : (rot r k).length = r.length := by unfold rot; rw [List.length_append, List.length_drop, List.length_take]; omega
      rw [List.getElem?_eq_none (by omega), List.getElem?_eq_none (by omega)]
def entN (r : Ro) (i : Nat) : Option Int := r.getD (i % r.length) none
theorem ent_nat (r : Ro) (i : Nat) : ent r (i : Int) = entN r i := by
  unfold ent entN
  rw [← Int.natCast_emod, Int.toNat_natCast]
theorem entN_at {r : Ro} (h : r ≠ []) (i : Nat) : r[i % r.length]? = some (entN r i) := by
  have hl : 0 < r.length := List.length_pos_iff.mpr h
  unfold entN
  rw [List.getD_eq_getElem?_getD, List.getElem?_eq_getElem (Nat.mod_lt _ hl)]
  rfl
theorem entN_mod (r : Ro) (i : Nat) : entN r (i % r.length) = entN r i := by
  unfold entN
  rw [Nat.mod_mod]
theorem rotN {r : Ro} {k : Nat} (h : r ≠ []) (hk : k ≤ r.length) : rot r k = r ↔ ∀ i, entN r (i + k) = entN r i := by
  have hl : 0 < r.length := List.length_pos_iff.mpr h
  rw [rot_iff hk]
  refine ⟨fun q i => ?_, fun q j hj => ?_⟩
  · have := q (i % r.length) (Nat.mod_lt _ hl)
    rw [entN_at h] at this
    have e2 : r[i % r.length]? = some (entN r i) := entN_at h i
    rw [e2] at this
    have e3 := Option.some.inj this
    rw [← e3]
    unfold entN
    rw [Nat.mod_add_mod]
  · have := q j
    rw [entN_at h, this]
    have e2 := entN_at h j
    rw [Nat.mod_eq_of_lt hj] at e2
    exact e2.symm
theorem per_dvd {r : Ro} (h : r ≠ []) (L : Nat) : (∀ i, entN r (i + L) = entN r i) ↔ rtp r ∣ L := by
  obtain ⟨p1, p2, p3, p4⟩ := rtp_spec h
  have hp := (rotN h p4).mp p2
  have mul : ∀ q i, entN r (i + rtp r * q) = entN r i := by
    intro q
    induction q with
    | zero => intro i; rw [Nat.mul_zero, Nat.add_zero]
    | succ q ih => intro i; rw [Nat.mul_succ, ← Nat.add_assoc, hp, ih]
  refine ⟨fun q => ?_, fun ⟨c, hc⟩ i => by rw [hc, mul]⟩
  by_cases hs : L % rtp r = 0
  · exact Nat.dvd_of_mod_eq_zero hs
  · exfalso
    have hlt : L % rtp r < rtp r := Nat.mod_lt _ (by omega)
    refine p3 (L % rtp r) (by omega) hlt ((rotN h (by omega)).mpr fun i => ?_)
    have e : i + L = (i + L % rtp r) + rtp r * (L / rtp r) := by
      have := Nat.mod_add_div L (rtp r)
      omega
    rw [← q i, e, mul]
/-- the pairs of a tick -/
def prs (rs : List Ro) (m : Int) : Nat → List (Nat × Int)
  | 0 => []
  | k + 1 => prs rs m k ++ (match rs[k]? with | some r => (match ent r m with | some z => [(k, z)] | none => []) | none => [])
theorem prs_lt (rs : List Ro) (m : Int) : ∀ k, ∀ p ∈ prs rs m k, p.1 < k
  | 0, p, h => by cases h
  | k + 1, p, h => by
    unfold prs at h
    rcases List.mem_append.mp h with h | h
    · have := prs_lt rs m k p h
      omega
    · cases hk : rs[k]? with
      | none => rw [hk] at h; cases h
      | some r =>
        rw [hk] at h
        simp only at h
        cases he : ent r m with
        | none => rw [he] at h; cases h
        | some z =>
          rw [he] at h
          rw [List.mem_singleton.mp h]
          exact Nat.lt_succ_self k
theorem look_none {l : List (Nat × Int)} {k : Nat} (h : ∀ p ∈ l, p.1 < k) : l.lookup k = none := by
  induction l with
  | nil => rfl
  | cons p l ih =>
    have h1 := h p (List.mem_cons_self ..)
    obtain ⟨a, b⟩ := p
    rw [List.lookup_cons, ih fun q hq => h q (List.mem_cons_of_mem _ hq)]
    have : (k == a) = false := by simp only [beq_eq_false_iff_ne]; simp at h1; omega
    rw [this]
theorem prs_look (rs : List Ro) (m : Int) : ∀ K k r, k < K → rs[k]? = some r → (prs rs m K).lookup k = ent r m
  | K + 1, k, r, hk, hr => by
    unfold prs
    rw [List.lookup_append]
    by_cases e : k = K
    · subst e
      rw [look_none (prs_lt rs m k), hr]
      simp only [Option.none_or]
      cases ent r m with
      | none => rfl
      | some z => simp [List.lookup]
    · rw [prs_look rs m K k r (by omega) hr]
      have e2 : (match rs[K]? with | some r => (match ent r m with | some z => [(K, z)] | none => []) | none => [] : List (Nat × Int)).lookup k = none := by
        have hb : (k == K) = false := by simpa using e
        cases rs[K]? with
        | none => rfl
        | some r2 =>
          simp only
          cases ent r2 m with
          | none => rfl
          | some z => simp [List.lookup, hb]
      rw [e2, Option.or_none]
theorem prs_eq {rs : List Ro} {m m' : Int} : ∀ K, (∀ k r, k < K → rs[k]? = some r → ent r m = ent r m') → prs rs m K = prs rs m' K
  | 0, _ => rfl
  | K + 1, h => by
    unfold prs
    rw [prs_eq K fun k r hk hr => h k r (by omega) hr]
    cases hr : rs[K]? with
    | none => rfl
    | some r => simp only [h K r (by omega) hr]
theorem prs_iff {rs : List Ro} {m m' : Int} : prs rs m rs.length = prs rs m' rs.length ↔ ∀ r ∈ rs, ent r m = ent r m' := by
  refine ⟨fun h r hr => ?_, fun h => prs_eq _ fun k r _ hr => h r (List.mem_of_getElem? hr)⟩
  obtain ⟨k, hk, e⟩ := List.getElem_of_mem hr
  have e2 : rs[k]? = some r := by rw [List.getElem?_eq_getElem hk, e]
  rw [← prs_look rs m rs.length k r hk e2, ← prs_look rs m' rs.length k r hk e2, h]
end Sv


set_option maxHeartbeats 1000000
/-! layouts and ticks, the mathematics alone -/
namespace Sv
def sumN (zs : List Int) : Nat := (zs.map Int.toNat).sum
theorem sum_int {zs : List Int} (h : ∀ z ∈ zs, 0 ≤ z) : zs.sum = (sumN zs : Nat) := by
  unfold sumN
  induction zs with
  | nil => rfl
  | cons z zs ih =>
    have h1 := h z (List.mem_cons_self ..)
    have h2 := ih fun x hx => h x (List.mem_cons_of_mem _ hx)
    simp only [List.sum_cons, List.map_cons]
    rw [h2]
    omega
def segs {α : Type} (cs : List α) : Nat → List Int → List (List α)
  | _, [] => []
  | st, z :: zs => (cs.drop st).take z.toNat :: segs cs (st + z.toNat) zs
theorem segs_len {α : Type} (cs : List α) : ∀ (st : Nat) (zs : List Int), (segs cs st zs).length = zs.length
  | _, [] => rfl
  | st, z :: zs => congrArg Nat.succ (segs_len cs _ zs)
theorem segs_flat {α : Type} (cs : List α) : ∀ (st : Nat) (zs : List Int), (segs cs st zs).flatten = (cs.drop st).take (sumN zs)
  | st, [] => by
    show [] = (cs.drop st).take 0
    rw [List.take_zero]
  | st, z :: zs => by
    show (cs.drop st).take z.toNat ++ (segs cs (st + z.toNat) zs).flatten = (cs.drop st).take (sumN (z :: zs))
    rw [segs_flat cs _ zs]
    have e : sumN (z :: zs) = z.toNat + sumN zs := by unfold sumN; rw [List.map_cons, List.sum_cons]
    rw [e, List.take_add, List.drop_drop]
theorem segs_snoc {α : Type} (cs : List α) : ∀ (st : Nat) (zs : List Int) (z : Int), segs cs st (zs ++ [z]) = segs cs st zs ++ [(cs.drop (st + sumN zs)).take z.toNat]
  | st, [], z => by
    show [(cs.drop st).take z.toNat] = _
    rfl
  | st, y :: zs, z => by
    show (cs.drop st).take y.toNat :: segs cs (st + y.toNat) (zs ++ [z]) = _
    rw [segs_snoc cs _ zs z]
    have e : sumN (y :: zs) = y.toNat + sumN zs := by unfold sumN; rw [List.map_cons, List.sum_cons]
    rw [e, ← Nat.add_assoc]
    rfl
theorem sumN_snoc (zs : List Int) (z : Int) : sumN (zs ++ [z]) = sumN zs + z.toNat := by unfold sumN; simp
theorem segs_lens {α : Type} (cs : List α) : ∀ (st : Nat) (zs : List Int), st + sumN zs ≤ cs.length → (segs cs st zs).map List.length = zs.map Int.toNat
  | _, [], _ => rfl
  | st, z :: zs, h => by
    have e : sumN (z :: zs) = z.toNat + sumN zs := by unfold sumN; rw [List.map_cons, List.sum_cons]
    rw [e] at h
    show ((cs.drop st).take z.toNat).length :: (segs cs (st + z.toNat) zs).map List.length = _
    rw [segs_lens cs _ zs (by omega), List.length_take, List.length_drop, List.map_cons]
    congr 1
    omega
/-! ### layouts -/
abbrev Lay (α : Type) := List α × List (List α)
def join {α : Type} (L : Lay α) : List α := L.1 ++ L.2.flatten
def mapL {α β : Type} (f : α → β) (L : Lay α) : Lay β := (L.1.map f, L.2.map (List.map f))
theorem join_map {α β : Type} (f : α → β) (L : Lay α) : join (mapL f L) = (join L).map f := by
  unfold join mapL
  rw [List.map_append, List.map_flatten]
/-- a carrier at a shelf -/
def step1 {α : Type} (L : Lay α) (p : Nat × Nat) : Lay α := match L.1[p.1]?, L.2[p.2]? with
  | some x, some row => (L.1.set p.1 (row.headD x), L.2.set p.2 (row ++ [x]).tail)
  | _, _ => L
def steps {α : Type} (ps : List (Nat × Nat)) (L : Lay α) : Lay α := ps.foldl step1 L
theorem steps_snoc {α : Type} (ps : List (Nat × Nat)) (p : Nat × Nat) (L : Lay α) : steps (ps ++ [p]) L = step1 (steps ps L) p := by
  unfold steps
  rw [List.foldl_append]
  rfl
theorem step1_map {α β : Type} (f : α → β) (L : Lay α) (p : Nat × Nat) : step1 (mapL f L) p = mapL f (step1 L p) := by
  unfold step1 mapL
  simp only [List.getElem?_map]
  cases L.1[p.1]? with
  | none => rfl
  | some x =>
    cases L.2[p.2]? with
    | none => rfl
    | some row =>
      simp only [Option.map_some, List.map_set]
      refine Prod.ext ?_ ?_
      · simp only
        congr 1
        cases row <;> rfl
      · simp only
        congr 1
        rw [List.map_tail, List.map_append]
        rfl
theorem steps_map {α β : Type} (f : α → β) : ∀ (ps : List (Nat × Nat)) (L : Lay α), steps ps (mapL f L) = mapL f (steps ps L)
  | [], _ => rfl
  | p :: ps, L => by
    show steps ps (step1 (mapL f L) p) = mapL f (steps ps (step1 L p))
    rw [step1_map, steps_map f ps]
/-- so many carriers, so much on the shelves -/
def Fits {α : Type} (n : Nat) (zs : List Int) (L : Lay α) : Prop := L.1.length = n ∧ L.2.map List.length = zs.map Int.toNat
theorem step1_fits {α : Type} {n : Nat} {zs : List Int} {L : Lay α} (h : Fits n zs L) (p : Nat × Nat) : Fits n zs (step1 L p) := by
  unfold step1
  cases h1 : L.1[p.1]? with
  | none => exact h
  | some x =>
    cases h2 : L.2[p.2]? with
    | none => exact h
    | some row =>
      refine ⟨by simp only [List.length_set]; exact h.1, ?_⟩
      simp only
      rw [List.map_set, ← h.2]
      have e : ((row ++ [x]).tail).length = row.length := by simp
      rw [e]
      refine List.ext_getElem? fun i => ?_
      by_cases hi : p.2 = i
      · subst hi
        obtain ⟨hlt, hv⟩ := List.getElem?_eq_some_iff.mp h2
        rw [List.getElem?_set_self (by simpa using hlt), List.getElem?_map, h2]
        rfl
      · rw [List.getElem?_set_ne hi]
theorem steps_fits {α : Type} {n : Nat} {zs : List Int} : ∀ (ps : List (Nat × Nat)) {L : Lay α}, Fits n zs L → Fits n zs (steps ps L)
  | [], _, h => h
  | p :: ps, _, h => steps_fits ps (step1_fits h p)
theorem count_set {l : List Nat} {i x y : Nat} (h : l[i]? = some x) (a : Nat) : (l.set i y).count a + (if x = a then 1 else 0) = l.count a + (if y = a then 1 else 0) := by
  induction l generalizing i with
  | nil => cases h
  | cons z l ih =>
    cases i with
    | zero =>
      cases h
      simp only [List.set_cons_zero, List.count_cons, beq_iff_eq]
      omega
    | succ i =>
      have := ih (i := i) (by simpa using h)
      simp only [List.set_cons_succ, List.count_cons]
      omega
theorem count_flat_set {l : List (List Nat)} {i : Nat} {x y : List Nat} (h : l[i]? = some x) (a : Nat) : (l.set i y).flatten.count a + x.count a = l.flatten.count a + y.count a := by
  induction l generalizing i with
  | nil => cases h
  | cons z l ih =>
    cases i with
    | zero =>
      cases h
      simp only [List.set_cons_zero, List.flatten_cons, List.count_append]
      omega
    | succ i =>
      have := ih (i := i) (by simpa using h)
      simp only [List.set_cons_succ, List.flatten_cons, List.count_append]
      omega
theorem step1_perm (L : Lay Nat) (p : Nat × Nat) : (join (step1 L p)).Perm (join L) := by
  unfold step1
  cases h1 : L.1[p.1]? with
  | none => exact .refl _
  | some x =>
    cases h2 : L.2[p.2]? with
    | none => exact .refl _
    | some row =>
      refine List.perm_iff_count.mpr fun a => ?_
      unfold join
      simp only [List.count_append]
      have e1 := count_set (y := row.headD x) h1 a
      have e2 := count_flat_set (y := (row ++ [x]).tail) h2 a
      have e3 : (if row.headD x = a then 1 else 0) + ((row ++ [x]).tail).count a = row.count a + (if x = a then 1 else 0) := by
        cases row with
        | nil => simp
        | cons y row =>
          simp only [List.headD_cons, List.cons_append, List.tail_cons, List.count_append, List.count_cons, List.count_nil]
          by_cases q1 : y = a <;> by_cases q2 : x = a <;> simp [q1, q2] <;> omega
      omega
theorem steps_perm : ∀ (ps : List (Nat × Nat)) (L : Lay Nat), (join (steps ps L)).Perm (join L)
  | [], _ => .refl _
  | p :: ps, L => (steps_perm ps (step1 L p)).trans (step1_perm L p)
/-! ### of a list, and back -/
def spl {α : Type} (n : Nat) (zs : List Int) (cs : List α) : Lay α := (cs.take n, segs cs n zs)
theorem segs_map {α β : Type} (f : α → β) (cs : List α) : ∀ (st : Nat) (zs : List Int), segs (cs.map f) st zs = (segs cs st zs).map (List.map f)
  | _, [] => rfl
  | st, z :: zs => by
    show ((cs.map f).drop st).take z.toNat :: segs (cs.map f) (st + z.toNat) zs = ((cs.drop st).take z.toNat).map f :: (segs cs (st + z.toNat) zs).map (List.map f)
    rw [segs_map f cs, List.map_take, List.map_drop]
theorem spl_map {α β : Type} (f : α → β) (n : Nat) (zs : List Int) (cs : List α) : spl n zs (cs.map f) = mapL f (spl n zs cs) := by
  unfold spl mapL
  rw [segs_map, List.map_take]
theorem join_spl {α : Type} {n : Nat} {zs : List Int} {cs : List α} (h : cs.length = n + sumN zs) : join (spl n zs cs) = cs := by
  unfold join spl
  simp only
  rw [segs_flat, List.take_of_length_le (l := cs.drop n) (by rw [List.length_drop]; omega), List.take_append_drop]
theorem spl_fits {α : Type} {n : Nat} {zs : List Int} {cs : List α} (h : cs.length = n + sumN zs) : Fits n zs (spl n zs cs) := by
  refine ⟨?_, segs_lens cs n zs (by omega)⟩
  show (cs.take n).length = n
  rw [List.length_take]
  omega
theorem flat_len2 {α : Type} : ∀ {ss : List (List α)} {zs : List Int}, ss.map List.length = zs.map Int.toNat → ss.flatten.length = sumN zs
  | [], [], _ => rfl
  | [], _ :: _, h => by cases h
  | _ :: _, [], h => by cases h
  | s :: ss, z :: zs, h => by
    rw [List.map_cons, List.map_cons] at h
    injection h with h1 h2
    rw [List.flatten_cons, List.length_append, flat_len2 h2]
    unfold sumN
    rw [List.map_cons, List.sum_cons]
    omega
theorem join_len {α : Type} {n : Nat} {zs : List Int} {L : Lay α} (h : Fits n zs L) : (join L).length = n + sumN zs := by
  unfold join
  rw [List.length_append, h.1, flat_len2 h.2]
theorem segs_of {α : Type} : ∀ {ss : List (List α)} {zs : List Int} (pre : List α), ss.map List.length = zs.map Int.toNat → segs (pre ++ ss.flatten) pre.length zs = ss
  | [], [], _, _ => rfl
  | [], _ :: _, _, h => by cases h
  | _ :: _, [], _, h => by cases h
  | s :: ss, z :: zs, pre, h => by
    rw [List.map_cons, List.map_cons] at h
    injection h with h1 h2
    show ((pre ++ (s ++ ss.flatten)).drop pre.length).take z.toNat :: segs (pre ++ (s ++ ss.flatten)) (pre.length + z.toNat) zs = s :: ss
    rw [List.drop_left, ← h1, List.take_left]
    have e := segs_of (pre ++ s) h2
    rw [List.length_append, List.append_assoc] at e
    rw [e]
theorem spl_join {α : Type} {n : Nat} {zs : List Int} {L : Lay α} (h : Fits n zs L) : spl n zs (join L) = L := by
  unfold spl join
  obtain ⟨a, b⟩ := L
  obtain ⟨h1, h2⟩ := h
  simp only at h1 h2 ⊢
  rw [← h1, List.take_left, segs_of a h2]
/-- the numbers of the places -/
def idx (n : Nat) (zs : List Int) : Lay Nat := spl n zs (List.range (n + sumN zs))
theorem idx_fits (n : Nat) (zs : List Int) : Fits n zs (idx n zs) := spl_fits (by rw [List.length_range])
theorem join_idx (n : Nat) (zs : List Int) : join (idx n zs) = List.range (n + sumN zs) := join_spl (by rw [List.length_range])
theorem map_getD {α : Type} (d : α) (cs : List α) : (List.range cs.length).map (fun i => cs.getD i d) = cs := by
  refine List.ext_getElem? fun i => ?_
  by_cases h : i < cs.length
  · rw [List.getElem?_map, List.getElem?_range h, Option.map_some, List.getD_eq_getElem?_getD, List.getElem?_eq_getElem h]
    rfl
  · rw [List.getElem?_eq_none (by simp; omega), List.getElem?_eq_none (by omega)]
theorem lay_idx {α : Type} (d : α) {n : Nat} {zs : List Int} {L : Lay α} (h : Fits n zs L) : L = mapL (fun i => (join L).getD i d) (idx n zs) := by
  unfold idx
  rw [← spl_map, ← join_len h, map_getD, spl_join h]
/-! ### ticks -/
/-- the visits of the tick behind the time t -/
def vis (rs : List Ro) (t : Int) : List (Nat × Nat) := (prs rs t rs.length).map fun p => (p.1, p.2.toNat)
def tickL {α : Type} (rs : List Ro) (t : Int) (L : Lay α) : Lay α := steps (vis rs t) L
def run {α : Type} (rs : List Ro) (t : Int) : Nat → Lay α → Lay α
  | 0, L => L
  | k + 1, L => tickL rs (t + (k : Nat)) (run rs t k L)
theorem run_add {α : Type} (rs : List Ro) (t : Int) (a : Nat) : ∀ (b : Nat) (L : Lay α), run rs t (a + b) L = run rs (t + (a : Nat)) b (run rs t a L)
  | 0, _ => rfl
  | b + 1, L => by
    show tickL rs (t + ((a + b : Nat) : Int)) (run rs t (a + b) L) = tickL rs (t + (a : Nat) + (b : Nat)) (run rs (t + (a : Nat)) b (run rs t a L))
    rw [run_add rs t a b L]
    congr 1
    omega
theorem run_map {α β : Type} (f : α → β) (rs : List Ro) (t : Int) : ∀ (k : Nat) (L : Lay α), run rs t k (mapL f L) = mapL f (run rs t k L)
  | 0, _ => rfl
  | k + 1, L => by
    show tickL _ _ (run rs t k (mapL f L)) = mapL f (tickL _ _ (run rs t k L))
    rw [run_map f rs t k L]
    exact steps_map f _ _
theorem run_fits {α : Type} {n : Nat} {zs : List Int} (rs : List Ro) (t : Int) : ∀ (k : Nat) {L : Lay α}, Fits n zs L → Fits n zs (run rs t k L)
  | 0, _, h => h
  | k + 1, _, h => steps_fits _ (run_fits rs t k h)
theorem run_perm (rs : List Ro) (t : Int) : ∀ (k : Nat) (L : Lay Nat), (join (run rs t k L)).Perm (join L)
  | 0, _ => .refl _
  | k + 1, L => (steps_perm _ _).trans (run_perm rs t k L)
/-- from which place what is at each place now has come -/
def org (n : Nat) (zs : List Int) (rs : List Ro) (t : Int) (k : Nat) : List Nat := join (run rs t k (idx n zs))
theorem org_len (n : Nat) (zs : List Int) (rs : List Ro) (t : Int) (k : Nat) : (org n zs rs t k).length = n + sumN zs := join_len (run_fits rs t k (idx_fits n zs))
theorem org_eff (n : Nat) (zs : List Int) (rs : List Ro) (t : Int) (k : Nat) : Eff (org n zs rs t k) := by
  have p : (org n zs rs t k).Perm (List.range (n + sumN zs)) := by
    have := run_perm rs t k (idx n zs)
    rwa [join_idx] at this
  refine ⟨fun x hx => ?_, p.nodup_iff.mpr List.nodup_range⟩
  rw [org_len]
  exact List.mem_range.mp (p.mem_iff.mp hx)
theorem run_org {α : Type} (d : α) {n : Nat} {zs : List Int} {L : Lay α} (h : Fits n zs L) (rs : List Ro) (t : Int) (k : Nat) : join (run rs t k L) = (org n zs rs t k).map fun i => (join L).getD i d := by
  have e := lay_idx d h
  unfold org
  rw [← join_map, ← run_map, ← e]
theorem org_add (n : Nat) (zs : List Int) (rs : List Ro) (t : Int) (a b : Nat) : org n zs rs t (a + b) = comp (org n zs rs (t + (a : Nat)) b) (org n zs rs t a) := by
  show join (run rs t (a + b) (idx n zs)) = _
  rw [run_add, run_org 0 (run_fits rs t a (idx_fits n zs))]
  rfl
theorem org_zero (n : Nat) (zs : List Int) (rs : List Ro) (t : Int) : org n zs rs t 0 = List.range (n + sumN zs) := join_idx n zs
end Sv


set_option maxHeartbeats 1000000
/-! effects of any number of ticks, the mathematics alone -/
namespace Sv
/-! ### the pattern -/
theorem ent_mod (r : Ro) (h : r ≠ []) (m : Int) : ent r m = entN r (m % (r.length : Int)).toNat := by
  have hl : 0 < r.length := List.length_pos_iff.mpr h
  have h0 := Int.emod_nonneg m (by omega : (r.length : Int) ≠ 0)
  have h1 := Int.emod_lt_of_pos m (by omega : (0 : Int) < (r.length : Int))
  unfold ent entN
  rw [Nat.mod_eq_of_lt (by omega)]
theorem ent_add {r : Ro} (h : r ≠ []) {L : Nat} (hd : rtp r ∣ L) (m : Int) : ent r (m + (L : Nat)) = ent r m := by
  have hl : 0 < r.length := List.length_pos_iff.mpr h
  have h0 := Int.emod_nonneg m (by omega : (r.length : Int) ≠ 0)
  have e : ent r (m + (L : Nat)) = ent r (((m % (r.length : Int)).toNat + L : Nat) : Int) := by
    unfold ent
    congr 2
    rw [Int.natCast_add, Int.toNat_of_nonneg h0, Int.emod_add_emod]
  rw [e, ent_nat, (per_dvd h L).mpr hd, ent_mod r h m]
theorem prs_add {rs : List Ro} (h : ∀ r ∈ rs, r ≠ []) {L : Nat} (hd : lc rs ∣ L) (m : Int) : prs rs (m + (L : Nat)) rs.length = prs rs m rs.length :=
  prs_iff.mpr fun r hr => ent_add (h r hr) (lc_dvd.mp hd r hr) m
theorem prs_mod {rs : List Ro} (h : ∀ r ∈ rs, r ≠ []) {m m' : Int} (e : (lc rs : Int) ∣ m - m') : prs rs m rs.length = prs rs m' rs.length := by
  have key : ∀ (m : Int) (q : Nat), prs rs (m + ((lc rs * q : Nat) : Int)) rs.length = prs rs m rs.length := fun m q => prs_add h (Nat.dvd_mul_right _ _) m
  obtain ⟨c, hc⟩ := e
  by_cases h0 : 0 ≤ c
  · obtain ⟨q, rfl⟩ := Int.eq_ofNat_of_zero_le h0
    rw [show m = m' + ((lc rs * q : Nat) : Int) by rw [Int.natCast_mul]; omega]
    exact key _ _
  · obtain ⟨q, hq⟩ := Int.eq_ofNat_of_zero_le (show 0 ≤ -c by omega)
    have e2 : m' = m + ((lc rs * q : Nat) : Int) := by
      rw [Int.natCast_mul, ← hq, Int.mul_neg]
      omega
    rw [e2]
    exact (key _ _).symm
theorem vis_mod {rs : List Ro} (h : ∀ r ∈ rs, r ≠ []) {m m' : Int} (e : (lc rs : Int) ∣ m - m') : vis rs m = vis rs m' := by
  unfold vis
  rw [prs_mod h e]
theorem run_mod {α : Type} {rs : List Ro} (h : ∀ r ∈ rs, r ≠ []) {m m' : Int} (e : (lc rs : Int) ∣ m - m') : ∀ (k : Nat) (L : Lay α), run rs m k L = run rs m' k L
  | 0, _ => rfl
  | k + 1, L => by
    show steps (vis rs (m + (k : Nat))) (run rs m k L) = steps (vis rs (m' + (k : Nat))) (run rs m' k L)
    rw [run_mod h e k L, vis_mod h (m := m + (k : Nat)) (m' := m' + (k : Nat)) (by rwa [show m + (k : Nat) - (m' + (k : Nat)) = m - m' by omega])]
theorem org_mod {n : Nat} {zs : List Int} {rs : List Ro} (h : ∀ r ∈ rs, r ≠ []) {m m' : Int} (e : (lc rs : Int) ∣ m - m') (k : Nat) : org n zs rs m k = org n zs rs m' k := by
  unfold org
  rw [run_mod h e]
/-! ### inverses and conjugates -/
theorem ap_inv {e : List Nat} (E : Eff e) {q : Nat} (hq : q < e.length) : ap e (ap (inv e) q) = q := by
  have := inv_ap (inv_eff E) (i := q) (by rw [inv_len]; exact hq)
  rwa [inv_inv E] at this
theorem inv_comp {a b : List Nat} (A : Eff a) (B : Eff b) (hl : a.length = b.length) : inv (comp a b) = comp (inv b) (inv a) := by
  have C := comp_eff A B hl
  refine ext_ap (by rw [inv_len, comp_len, comp_len, inv_len, hl]) fun q hq => ?_
  rw [inv_len, comp_len] at hq
  rw [comp_ap (by rw [inv_len]; omega)]
  have h1 : ap (inv b) q < b.length := by
    have := ap_lt (inv_eff B) (x := q) (by rw [inv_len]; omega)
    rwa [inv_len] at this
  have h2 : ap (inv a) (ap (inv b) q) < a.length := by
    have := ap_lt (inv_eff A) (x := ap (inv b) q) (by rw [inv_len]; omega)
    rwa [inv_len] at this
  have h3 : ap (comp a b) (ap (inv a) (ap (inv b) q)) = q := by
    rw [comp_ap h2, ap_inv A (by omega), ap_inv B (by omega)]
  have h4 := inv_ap C (i := ap (inv a) (ap (inv b) q)) (by rw [comp_len]; exact h2)
  rwa [h3] at h4
theorem comp_one {e : List Nat} : comp e (List.range e.length) = e → True := fun _ => trivial
theorem range_ap {n p : Nat} (h : p < n) : ap (List.range n) p = p := by
  unfold ap
  rw [List.getD_eq_getElem?_getD, List.getElem?_range h]
  rfl
theorem comp_rg {e : List Nat} (E : Eff e) {n : Nat} (hn : e.length = n) : comp e (List.range n) = e := by
  refine ext_ap (comp_len _ _) fun p hp => ?_
  rw [comp_len] at hp
  rw [comp_ap hp, range_ap (by rw [← hn]; exact ap_lt E hp)]
theorem rg_comp {e : List Nat} {n : Nat} (hn : e.length = n) : comp (List.range n) e = e := by
  refine ext_ap (by rw [comp_len, List.length_range, hn]) fun p hp => ?_
  rw [comp_len, List.length_range] at hp
  rw [comp_ap (by rw [List.length_range]; exact hp), range_ap hp]
theorem inv_range (n : Nat) : inv (List.range n) = List.range n := by
  have R : Eff (List.range n) := ⟨fun x hx => by rw [List.length_range]; exact List.mem_range.mp hx, List.nodup_range⟩
  refine ext_ap (inv_len _) fun p hp => ?_
  rw [inv_len, List.length_range] at hp
  have := inv_ap R (i := p) (by rw [List.length_range]; exact hp)
  rw [range_ap hp] at this
  rw [this, range_ap hp]
section
variable {x v w : List Nat}
theorem conj_it (X : Eff x) (V : Eff v) (hv : x.length = v.length) (hw : x.length = w.length) (c : comp x w = comp v x) : ∀ (k : Nat) {p : Nat}, p < x.length → it w k (ap x p) = ap x (it v k p)
  | 0, _, _ => rfl
  | k + 1, p, hp => by
    show ap w (it w k (ap x p)) = ap x (ap v (it v k p))
    rw [conj_it X V hv hw c k hp]
    have hk : it v k p < x.length := by rw [hv]; exact it_lt V (by omega)
    have this : ap (comp x w) (it v k p) = ap (comp v x) (it v k p) := congrArg (fun e => ap e (it v k p)) c
    rwa [comp_ap hk, comp_ap (by omega)] at this
theorem conj_per (X : Eff x) (V : Eff v) (W : Eff w) (hv : x.length = v.length) (hw : x.length = w.length) (c : comp x w = comp v x) {p : Nat} (hp : p < x.length) : per w (ap x p) = per v p := by
  have hx := ap_lt X hp
  refine Nat.dvd_antisymm ?_ ?_
  · refine (it_eq_iff W (by omega) _).mp ?_
    rw [conj_it X V hv hw c _ hp, (it_eq_iff V (by omega) _).mpr (Nat.dvd_refl _)]
  · refine (it_eq_iff V (by omega) _).mp ?_
    have h1 := (it_eq_iff W (s := ap x p) (by omega) _).mpr (Nat.dvd_refl _)
    rw [conj_it X V hv hw c _ hp] at h1
    exact ap_inj X (by rw [hv]; exact it_lt V (by omega)) hp h1
theorem conj_rep (X : Eff x) (V : Eff v) (W : Eff w) (hv : x.length = v.length) (hw : x.length = w.length) (c : comp x w = comp v x) (q : Int) : comp x (rep w q) = comp (rep v q) x := by
  refine ext_ap (by rw [comp_len, comp_len, rep_len, hv]) fun p hp => ?_
  rw [comp_len] at hp
  have hx := ap_lt X hp
  rw [comp_ap hp, rep_ap (by omega), comp_ap (by rw [rep_len]; omega), rep_ap (by omega)]
  unfold rp
  rw [conj_per X V W hv hw c hp, conj_it X V hv hw c _ hp]
end
/-! ### effects of ticks -/
section
variable (n : Nat) (zs : List Int) (rs : List Ro)
/-- so many ticks on -/
def fwd (t : Int) (k : Nat) : List Nat := inv (org n zs rs t k)
theorem fwd_len (t : Int) (k : Nat) : (fwd n zs rs t k).length = n + sumN zs := (inv_len _).trans (org_len ..)
theorem fwd_eff (t : Int) (k : Nat) : Eff (fwd n zs rs t k) := inv_eff (org_eff ..)
theorem fwd_add (t : Int) (a b : Nat) : fwd n zs rs t (a + b) = comp (fwd n zs rs t a) (fwd n zs rs (t + (a : Nat)) b) := by
  unfold fwd
  rw [org_add, inv_comp (org_eff ..) (org_eff ..) (by rw [org_len, org_len])]
theorem fwd_zero (t : Int) : fwd n zs rs t 0 = List.range (n + sumN zs) := by
  unfold fwd
  rw [org_zero, inv_range]
variable {rs}
theorem fwd_mod (h : ∀ r ∈ rs, r ≠ []) {m m' : Int} (e : (lc rs : Int) ∣ m - m') (k : Nat) : fwd n zs rs m k = fwd n zs rs m' k := by
  unfold fwd
  rw [org_mod h e]
variable (rs)
/-- a pattern -/
noncomputable def wh (t : Int) : List Nat := fwd n zs rs t (lc rs)
theorem wh_len (t : Int) : (wh n zs rs t).length = n + sumN zs := fwd_len ..
theorem wh_eff (t : Int) : Eff (wh n zs rs t) := fwd_eff ..
/-- any number of ticks, on or back -/
noncomputable def effT (t c : Int) : List Nat := comp (rep (wh n zs rs t) (c / (lc rs : Int))) (fwd n zs rs t (c % (lc rs : Int)).toNat)
theorem effT_len (t c : Int) : (effT n zs rs t c).length = n + sumN zs := by
  unfold effT
  rw [comp_len, rep_len, wh_len]
theorem effT_eff (t c : Int) : Eff (effT n zs rs t c) := comp_eff (rep_eff (wh_eff ..) _) (fwd_eff ..) (by rw [rep_len, wh_len, fwd_len])
variable {rs}
variable (h : ∀ r ∈ rs, r ≠ []) (hp : 1 ≤ lc rs)
include h
theorem wh_mod {m m' : Int} (e : (lc rs : Int) ∣ m - m') : wh n zs rs m = wh n zs rs m' := fwd_mod n zs h e _
theorem fwd_wh (t : Int) (a : Nat) : comp (fwd n zs rs t a) (wh n zs rs (t + (a : Nat))) = comp (wh n zs rs t) (fwd n zs rs t a) := by
  have e1 := fwd_add n zs rs t a (lc rs)
  have e2 := fwd_add n zs rs t (lc rs) a
  rw [Nat.add_comm, e2, fwd_mod n zs h (m := t + (lc rs : Nat)) (m' := t) ⟨1, by omega⟩] at e1
  exact e1.symm
theorem fwd_rep (t : Int) (a : Nat) (q : Int) : comp (fwd n zs rs t a) (rep (wh n zs rs (t + (a : Nat))) q) = comp (rep (wh n zs rs t) q) (fwd n zs rs t a) :=
  conj_rep (fwd_eff ..) (wh_eff ..) (wh_eff ..) (by rw [fwd_len, wh_len]) (by rw [fwd_len, wh_len]) (fwd_wh n zs h t a) q
theorem fwd_mul (t : Int) : ∀ q : Nat, fwd n zs rs t (q * lc rs) = rep (wh n zs rs t) (q : Nat)
  | 0 => by rw [Nat.zero_mul, fwd_zero, show ((0 : Nat) : Int) = 0 from rfl, rep_zero, wh_len]
  | q + 1 => by
    rw [Nat.succ_mul, fwd_add, fwd_mul t q, ← rep_succ (wh_eff ..)]
    congr 1
    exact fwd_mod n zs h ⟨q, by rw [Int.natCast_mul, Int.mul_comm]; omega⟩ _
include hp
theorem effT_key (t q : Int) (r : Nat) : comp (rep (wh n zs rs t) q) (fwd n zs rs t r) = effT n zs rs t (q * (lc rs : Int) + (r : Nat)) := by
  have hP : (0 : Int) < (lc rs : Int) := by omega
  have e0 := Nat.div_add_mod r (lc rs)
  have e1 : fwd n zs rs t r = comp (rep (wh n zs rs t) ((r / lc rs : Nat) : Int)) (fwd n zs rs t (r % lc rs)) := by
    have := fwd_add n zs rs t (r / lc rs * lc rs) (r % lc rs)
    rw [Nat.mul_comm, e0, Nat.mul_comm, fwd_mul n zs h] at this
    rw [this]
    congr 1
    exact fwd_mod n zs h ⟨((r / lc rs : Nat) : Int), by rw [Int.natCast_mul, Int.mul_comm]; omega⟩ _
  rw [e1, ← comp_assoc (rep_eff (wh_eff ..) _) (by rw [rep_len, rep_len]), rep_comp (wh_eff ..)]
  unfold effT
  have e2 : q * (lc rs : Int) + (r : Nat) = (q + ((r / lc rs : Nat) : Int)) * (lc rs : Int) + ((r % lc rs : Nat) : Int) := by
    have : (r : Int) = (lc rs : Int) * ((r / lc rs : Nat) : Int) + ((r % lc rs : Nat) : Int) := by
      rw [← Int.natCast_mul]
      omega
    rw [this, Int.add_mul, Int.mul_comm (lc rs : Int)]
    omega
  have hlt : ((r % lc rs : Nat) : Int) < (lc rs : Int) := by
    have := Nat.mod_lt r (show 0 < lc rs by omega)
    omega
  have e3 : (q * (lc rs : Int) + (r : Nat)) / (lc rs : Int) = q + ((r / lc rs : Nat) : Int) := by
    rw [e2, Int.add_comm, Int.add_mul_ediv_right _ _ (by omega), Int.ediv_eq_zero_of_lt (by omega) hlt, Int.zero_add]
  have e4 : (q * (lc rs : Int) + (r : Nat)) % (lc rs : Int) = ((r % lc rs : Nat) : Int) := by
    rw [e2, Int.add_comm, Int.add_mul_emod_self_right, Int.emod_eq_of_lt (by omega) hlt]
  rw [e3, e4, Int.toNat_natCast]
theorem effT_nat (t : Int) (k : Nat) : effT n zs rs t (k : Nat) = fwd n zs rs t k := by
  have := effT_key n zs h hp t 0 k
  rw [rep_zero, wh_len, rg_comp (fwd_len ..)] at this
  rw [this]
  congr 1
  omega
theorem effT_zero (t : Int) : effT n zs rs t 0 = List.range (n + sumN zs) := by
  have := effT_nat n zs h hp t 0
  rw [fwd_zero] at this
  exact this
theorem effT_mod {m m' : Int} (e : (lc rs : Int) ∣ m - m') (c : Int) : effT n zs rs m c = effT n zs rs m' c := by
  unfold effT
  rw [wh_mod n zs h e, fwd_mod n zs h e]
theorem effT_add (t a b : Int) : effT n zs rs t (a + b) = comp (effT n zs rs t a) (effT n zs rs (t + a) b) := by
  have hP : (0 : Int) < (lc rs : Int) := by omega
  have hra := Int.emod_nonneg a (Int.ne_of_gt hP)
  have hrb := Int.emod_nonneg b (Int.ne_of_gt hP)
  have ea := Int.mul_ediv_add_emod a (lc rs : Int)
  have eb := Int.mul_ediv_add_emod b (lc rs : Int)
  have e1 : effT n zs rs (t + a) b = effT n zs rs (t + ((a % (lc rs : Int)).toNat : Nat)) b := effT_mod n zs h hp ⟨a / (lc rs : Int), by rw [Int.toNat_of_nonneg hra]; omega⟩ b
  rw [e1]
  have hl : ∀ (s s' : Int) (k : Nat) (q : Int), (rep (wh n zs rs s) q).length = (fwd n zs rs s' k).length := fun s s' k q => by rw [rep_len, wh_len, fwd_len]
  show _ = comp (comp (rep (wh n zs rs t) (a / (lc rs : Int))) (fwd n zs rs t (a % (lc rs : Int)).toNat)) (comp (rep (wh n zs rs (t + ((a % (lc rs : Int)).toNat : Nat))) (b / (lc rs : Int))) (fwd n zs rs (t + ((a % (lc rs : Int)).toNat : Nat)) (b % (lc rs : Int)).toNat))
  rw [comp_assoc (rep_eff (wh_eff ..) _) (hl _ _ _ _), ← comp_assoc (a := fwd n zs rs t (a % (lc rs : Int)).toNat) (fwd_eff ..) (hl _ _ _ _).symm, fwd_rep n zs h,
    comp_assoc (a := rep (wh n zs rs t) (b / (lc rs : Int))) (rep_eff (wh_eff ..) _) (hl _ _ _ _), ← fwd_add, ← comp_assoc (rep_eff (wh_eff ..) _) (by rw [rep_len, rep_len]), rep_comp (wh_eff ..), effT_key n zs h hp]
  congr 1
  rw [Int.natCast_add, Int.toNat_of_nonneg hra, Int.toNat_of_nonneg hrb, Int.add_mul, Int.mul_comm _ (lc rs : Int), Int.mul_comm _ (lc rs : Int)]
  omega
theorem effT_neg (t c : Int) : effT n zs rs (t + c) (-c) = inv (effT n zs rs t c) := by
  have e := effT_add n zs h hp t c (-c)
  rw [show c + -c = 0 by omega, effT_zero n zs h hp] at e
  refine ext_ap (by rw [effT_len, inv_len, effT_len]) fun q hq => ?_
  rw [effT_len] at hq
  have E := effT_eff n zs rs t c
  have hl := effT_len n zs rs t c
  have h1 : ap (inv (effT n zs rs t c)) q < n + sumN zs := by
    have := ap_lt (inv_eff E) (x := q) (by rw [inv_len, hl]; exact hq)
    rwa [inv_len, hl] at this
  have h2 : ap (List.range (n + sumN zs)) (ap (inv (effT n zs rs t c)) q) = ap (comp (effT n zs rs t c) (effT n zs rs (t + c) (-c))) (ap (inv (effT n zs rs t c)) q) := congrArg (fun l => ap l (ap (inv (effT n zs rs t c)) q)) e
  rw [range_ap h1, comp_ap (by rw [hl]; exact h1), ap_inv E (by rw [hl]; exact hq)] at h2
  exact h2.symm
end
end Sv


set_option maxHeartbeats 1000000
/-! the cycles, one after another; the order -/
namespace Sv
noncomputable def cyc (e : List Nat) (s : Nat) : List Nat := (List.range (per e s)).map fun k => it e k s
theorem cyc_len (e : List Nat) (s : Nat) : (cyc e s).length = per e s := by unfold cyc; simp
theorem cyc_at {e : List Nat} {s j : Nat} (h : j < per e s) : (cyc e s)[j]? = some (it e j s) := by
  unfold cyc
  rw [List.getElem?_map, List.getElem?_range h]
  rfl
theorem cyc_mem {e : List Nat} (E : Eff e) {s : Nat} (hs : s < e.length) {p : Nat} : p ∈ cyc e s ↔ ∃ k, p = it e k s := by
  unfold cyc
  rw [List.mem_map]
  constructor
  · rintro ⟨k, _, rfl⟩
    exact ⟨k, rfl⟩
  · rintro ⟨k, rfl⟩
    exact ⟨k % per e s, List.mem_range.mpr (Nat.mod_lt _ (per_pos E hs)), (it_mod E hs k).symm⟩
theorem cyc_nodup {e : List Nat} (E : Eff e) {s : Nat} (hs : s < e.length) : (cyc e s).Nodup := map_nodup fun i j hij hj q => by
  have e1 : it e j s = it e i (it e (j - i) s) := by
    rw [← it_add]
    congr 1
    omega
  rw [e1] at q
  have q2 := (it_inj (k := i) E hs (it_lt E hs) q).symm
  exact (per_spec E hs).2.2.1 (j - i) (by omega) (by omega) q2
open Classical in
noncomputable def whN (e : List Nat) : Nat → List (List Nat)
  | 0 => []
  | k + 1 => if k ∈ (whN e k).flatten then whN e k else whN e k ++ [cyc e k]
noncomputable def wheels (e : List Nat) : List (List Nat) := whN e e.length
structure Wh (e : List Nat) (cs : List (List Nat)) : Prop where
  cy : ∀ c ∈ cs, ∃ s, s < e.length ∧ c = cyc e s
  nd : cs.flatten.Nodup
theorem Wh.lt {e : List Nat} (E : Eff e) {cs : List (List Nat)} (W : Wh e cs) {p : Nat} (h : p ∈ cs.flatten) : p < e.length := by
  obtain ⟨c, hc, hp⟩ := List.mem_flatten.mp h
  obtain ⟨s, hs, rfl⟩ := W.cy c hc
  obtain ⟨k, rfl⟩ := (cyc_mem E hs).mp hp
  exact it_lt E hs
theorem Wh.closed {e : List Nat} (E : Eff e) {cs : List (List Nat)} (W : Wh e cs) {p j : Nat} (hp : p < e.length) (h : it e j p ∈ cs.flatten) : p ∈ cs.flatten := by
  obtain ⟨c, hc, hm⟩ := List.mem_flatten.mp h
  obtain ⟨s, hs, rfl⟩ := W.cy c hc
  obtain ⟨k, hk⟩ := (cyc_mem E hs).mp hm
  refine List.mem_flatten.mpr ⟨_, hc, (cyc_mem E hs).mpr ⟨(per e p - j % per e p) + k, ?_⟩⟩
  have hpos := per_pos E hp
  have hlt := Nat.mod_lt j hpos
  rw [it_add, ← hk, it_mod E hp j, ← it_add]
  rw [show per e p - j % per e p + j % per e p = per e p by omega]
  exact (per_spec E hp).2.1.symm
theorem whN_ok {e : List Nat} (E : Eff e) : ∀ k, k ≤ e.length → Wh e (whN e k) ∧ ∀ p, p < k → p ∈ (whN e k).flatten
  | 0, _ => ⟨⟨fun c h => (by cases h), List.nodup_nil⟩, fun p h => by omega⟩
  | k + 1, hk => by
    obtain ⟨W, hc⟩ := whN_ok E k (by omega)
    unfold whN
    by_cases h : k ∈ (whN e k).flatten
    · rw [if_pos h]
      refine ⟨W, fun p hp => ?_⟩
      by_cases hpk : p = k
      · rw [hpk]; exact h
      · exact hc p (by omega)
    · rw [if_neg h]
      refine ⟨⟨fun c hm => ?_, ?_⟩, fun p hp => ?_⟩
      · rcases List.mem_append.mp hm with hm | hm
        · exact W.cy c hm
        · exact ⟨k, by omega, by simpa using hm⟩
      · rw [List.flatten_append, List.flatten_singleton]
        refine List.nodup_append.mpr ⟨W.nd, cyc_nodup E (by omega), fun a ha b hb q => ?_⟩
        subst q
        obtain ⟨j, hj⟩ := (cyc_mem E (by omega)).mp hb
        rw [hj] at ha
        exact h (W.closed E (by omega) ha)
      · rw [List.flatten_append, List.flatten_singleton]
        by_cases hpk : p = k
        · rw [hpk]
          exact List.mem_append_right _ ((cyc_mem E (by omega)).mpr ⟨0, rfl⟩)
        · exact List.mem_append_left _ (hc p (by omega))
theorem wheels_ok {e : List Nat} (E : Eff e) : Wh e (wheels e) ∧ ∀ p, p < e.length → p ∈ (wheels e).flatten := whN_ok E _ (Nat.le_refl _)
theorem Wh.flat_len {e : List Nat} (E : Eff e) {cs : List (List Nat)} (W : Wh e cs) : cs.flatten.length ≤ e.length := below_len W.nd fun x hx => W.lt E hx
theorem Wh.len {e : List Nat} (E : Eff e) {cs : List (List Nat)} (W : Wh e cs) : cs.length ≤ e.length := by
  have h : ∀ cs : List (List Nat), (∀ c ∈ cs, 1 ≤ c.length) → cs.length ≤ cs.flatten.length := by
    intro cs
    induction cs with
    | nil => intro _; exact Nat.le_refl _
    | cons c r ih =>
      intro h
      have h1 := h c (List.mem_cons_self ..)
      have h2 := ih fun d hd => h d (List.mem_cons_of_mem _ hd)
      rw [List.flatten_cons, List.length_append]
      show r.length + 1 ≤ _
      omega
  refine Nat.le_trans (h cs fun c hc => ?_) (W.flat_len E)
  obtain ⟨s, hs, rfl⟩ := W.cy c hc
  rw [cyc_len]
  exact per_pos E hs
/-! ### the order -/
def lcmL (cs : List (List Nat)) : Nat := cs.foldl (fun m c => Nat.lcm m c.length) 1
theorem lcmL_snoc (cs : List (List Nat)) (c : List Nat) : lcmL (cs ++ [c]) = Nat.lcm (lcmL cs) c.length := by
  unfold lcmL
  rw [List.foldl_append]
  rfl
theorem snoc_ind {α : Type} {P : List α → Prop} (h0 : P []) (h1 : ∀ l a, P l → P (l ++ [a])) (l : List α) : P l := by
  have h : ∀ n (l : List α), l.length = n → P l := by
    intro n
    induction n with
    | zero => intro l hl; rw [List.eq_nil_of_length_eq_zero hl]; exact h0
    | succ n ih =>
      intro l hl
      have hne : l ≠ [] := fun q => by rw [q] at hl; cases hl
      rw [← List.dropLast_concat_getLast hne]
      exact h1 _ _ (ih _ (by rw [List.length_dropLast]; omega))
  exact h _ l rfl
theorem lcmL_dvd (cs : List (List Nat)) : ∀ c ∈ cs, c.length ∣ lcmL cs := by
  refine snoc_ind (P := fun cs => ∀ c ∈ cs, c.length ∣ lcmL cs) (fun c h => by cases h) (fun l a ih c h => ?_) cs
  rw [lcmL_snoc]
  rcases List.mem_append.mp h with h | h
  · exact Nat.dvd_trans (ih c h) (Nat.dvd_lcm_left _ _)
  · have e : c = a := by simpa using h
    rw [e]
    exact Nat.dvd_lcm_right _ _
theorem lcmL_least (cs : List (List Nat)) (m : Nat) : (∀ c ∈ cs, c.length ∣ m) → lcmL cs ∣ m := by
  refine snoc_ind (P := fun cs => (∀ c ∈ cs, c.length ∣ m) → lcmL cs ∣ m) (fun _ => Nat.one_dvd _) (fun l a ih h => ?_) cs
  rw [lcmL_snoc]
  exact Nat.lcm_dvd (ih fun c hc => h c (List.mem_append_left _ hc)) (h a (by simp))
theorem lcmL_bound (cs : List (List Nat)) : lcmL cs ≤ 2 ^ cs.flatten.length := by
  refine snoc_ind (P := fun cs => lcmL cs ≤ 2 ^ cs.flatten.length) (by decide) (fun l a ih => ?_) cs
  rw [lcmL_snoc, List.flatten_append, List.flatten_singleton, List.length_append, Nat.pow_add]
  have h1 : Nat.lcm (lcmL l) a.length ≤ lcmL l * a.length := by
    unfold Nat.lcm
    exact Nat.div_le_self _ _
  refine Nat.le_trans h1 (Nat.mul_le_mul ih (Nat.le_of_lt Nat.lt_two_pow_self))
noncomputable def ord (e : List Nat) : Nat := lcmL (wheels e)
theorem per_dvd_ord {e : List Nat} (E : Eff e) {p : Nat} (hp : p < e.length) : per e p ∣ ord e := by
  obtain ⟨W, h⟩ := wheels_ok E
  obtain ⟨c, hc, hm⟩ := List.mem_flatten.mp (h p hp)
  obtain ⟨s, hs, rfl⟩ := W.cy c hc
  obtain ⟨k, rfl⟩ := (cyc_mem E hs).mp hm
  have q := lcmL_dvd _ _ hc
  rw [cyc_len] at q
  rw [per_it E hs]
  exact q
theorem ord_dvd {e : List Nat} (E : Eff e) {m : Nat} (h : ∀ p, p < e.length → per e p ∣ m) : ord e ∣ m := by
  obtain ⟨W, _⟩ := wheels_ok E
  refine lcmL_least _ _ fun c hc => ?_
  obtain ⟨s, hs, rfl⟩ := W.cy c hc
  rw [cyc_len]
  exact h s hs
theorem lcmL_pos {e : List Nat} (E : Eff e) {cs : List (List Nat)} : Wh e cs → 0 < lcmL cs := by
  intro W
  refine snoc_ind (P := fun cs => (∀ c ∈ cs, 0 < c.length) → 0 < lcmL cs) (fun _ => by decide) (fun l a ih h => ?_) cs fun c hc => ?_
  · rw [lcmL_snoc]
    exact Nat.lcm_pos (ih fun c hc => h c (List.mem_append_left _ hc)) (h a (by simp))
  · obtain ⟨s, hs, rfl⟩ := W.cy c hc
    rw [cyc_len]
    exact per_pos E hs
theorem ord_pos {e : List Nat} (E : Eff e) : 0 < ord e := lcmL_pos E (wheels_ok E).1
theorem rp_dvd {e : List Nat} (E : Eff e) {p : Nat} (hp : p < e.length) {c d : Int} (h : c % (ord e : Int) = d % (ord e : Int)) : rp e c p = rp e d p := by
  obtain ⟨m, hm⟩ := per_dvd_ord E hp
  have h2 : (per e p : Int) ∣ (ord e : Int) := ⟨(m : Int), by rw [hm, Int.natCast_mul]⟩
  unfold rp
  rw [← Int.emod_emod_of_dvd c h2, h, Int.emod_emod_of_dvd d h2]
theorem rep_mod {e : List Nat} (E : Eff e) {c d : Int} (h : c % (ord e : Int) = d % (ord e : Int)) : rep e c = rep e d := List.map_congr_left fun p hp => rp_dvd E (List.mem_range.mp hp) h
theorem rep_ord {e : List Nat} (E : Eff e) : rep e (ord e : Int) = List.range e.length := by
  rw [← rep_zero]
  exact rep_mod E (by rw [Int.emod_self, Int.zero_emod])
theorem rep_id_dvd {e : List Nat} (E : Eff e) {m : Nat} (h : rep e (m : Int) = List.range e.length) : ord e ∣ m := ord_dvd E fun p hp => by
  have q := congrArg (fun l => ap l p) h
  have q : ap (rep e (m : Int)) p = ap (List.range e.length) p := q
  rw [rep_ap hp, rp_nat E m hp] at q
  have e2 : ap (List.range e.length) p = p := by
    unfold ap
    rw [List.getD_eq_getElem?_getD, List.getElem?_range hp]
    rfl
  rw [e2] at q
  exact (it_eq_iff E hp m).mp q
theorem ord_least {e : List Nat} (E : Eff e) {k : Nat} (hk : 2 ≤ k) (hd : (ord e) % k = 0) : rep e ((ord e / k : Nat) : Int) ≠ List.range e.length := fun h => by
  have q := Nat.le_of_dvd (Nat.div_pos (Nat.le_of_dvd (ord_pos E) (Nat.dvd_of_mod_eq_zero hd)) (by omega)) (rep_id_dvd E h)
  have := Nat.div_lt_self (ord_pos E) hk
  omega
end Sv


set_option maxHeartbeats 4000000
namespace Sv
open PySem PySem.Spec PyProof.Rows L2
theorem b_isinstance : bootBuiltins "isinstance" = some (.builtin "isinstance") := by decide +kernel
theorem b_len : bootBuiltins "len" = some (.builtin "len") := by decide +kernel
theorem b_max : bootBuiltins "max" = some (.builtin "max") := by decide +kernel
theorem b_bool : bootBuiltins "bool" = some (.type "bool") := by decide +kernel
theorem b_int : bootBuiltins "int" = some (.type "int") := by decide +kernel
theorem b_str : bootBuiltins "str" = some (.type "str") := by decide +kernel
theorem b_list : bootBuiltins "list" = some (.type "list") := by decide +kernel
theorem b_tuple : bootBuiltins "tuple" = some (.type "tuple") := by decide +kernel
theorem b_dict : bootBuiltins "dict" = some (.type "dict") := by decide +kernel
theorem pe_ty {X : Cx} {x : Str} {T : String} {pos : Pos} (hg : Gl X x) (hm : X.mg x = none) (hv : bootBuiltins x = some (.type T)) (hn : x ≠ "__name__" := by decide) (hd : (x == ("__debug__" : Str)) = false := by decide) : PE X (.Name x pos) (tC (.ty T)) :=
  pe_bltn hg hm hv rfl hn hd
theorem b_sum : bootBuiltins "sum" = some (.builtin "sum") := by decide +kernel
theorem scWithin : FnScope ["number", "low", "high"] ["number", "low", "high"] (defScope sWithin) := ⟨rfl, rfl, rfl, by decide +kernel, rfl, by decide +kernel, by decide +kernel⟩
section
variable {P : Program} {w : World} {K : PySem.W.Frag} {mg : Str → Option Value} {base : Heap}
def spWithin : Sp := fun vs H Q _ => ∃ n lo hi : Int, vs = [.int n, .int lo, .int hi] ∧ Q (.bl (decide (lo ≤ n ∧ n ≤ hi))) H
theorem isi_ty {K : PySem.W.Frag} {H : Hp} {Q : VK} {x : V} {a b : String} {r : Bool} (t : TyX K H x (.type a)) (h : kitB a b = some r) (q : Q (.bl r) H) : rIsi K [x, .ty b] H Q :=
  ⟨x, .ty b, _, _, r, rfl, .ty b, t, kit_ty h, q⟩
theorem ok_within {f : Addr} {fd : FuncData} {k : Nat} (F : Fun K "is_within" "is_within" sWithin f fd) (mi : mg "isinstance" = none) (mb : mg "bool" = none) (mn : mg "int" = none) :
    FnOk P w K mg base CX0 (k + 1) f fd ["number", "low", "high"] spWithin := by
  refine F.ok scWithin (fun vs H Q E h => ?_) (fun cdv A outer s H vs Q E hr h => ?_)
  · obtain ⟨n, lo, hi, rfl, _⟩ := h
    rfl
  · obtain ⟨n, lo, hi, rfl, q⟩ := h
    refine ⟨_, pss_cons (ps_if (pw_or (pt_val (pe_callB call_isi (by rfl) mi b_isinstance (pa_cons (pv 0) (pa_cons (pe_ty (by rfl) mb b_bool) pa_nil))))
        (pw_or1 (pt_not (pt_val (pe_callB call_isi (by rfl) mi b_isinstance (pa_cons (pv 0) (pa_cons (pe_ty (by rfl) mn b_int) pa_nil))))))).pt
      (pss_one (ps_ret pe_bl)) pss_nil)
      (pss_one (ps_ret (pe_chain op_le op_le (pv 1) (pv 0) (pv 2)))), ?_⟩
    refine ⟨.int n, rfl, .int n, .ty "bool", _, _, false, rfl, .ty "bool", .base (.int n), kit_ty (by decide +kernel), false, rfl, iteF ?_⟩
    refine ⟨.int n, rfl, .int n, .ty "int", _, _, true, rfl, .ty "int", .base (.int n), kit_ty (by decide +kernel), true, rfl, iteF ?_⟩
    refine ⟨.int lo, rfl, .int n, rfl, lo, n, rfl, rfl, _, rfl, ?_⟩
    by_cases h1 : lo ≤ n
    · rw [decide_eq_true h1]
      refine iteT ⟨.int hi, rfl, n, hi, rfl, rfl, ?_⟩
      show Q (.bl (decide (n ≤ hi))) H
      have e : decide (n ≤ hi) = decide (lo ≤ n ∧ n ≤ hi) := by simp [h1]
      rw [e]
      exact q
    · rw [decide_eq_false h1]
      have e : decide (lo ≤ n ∧ n ≤ hi) = false := by simp [h1]
      rw [e] at q
      exact iteF q
end
theorem tyx_tup {K : PySem.W.Frag} {H : Hp} {a : Addr} {xs : List V} (h : SqT K H a xs) : TyX K H (.ref a) (.type "tuple") := by
  rcases h with (h | ⟨o, h⟩) | ⟨o, its, n, h1, h2, _⟩
  · exact .base (.tup h)
  · exact .fTuple h
  · exact .kTuple h1 h2
structure Bt (mg : Str → Option Value) : Prop where
  isinstance : mg "isinstance" = none
  bool : mg "bool" = none
  int : mg "int" = none
  str : mg "str" = none
  list : mg "list" = none
  tuple : mg "tuple" = none
  dict : mg "dict" = none
  len : mg "len" = none
  range : mg "range" = none
  enumerate : mg "enumerate" = none
  max : mg "max" = none
  sum : mg "sum" = none
  set : mg "set" = none
  zip : mg "zip" = none
  divmod : mg "divmod" = none
  sorted : mg "sorted" = none
  abs : mg "abs" = none
  min : mg "min" = none
structure Df (K : PySem.W.Frag) (mg : Str → Option Value) (x : Str) (st : Stmt) (ps : List Str) (f : Addr) (fd : FuncData) : Prop where
  F : Fun K x x st f fd
  b : Binds K fd ps []
  g : mg x = some (.ref f)
theorem same_upd {H : Hp} {p : Addr} {o : HO} (h : H p = none) : Same H (upd H p o) := fun b x e => by
  rw [upd_ne (ne_of_none e h)]
  exact e
theorem same_of {H H' : Hp} {p : Addr} {o : HO} (e : Same H H') (h : H p = none) : Same H (upd H' p o) := fun b x q => by
  rw [upd_ne (ne_of_none q h)]
  exact e b x q
theorem sqT_same {K : PySem.W.Frag} {H H' : Hp} {a : Addr} {xs : List V} (e : Same H H') (h : SqT K H a xs) : SqT K H' a xs := by
  rcases h with (h | ⟨o, h⟩) | h
  · exact .inl (.inl (e _ _ h))
  · exact .inl (.inr ⟨o, e _ _ h⟩)
  · exact .inr h
theorem sz1000 {n : Nat} (h : n ≤ 1000) : n ≤ sizeLine := Nat.le_of_lt (small1000 h)
theorem yes_go {σ2 : L2.St} {H2 : Hp} {A B : Hp → Prop} (h : A H2) : tYes σ2 H2 (fun b H3 => if b = true then A H3 else B H3) := by
  show (if true = true then A H2 else B H2)
  rw [if_pos rfl]
  exact h
theorem ixN_nat {n j : Nat} (h : j < n) : ixN n (j : Int) = some j := by
  unfold ixN
  rw [if_pos (by omega), if_pos (by omega), Int.toNat_natCast]
/-! ### the law's source of draws -/
structure LawH (H : Hp) (h l : Addr) : Prop where
  ex : ∃ (m i : Int) (cs : List Int), H h = some (.lst [.int m, .ref l, .int i]) ∧ H l = some (.lst (cs.map V.int)) ∧ cs.length ≤ 1000
def SameX (h l : Addr) (H H' : Hp) : Prop := ∀ b o, b ≠ h → b ≠ l → H b = some o → H' b = some o
theorem LawH.ne {H : Hp} {h l : Addr} (x : LawH H h l) : h ≠ l := by
  obtain ⟨m, i, cs, e1, e2, _⟩ := x.ex
  intro z
  subst z
  rw [e1] at e2
  have e3 := HO.lst.inj (Option.some.inj e2)
  match cs, e3 with
  | [], e3 => cases e3
  | [_], e3 => cases e3
  | _ :: _ :: _, e3 => cases e3
theorem LawH.same {H H' : Hp} {h l : Addr} (x : LawH H h l) (e : Same H H') : LawH H' h l := by
  obtain ⟨m, i, cs, e1, e2, e3⟩ := x.ex
  exact ⟨m, i, cs, e _ _ e1, e _ _ e2, e3⟩
theorem SameX.of {H H' : Hp} {h l : Addr} (e : Same H H') : SameX h l H H' := fun b o _ _ q => e b o q
theorem SameX.trans {H H1 H2 : Hp} {h l : Addr} (a : SameX h l H H1) (b : SameX h l H1 H2) : SameX h l H H2 := fun c o h1 h2 q => b c o h1 h2 (a c o h1 h2 q)
section
variable {P : Program} {w : World} {K : PySem.W.Frag} {mg : Str → Option Value} {base : Heap}
theorem scNext : FnScope ["_law_h", "_law_limit", "_law_cell"] ["_law_h", "_law_limit"] (defScope sNext) := ⟨rfl, rfl, rfl, by decide +kernel, rfl, by decide +kernel, by decide +kernel⟩
theorem scMix : FnScope ["_law_script", "_law_seed", "_law_mixed", "_law_cell"] ["_law_script", "_law_seed"] (defScope sMix) := ⟨rfl, rfl, rfl, by decide +kernel, rfl, by decide +kernel, by decide +kernel⟩
def spNext : Sp := fun vs H Q _ => ∃ (h l : Addr) (lim : Int), vs = [.ref h, .int lim] ∧ LawH H h l ∧ 0 < lim ∧ lim < 2 ^ 64 ∧ ∀ r H', 0 ≤ r → r < lim → LawH H' h l → SameX h l H H' → Q (.int r) H'
theorem ok_next {f : Addr} {fd : FuncData} (F : Fun K "_law_next" "_law_next" sNext f fd) (B : Bt mg) : FnOk P w K mg base CX0 1 f fd ["_law_h", "_law_limit"] spNext := by
  refine F.ok scNext (fun vs H Q E h => ?_) (fun cdv A outer s H vs Q E hr h => ?_)
  · obtain ⟨h, l, lim, rfl, _⟩ := h
    rfl
  · obtain ⟨h, l, lim, rfl, LH, p1, p2, q⟩ := h
    have LHx := LH
    have hne := LH.ne
    obtain ⟨m, i, cs, e1, e2, e3⟩ := LH.ex
    refine ⟨_, pss_cons (ps_set (i := 2) scNext.nd rfl (Or.inl rfl) (pe_ix ix_list (pe_op op_cat (pe_ix ix_list (pv 0) pe_int (fun _ _ => rfl)) (pe_lst (pa_cons pe_int pa_nil)))
        (pe_op op_mod (pe_callTy call_int1 (by rfl) B.int b_int (pa_cons (pe_ix ix_list (pv 0) pe_int (fun _ _ => rfl)) pa_nil)) (pe_callB (call_max2 rfl) (by rfl) B.max b_max (pa_cons pe_int (pa_cons (pe_callB call_len_seq (by rfl) B.len b_len (pa_cons (pe_ix ix_list (pv 0) pe_int (fun _ _ => rfl)) pa_nil)) pa_nil)))) (fun _ _ => rfl)))
      (pss_cons (ps_if (pt_cmpR op_ge (pv 2) (pe_op op_pow pe_int pe_int) (nomark _))
        (pss_cons (ps_asg (pe_op op_fdivW (pv 2) (pv 1)) (pg_sub (pe_ix ix_list (pv 0) pe_int (fun _ _ => rfl)) (pe_op op_mod (pe_callTy call_int1 (by rfl) B.int b_int (pa_cons (pe_ix ix_list (pv 0) pe_int (fun _ _ => rfl)) pa_nil)) (pe_callB call_len_seq (by rfl) B.len b_len (pa_cons (pe_ix ix_list (pv 0) pe_int (fun _ _ => rfl)) pa_nil))) set_list))
        (pss_one (ps_ret (pe_op op_mod (pe_callTy call_int1 (by rfl) B.int b_int (pa_cons (pv 2) pa_nil)) (pv 1))))) pss_nil)
      (pss_cons (ps_asg (pe_op op_mod (pe_op op_add (pe_op op_add (pe_op op_mul (pe_ix ix_list (pv 0) pe_int (fun _ _ => rfl)) pe_int) (pe_op op_mul (pv 2) pe_int)) pe_int) pe_int) (pg_sub (pv 0) pe_int set_list))
      (pss_cons (ps_asg (pe_op op_add (pe_ix ix_list (pv 0) pe_int (fun _ _ => rfl)) pe_int) (pg_sub (pv 0) pe_int set_list))
      (pss_one (ps_ret (pe_op op_mod (pe_op op_fdiv (pe_ix ix_list (pv 0) pe_int (fun _ _ => rfl)) pe_int) (pv 1))))))), ?_⟩
    refine ⟨.ref h, rfl, h, _, 1, .ref l, rfl, rfl, .inl (.inl e1), rfl, (by show 1 ≤ sizeLine; decide), fun z hz => ?_⟩
    have hl1 : l ≠ z := ne_of_none e2 hz
    have hl2 : h ≠ z := ne_of_none e1 hz
    refine ⟨l, z, _, _, rfl, rfl, by rw [upd_ne hl1]; exact e2, upd_same, ?_, fun u hu => ?_⟩
    · rw [List.length_map]
      show cs.length + 1 ≤ sizeLine
      exact small1000 e3
    have sm1 : Same H (upd H z (.lst [.int 0])) := same_upd hz
    have sm2 : Same H (upd (upd H z (.lst [.int 0])) u (.lst (cs.map V.int ++ [.int 0]))) := same_of sm1 (Same.free sm1 hu)
    generalize hG : upd (upd H z (.lst [.int 0])) u (.lst (cs.map V.int ++ [.int 0])) = G at sm2 ⊢
    have g1 := sm2 _ _ e1
    have g2 := sm2 _ _ e2
    have g3 : G u = some (.lst ((cs ++ [0]).map V.int)) := by rw [← hG, upd_same, List.map_append]; rfl
    have hmax : (if ((cs.map V.int).length : Int) > 1 then ((cs.map V.int).length : Int) else 1) = ((max 1 cs.length : Nat) : Int) := by
      rw [List.length_map]
      split <;> omega
    have hM : (0 : Int) < ((max 1 cs.length : Nat) : Int) := by omega
    have i0 := Int.emod_nonneg i (Int.ne_of_gt hM)
    have i1 := Int.emod_lt_of_pos i hM
    obtain ⟨k, hk⟩ : ∃ k : Nat, i % ((max 1 cs.length : Nat) : Int) = (k : Int) := ⟨_, (Int.toNat_of_nonneg i0).symm⟩
    have hk1 : k < (cs ++ [0]).length := by
      rw [List.length_append]
      show k < cs.length + 1
      omega
    obtain ⟨cell, hcell⟩ : ∃ c, (cs ++ [0])[k]? = some c := ⟨_, List.getElem?_eq_getElem hk1⟩
    refine ⟨.ref h, rfl, h, _, 2, .int i, rfl, rfl, .inl (.inl g1), rfl, .inl ⟨i, rfl, ?_⟩⟩
    refine ⟨.ref h, rfl, h, _, 1, .ref l, rfl, rfl, .inl (.inl g1), rfl, l, _, rfl, .inl (.inl (.inl g2)), 1, _, rfl, ?_⟩
    refine ⟨i, ((max 1 cs.length : Nat) : Int), rfl, congrArg V.int hmax, hM, ?_⟩
    refine ⟨u, _, (k : Int), .int cell, rfl, congrArg V.int hk, .inl (.inl g3), atI_nat (by rw [List.getElem?_map, hcell]; rfl), ?_⟩
    -- the test
    refine ⟨.int cell, rfl, 10, 18, rfl, rfl, ⟨by decide, by decide, by decide⟩, cell, 10 ^ (18 : Int).toNat, rfl, rfl, _, rfl, ite2 (fun hc => ?_) (fun hc => ?_)⟩
    · have hc2 : (10 : Int) ^ (18 : Int).toNat ≤ cell := of_decide_eq_true hc
      have hc3 : (0 : Int) < cell := Int.lt_of_lt_of_le (by decide) hc2
      have hk2 : k < cs.length := by
        by_cases hkl : k < cs.length
        · exact hkl
        · have : k = cs.length := by
            rw [List.length_append] at hk1
            have : k < cs.length + 1 := hk1
            omega
          rw [this, List.getElem?_append_right (Nat.le_refl _), Nat.sub_self] at hcell
          have : (0 : Int) = cell := Option.some.inj hcell
          omega
      have hl0 : (0 : Int) < ((cs.map V.int).length : Int) := by rw [List.length_map]; omega
      have hkk : i % ((cs.map V.int).length : Int) = (k : Int) := by
        rw [List.length_map, ← hk]
        congr 1
        omega
      refine ⟨.int cell, rfl, .int lim, rfl, cell, lim, rfl, rfl, wide_div (b := 64) p1 (by omega) (by decide) (by decide), ?_⟩
      refine ⟨.ref h, rfl, h, _, 1, .ref l, rfl, rfl, .inl (.inl g1), rfl, ?_⟩
      refine ⟨.ref h, rfl, h, _, 2, .int i, rfl, rfl, .inl (.inl g1), rfl, .inl ⟨i, rfl, ?_⟩⟩
      refine ⟨.ref h, rfl, h, _, 1, .ref l, rfl, rfl, .inl (.inl g1), rfl, l, _, rfl, .inl (.inl (.inl g2)), i, _, rfl, rfl, hl0, ?_⟩
      refine ⟨l, cs.map V.int, (k : Int), k, rfl, congrArg V.int hkk, g2, ixN_nat (by rw [List.length_map]; exact hk2), ?_⟩
      refine ⟨.int cell, rfl, .inl ⟨cell, rfl, .int lim, rfl, cell, lim, rfl, rfl, p1, ?_⟩⟩
      refine q _ _ (Int.emod_nonneg _ (Int.ne_of_gt p1)) (Int.emod_lt_of_pos _ p1) ⟨m, i, cs.set k (cell / lim), ?_, ?_, ?_⟩ (fun b o h1 h2 hb => ?_)
      · rw [upd_ne hne]
        exact g1
      · rw [upd_same, List.map_set]
      · rw [List.length_set]
        exact e3
      · rw [upd_ne h2]
        exact sm2 _ _ hb
    · refine ⟨.ref h, rfl, h, _, 0, .int m, rfl, rfl, .inl (.inl g1), rfl, m, 48271, rfl, rfl, .inr ⟨by decide, by decide⟩, ?_⟩
      refine ⟨.int cell, rfl, cell, 69621, rfl, rfl, .inr ⟨by decide, by decide⟩, _, _, rfl, rfl, _, 11, rfl, rfl, _, 2147483647, rfl, rfl, (by decide : (0 : Int) < 2147483647), ?_⟩
      refine ⟨.ref h, rfl, h, _, 0, 0, rfl, rfl, g1, rfl, ?_⟩
      obtain ⟨m', hm'⟩ : ∃ m' : Int, (m * 48271 + cell * 69621 + 11) % 2147483647 = m' := ⟨_, rfl⟩
      have hmv : (fun i j => V.int (i % j)) (m * 48271 + cell * 69621 + 11) 2147483647 = V.int m' := congrArg V.int hm'
      rw [hmv]
      have g1' : (upd G h (.lst ([V.int m, V.ref l, V.int i].set 0 (V.int m')))) h = some (.lst [.int m', .ref l, .int i]) := upd_same
      refine ⟨.ref h, rfl, h, _, 2, .int i, rfl, rfl, .inl (.inl g1'), rfl, i, 1, rfl, rfl, ?_⟩
      refine ⟨.ref h, rfl, h, _, 2, 2, rfl, rfl, g1', rfl, ?_⟩
      generalize hG2 : upd (upd G h (.lst ([V.int m, V.ref l, V.int i].set 0 (V.int m')))) h (.lst ([V.int m', V.ref l, V.int i].set 2 (V.int (i + 1)))) = G2
      have g1'' : G2 h = some (.lst [.int m', .ref l, .int (i + 1)]) := by rw [← hG2]; exact upd_same
      refine ⟨.ref h, rfl, h, _, 0, .int m', rfl, rfl, .inl (.inl g1''), rfl, m', 7, rfl, rfl, ⟨by decide, by decide⟩, .int lim, rfl, _, lim, rfl, rfl, p1, ?_⟩
      refine q _ _ (Int.emod_nonneg _ (Int.ne_of_gt p1)) (Int.emod_lt_of_pos _ p1) ⟨m', i + 1, cs, g1'', ?_, e3⟩ (fun b o h1 h2 hb => ?_)
      · rw [← hG2, upd_ne (Ne.symm hne), upd_ne (Ne.symm hne)]
        exact g2
      · rw [← hG2, upd_ne h1, upd_ne h1]
        exact sm2 _ _ hb
/-! ### _law_mix -/
def spMix (K : PySem.W.Frag) : Sp := fun vs H Q _ => ∃ (a : Addr) (ns : List Int) (seed : Int), vs = [.ref a, .int seed] ∧ SqL K H a (ns.map V.int) ∧ ns.length ≤ 63 ∧ ∀ H' h l, LawH H' h l → Same H H' → H h = none → H l = none → Q (.ref h) H'
theorem ok_mix {f : Addr} {fd : FuncData} (F : Fun K "_law_mix" "_law_mix" sMix f fd) (B : Bt mg) : FnOk P w K mg base CX0 1 f fd ["_law_script", "_law_seed"] (spMix K) := by
  refine F.ok scMix (fun vs H Q E h => ?_) (fun cdv A outer s H vs Q E hr h => ?_)
  · obtain ⟨a, ns, seed, rfl, _⟩ := h
    rfl
  · obtain ⟨a, ns, seed, rfl, hA, hl, q⟩ := h
    refine ⟨_, pss_cons (ps_set (i := 2) scMix.nd rfl (Or.inl rfl) (pv 1))
      (pss_cons (ps_for PassesOwn.never rfl (pi_list (pv 0)) (pg_name (i := 3) scMix.nd rfl (Or.inl rfl))
        (pss_one (ps_set (i := 2) scMix.nd rfl (Or.inl rfl) (pe_op op_mod (pe_op op_add (pe_op op_add (pe_op op_mul (pv 2) pe_int) (pe_op op_mod (pv 3) pe_int)) pe_int) pe_int))))
      (pss_one (ps_ret (pe_lst (pa_cons (pv 2) (pa_cons (pe_callTy call_list_of (by rfl) B.list b_list (pa_cons (pv 0) pa_nil)) (pa_cons pe_int pa_nil))))))), ?_⟩
    refine ⟨.int seed, rfl, .ref a, rfl, a, rfl, ⟨_, hA⟩, for_list (xs := ns.map V.int) (fun i σ H' => (∃ m y3, σ = [some (.ref a), some (.int seed), some (.int m), y3]) ∧ H' = H) ⟨⟨seed, none, rfl⟩, rfl⟩ (fun i σ H' _ h => by rw [h.2]; exact hA) (fun i x σ H' hx ⟨⟨m, y3, es⟩, eH⟩ => ?_) (fun σ H' ⟨⟨m, y3, es⟩, eH⟩ => ?_)⟩
    · subst es
      subst eH
      rw [List.getElem?_map] at hx
      cases hn : ns[i]? with
      | none => rw [hn] at hx; cases hx
      | some n =>
        rw [hn] at hx
        obtain rfl : V.int n = x := Option.some.inj hx
        refine ⟨.int m, rfl, m, 48271, rfl, rfl, .inr ⟨by decide, by decide⟩, .int n, rfl, n, 2147483629, rfl, rfl, (by decide : (0 : Int) < 2147483629), _, _, rfl, rfl, _, 1, rfl, rfl, _, 2147483647, rfl, rfl, (by decide : (0 : Int) < 2147483647), ⟨_, _, rfl⟩, rfl⟩
    · subst es
      subst eH
      refine ⟨.int m, rfl, .ref a, rfl, a, _, rfl, .inl hA, fun l hl2 => ⟨(by show 3 ≤ sizeLine; decide), fun h hh => ?_⟩⟩
      have ln : l ≠ h := ne_of_none upd_same hh
      refine q _ h l ⟨m, 0, ns, upd_same, by rw [upd_ne ln]; exact upd_same, by omega⟩ (same_of (same_upd hl2) (Same.free (same_upd hl2) hh)) (Same.free (same_upd hl2) hh) hl2
end
end Sv


set_option maxHeartbeats 4000000
set_option exponentiation.threshold 2000
namespace Sv
open PySem PySem.Spec PyProof.Rows L2 NdefX
/-! ### InvalidPlan -/
def clsInit : Stmt → Stmt | .ClassDef _ _ _ b _ _ _ _ _ _ _ => b.getD 0 (.Pass ⟨0, 0, 0, 0⟩) | s => s
abbrev sPlanInit : Stmt := clsInit sInvalidPlan
def nfPlan (cc c0 : Addr) : NF := ⟨"__init__", "InvalidPlan.__init__", defArgs sPlanInit, defBody sPlanInit, defScope sPlanInit, [("__class__", cc)], c0⟩
def arPlan : Arg := (defArgs sPlanInit).args.getD 0 ⟨"x", none, ⟨0, 0, 0, 0⟩⟩
def nPI : List Str := ["self", "part", "index", "__class__"]
theorem nsPlan (cc c0 : Addr) : NScope nPI ["self", "part", "index"] ["__class__"] (nfPlan cc c0).scope := by
  show NScope nPI ["self", "part", "index"] ["__class__"] (defScope sPlanInit)
  exact nscope_by (by decide +kernel)
section
variable {P : Program} {w : World} {K : PySem.W.Frag} {mg : Str → Option Value} {base : Heap}
/-- the promise of InvalidPlan.__init__ -/
def spPI (C : Addr) : Sp := fun vs H Q _ => ∃ (a : Addr) (part : Str) (i : Int), vs = [.ref a, .str part, .int i] ∧ H a = some (exo a C none) ∧ part.length ≤ 1000 ∧ i.natAbs < 2 ^ 100 ∧
  ∀ d, H d = none → d ≠ a → Q .non (upd (upd (upd H d (exd d [("part", .str part)])) a (exo a C (some d))) d (exd d [("index", .int i), ("part", .str part)]))
theorem ok_planInit {C fI cc c0 : Addr} {oc : Value} {od : Option Addr} {osl : Array (Option Value)} {doc pm ctv : Value} (S : SupF P K mg C fI cc (nfPlan cc c0) arPlan) (lk : K.lookup fI = some ⟨oc, od, .func ((nfPlan cc c0).fd doc pm ctv), osl⟩)
    (n1 : PySem.W.findIn K (.ref C) "part" = some none) (n2 : PySem.W.findIn K (.ref C) "index" = some none) :
    FnOk P w K mg base CX0 1 fI ((nfPlan cc c0).fd doc pm ctv) ["self", "part", "index"] (spPI C) := by
  refine fnOk_sup (N := nPI) S lk (nsPlan cc c0) rfl rfl rfl (fun vs H Q E h => ?_) (fun _ => rfl) (fun _ => ⟨_, rfl⟩) (fun _ => rfl) (fun _ => rfl) (fun A outer s H vs Q E hr h => ?_)
  · obtain ⟨a, part, i, rfl, _⟩ := h
    rfl
  · obtain ⟨a, part, i, rfl, ha, hl, hi, q⟩ := h
    refine ⟨a, _, _, rfl, ha, pe_joined (.cons pe_str (.cons (pe_fmt (pv 1)) (.cons pe_str (.cons (pe_fmt (pv 2)) .nil)))),
      pss_cons (ps_ost (pv 0) (pv 1)) (pss_one (ps_ost (pv 0) (pv 2))), ?_⟩
    have hz : sizeLine = 16777216 := sizeLine_eq
    have hlog : i.natAbs.log2 < 1920 := by
      have : i.natAbs < 2 ^ 1920 := Nat.lt_trans hi (Nat.pow_lt_pow_right (by decide) (by decide))
      by_cases h0 : i.natAbs = 0
      · rw [h0]
        decide
      · exact (Nat.log2_lt h0).mpr this
    have l4 : (Str.ofString (toString i)).length ≤ 1921 := int_text_len_1921 hlog
    refine ⟨"invalid ", rfl, ?_, .str part, rfl, .inl ⟨part, rfl, by omega, part, rfl, ?_, ", at index ", rfl, ?_, .int i, rfl, .inr ⟨i, rfl, hlog, _, rfl, ?_, ha, ?_⟩⟩⟩
    · decide
    · rw [Str.length_append]
      have : (Str.empty ++ ("invalid " : Str)).length = 8 := by decide
      omega
    · rw [Str.length_append, Str.length_append]
      have : (Str.empty ++ ("invalid " : Str)).length = 8 := by decide
      have : (", at index " : Str).length = 11 := by decide
      omega
    · rw [Str.length_append, Str.length_append, Str.length_append]
      have : (Str.empty ++ ("invalid " : Str)).length = 8 := by decide
      have : (", at index " : Str).length = 11 := by decide
      omega
    · refine ⟨.str part, rfl, .ref a, rfl, a, C, rfl, S.T, n1, .inl ⟨ha, fun d hd hda => ?_⟩⟩
      refine ⟨.int i, rfl, .ref a, rfl, a, C, rfl, S.T, n2, .inr ⟨d, [("part", .str part)], upd_same, ?_, (by show 1 ≤ 900; decide), q d hd hda⟩⟩
      rw [upd_ne hda, upd_same]
/-- the facts of InvalidPlan -/
structure Pl (P : Program) (K : PySem.W.Frag) (mg : Str → Option Value) (C fI : Addr) (fd : FuncData) : Prop where
  ex : ∃ (cc c0 : Addr) (oc : Value) (od : Option Addr) (osl : Array (Option Value)) (doc pm ctv : Value), fd = (nfPlan cc c0).fd doc pm ctv ∧ SupF P K mg C fI cc (nfPlan cc c0) arPlan ∧ K.lookup fI = some ⟨oc, od, .func fd, osl⟩
  n1 : PySem.W.findIn K (.ref C) "part" = some none
  n2 : PySem.W.findIn K (.ref C) "index" = some none
  g : mg "InvalidPlan" = some (.ref C)
  iC : PySem.W.findIn K (.ref C) "__init__" = some (some (.ref fI))
  tI : PySem.W.typeIn K (.ref fI) = some (.type "function")
  b : Binds K fd ["self", "part", "index"] []
  x : XfC K C
theorem Pl.T {C fI : Addr} {fd : FuncData} (p : Pl P K mg C fI fd) : OexC K C := by
  obtain ⟨cc, c0, oc, od, osl, doc, pm, ctv, _, S, _⟩ := p.ex
  exact S.T
theorem Pl.ok {C fI : Addr} {fd : FuncData} (p : Pl P K mg C fI fd) : FnOk P w K mg base CX0 1 fI fd ["self", "part", "index"] (spPI C) := by
  obtain ⟨cc, c0, oc, od, osl, doc, pm, ctv, rfl, S, lk⟩ := p.ex
  exact ok_planInit S lk p.n1 p.n2
/-- what is wanted where InvalidPlan(part, i) is raised -/
def PlanE (C : Addr) (H : Hp) (part : Str) (i : Int) (Q : XK) : Prop := ∀ (H' : Hp) (dd : Addr) (fs : List (Str × V)), Same H H' → H' dd = some (.xd fs) → fs.lookup ("part" : Str) = some (V.str part) → fs.lookup ("index" : Str) = some (V.int i) → Q (.ref C) (some dd) H'
theorem PlanE.imp {C : Addr} {H H1 : Hp} {part : Str} {i : Int} {Q : XK} (h : PlanE C H part i Q) (e : Same H H1) : PlanE C H1 part i Q := fun H' dd fs sm => h H' dd fs (e.trans sm)
theorem pmk_plan {X : Cx} {C fI : Addr} {fd : FuncData} {e1 e2 : Expr} {t1 t2 : TE} {p pos : Pos} (T : Pl X.prog X.K X.mg C fI fd) (hr : Room 2 X.A) (hg : Gl X "InvalidPlan") (h1 : PE X e1 t1) (h2 : PE X e2 t2)
    (s1 : starEach [e1, e2] X.env = (false, eval e1 X.env) :: starEach [e2] X.env := by rfl) (s2 : starEach [e2] X.env = (false, eval e2 X.env) :: starEach [] X.env := by rfl) (hpl : (backTo pos (starEach [e2] X.env)).any (·.1) = false := by rfl) :
    PMk X (.Call (.Name "InvalidPlan" p) [e1, e2] [] pos) (tMkO C (spPI C) [] (tCons t1 (tCons t2 tNil))) := by
  have G : FnOk X.prog X.w X.K X.mg X.base CX0 1 fI fd ["self", "part", "index"] (spPI C) := T.ok
  exact pmk_oex T.T T.iC T.tI G hr T.b .nil pass0 hg T.g (pa_cons h1 (pa_cons h2 pa_nil s2) s1) (by decide) s1 hpl
theorem mk_go {C : Addr} {H : Hp} {part : Str} {i : Int} {Q : XK} (hl : part.length ≤ 1000) (hi : i.natAbs < 2 ^ 100) (q : PlanE C H part i Q) : [V.str part, V.int i].length ≤ 1000 ∧ ∀ a, H a = none → spPI C (.ref a :: ([V.str part, V.int i] ++ [])) (upd H a (exo a C none))
    (fun v H2 => v = .non ∧ ∃ (d : Addr) (fs : List (Str × V)), H2 a = some (exo a C (some d)) ∧ H2 d = some (exd d fs) ∧ H d = none ∧ Q (.ref C) (some d) (upd (del H2 a) d (.xd fs))) (fun _ _ _ => False) := by
  refine ⟨by show 2 ≤ 1000; decide, fun a ha => ⟨a, part, i, rfl, upd_same, hl, hi, fun d hd hda => ⟨rfl, d, _, ?_, upd_same, ?_, q _ d _ (fun b o hb => ?_) upd_same rfl rfl⟩⟩⟩
  · rw [upd_ne (Ne.symm hda), upd_same]
  · rw [upd_ne hda] at hd
    exact hd
  · have hd' : H d = none := by
      rw [upd_ne hda] at hd
      exact hd
    have b1 := ne_of_none hb hd'
    have b2 := ne_of_none hb ha
    rw [upd_ne b1, del_ne b2, upd_ne b1, upd_ne b2, upd_ne b1, upd_ne b2]
    exact hb
end
/-! ### the class Lap -/
abbrev sLapInit : Stmt := clsInit sLap
structure LapF (K : PySem.W.Frag) (mg : Str → Option Value) (C f : Addr) (fd : FuncData) : Prop where
  g : mg "Lap" = some (.ref C)
  m : Mk K C f
  c : Cls K C
  n1 : NoAttr K C "length"
  n2 : NoAttr K C "stops"
  n3 : NoAttr K C "lefts"
  n4 : NoAttr K C "effect"
  F : Fun K "__init__" "Lap.__init__" sLapInit f fd
  b : Binds K fd ["self", "plan", "time"] []
end Sv


set_option maxHeartbeats 4000000
namespace Sv
open PySem PySem.Spec PyProof.Rows L2
/-- an own class of exceptions as it stands behind the top -/
structure ExcF (K : PySem.W.Frag) (mg : Str → Option Value) (x : Str) (C : Addr) : Prop where
  g : mg x = some (.ref C)
  x : PySem.W.excIn K C [.type "ValueError", .type "Exception", .type "BaseException", .type "object"] "ValueError.__new__" = true
  k : PySem.W.keepIn K (.ref C) = true
  b : PySem.W.subIn K (.ref C) (.type "BaseException") = some true
  t : PySem.W.typeIn K (.ref C) = some (.type "type")
/-- the facts of the program's defs -/
structure Bd (P : Program) (K : PySem.W.Frag) (mg : Str → Option Value) where
  bt : Bt mg
  lcm : mg "lcm" = some (.builtin "math.lcm")
  C : Addr
  aInit : Addr
  dInit : FuncData
  pl : Pl P K mg C aInit dInit
  m1 : ∃ t, mg "MOST_SHELVES" = some (.int 12 t)
  m2 : ∃ t, mg "MOST_ON_SHELF" = some (.int 9 t)
  m3 : ∃ t, mg "MOST_CARRIERS" = some (.int 6 t)
  m4 : ∃ t, mg "MOST_ENTRIES" = some (.int 6 t)
  lim : ∃ t, mg "COUNT_LIMIT" = some (.int 1000000000000000000 t)
  tlim : ∃ t, mg "TIME_LIMIT" = some (.int 1000000000000000000000000000000 t)
  lastP : ∃ t, mg "LAST_PARCEL" = some (.int 999 t)
  CC : Addr
  cc : ExcF K mg "InvalidCount" CC
  CS : Addr
  cs : ExcF K mg "InvalidState" CS
  CUr : Addr
  cur : ExcF K mg "UnknownParcel" CUr
  CUs : Addr
  cus : ExcF K mg "UnknownShelf" CUs
  CUc : Addr
  cuc : ExcF K mg "UnknownCarrier" CUc
  CLap : Addr
  aLap : Addr
  dLap : FuncData
  lap : LapF K mg CLap aLap dLap
  aWithin : Addr
  dWithin : FuncData
  Within : Df K mg "is_within" sWithin ["number", "low", "high"] aWithin dWithin
  aCheckCount : Addr
  dCheckCount : FuncData
  CheckCount : Df K mg "check_count" sCheckCount ["count"] aCheckCount dCheckCount
  aCheckTicks : Addr
  dCheckTicks : FuncData
  CheckTicks : Df K mg "check_ticks" sCheckTicks ["count"] aCheckTicks dCheckTicks
  aCheckOrdinal : Addr
  dCheckOrdinal : FuncData
  CheckOrdinal : Df K mg "check_ordinal" sCheckOrdinal ["number"] aCheckOrdinal dCheckOrdinal
  aCheckBetween : Addr
  dCheckBetween : FuncData
  CheckBetween : Df K mg "check_between" sCheckBetween ["number", "low", "high"] aCheckBetween dCheckBetween
  aPattern : Addr
  dPattern : FuncData
  Pattern : Df K mg "pattern_length" sPattern ["plan"] aPattern dPattern
  aCheckPlan : Addr
  dCheckPlan : FuncData
  CheckPlan : Df K mg "check_plan" sCheckPlan ["plan"] aCheckPlan dCheckPlan
  aCheckSizes : Addr
  dCheckSizes : FuncData
  CheckSizes : Df K mg "check_sizes" sCheckSizes ["sizes"] aCheckSizes dCheckSizes
  aCheckRoutes : Addr
  dCheckRoutes : FuncData
  CheckRoutes : Df K mg "check_routes" sCheckRoutes ["routes", "shelves"] aCheckRoutes dCheckRoutes
  aIsRoute : Addr
  dIsRoute : FuncData
  IsRoute : Df K mg "is_route" sIsRoute ["route", "shelves"] aIsRoute dIsRoute
  aPlacesOf : Addr
  dPlacesOf : FuncData
  PlacesOf : Df K mg "places_of" sPlacesOf ["plan"] aPlacesOf dPlacesOf
  aCheckShelf : Addr
  dCheckShelf : FuncData
  CheckShelf : Df K mg "check_shelf" sCheckShelf ["plan", "shelf"] aCheckShelf dCheckShelf
  aCheckCarrier : Addr
  dCheckCarrier : FuncData
  CheckCarrier : Df K mg "check_carrier" sCheckCarrier ["plan", "carrier"] aCheckCarrier dCheckCarrier
  aShelvesOf : Addr
  dShelvesOf : FuncData
  ShelvesOf : Df K mg "shelves_of_places" sShelvesOf ["plan"] aShelvesOf dShelvesOf
  aNumPlaces : Addr
  dNumPlaces : FuncData
  NumPlaces : Df K mg "number_of_places" sNumPlaces ["plan"] aNumPlaces dNumPlaces
  aVisitsIn : Addr
  dVisitsIn : FuncData
  VisitsIn : Df K mg "visits_in_tick" sVisitsIn ["routes", "number"] aVisitsIn dVisitsIn
  aCommon : Addr
  dCommon : FuncData
  Common : Df K mg "common_pattern" sCommon ["routes"] aCommon dCommon
  aRoutePat : Addr
  dRoutePat : FuncData
  RoutePat : Df K mg "route_pattern" sRoutePat ["route"] aRoutePat dRoutePat
  aJoin : Addr
  dJoin : FuncData
  Join : Df K mg "join_layout" sJoin ["carried", "shelves"] aJoin dJoin
  aSplit : Addr
  dSplit : FuncData
  Split : Df K mg "split_layout" sSplit ["plan", "contents"] aSplit dSplit
  aAfterTick : Addr
  dAfterTick : FuncData
  AfterTick : Df K mg "after_tick" sAfterTick ["plan", "number", "carried", "shelves"] aAfterTick dAfterTick
  aEffectTicks : Addr
  dEffectTicks : FuncData
  EffectTicks : Df K mg "effect_of_ticks" sEffectTicks ["plan", "time", "count"] aEffectTicks dEffectTicks
  aInverse : Addr
  dInverse : FuncData
  Inverse : Df K mg "inverse" sInverse ["effect"] aInverse dInverse
  aRepeated : Addr
  dRepeated : FuncData
  Repeated : Df K mg "repeated" sRepeated ["effect", "count"] aRepeated dRepeated
  aOrderOf : Addr
  dOrderOf : FuncData
  OrderOf : Df K mg "order_of" sOrderOf ["effect"] aOrderOf dOrderOf
  aCyclesOf : Addr
  dCyclesOf : FuncData
  CyclesOf : Df K mg "cycles_of" sCyclesOf ["effect"] aCyclesOf dCyclesOf
  aCycleFrom : Addr
  dCycleFrom : FuncData
  CycleFrom : Df K mg "cycle_from" sCycleFrom ["effect", "start"] aCycleFrom dCycleFrom
  aInitial : Addr
  dInitial : FuncData
  Initial : Df K mg "initial_state" sInitial ["plan"] aInitial dInitial
  aMoved : Addr
  dMoved : FuncData
  Moved : Df K mg "moved" sMoved ["plan", "state", "effect"] aMoved dMoved
  aStateOf : Addr
  dStateOf : FuncData
  StateOf : Df K mg "state_of" sStateOf ["plan", "time", "parcels"] aStateOf dStateOf
  aParcelsIn : Addr
  dParcelsIn : FuncData
  ParcelsIn : Df K mg "parcels_in" sParcelsIn ["state"] aParcelsIn dParcelsIn
  aCheckState : Addr
  dCheckState : FuncData
  CheckState : Df K mg "check_state" sCheckState ["plan", "state"] aCheckState dCheckState
  aFits : Addr
  dFits : FuncData
  Fits : Df K mg "fits_plan" sFits ["plan", "carried", "shelves"] aFits dFits
  aTupOf : Addr
  dTupOf : FuncData
  TupOf : Df K mg "is_tuple_of" sTupOf ["row", "length"] aTupOf dTupOf
  aParcels : Addr
  dParcels : FuncData
  Parcels : Df K mg "are_parcels" sParcels ["parcels"] aParcels dParcels
  aCheckParcel : Addr
  dCheckParcel : FuncData
  CheckParcel : Df K mg "check_parcel" sCheckParcel ["parcels", "parcel"] aCheckParcel dCheckParcel
  aPlaceOfParcel : Addr
  dPlaceOfParcel : FuncData
  PlaceOfParcel : Df K mg "place_of_parcel" sPlaceOfParcel ["state", "parcel"] aPlaceOfParcel dPlaceOfParcel
  aStartOf : Addr
  dStartOf : FuncData
  StartOf : Df K mg "start_of_parcel" sStartOf ["plan", "state", "parcel"] aStartOf dStartOf
  aAdvance : Addr
  dAdvance : FuncData
  Advance : Df K mg "advance" sAdvance ["plan", "state", "count"] aAdvance dAdvance
  aLocate : Addr
  dLocate : FuncData
  Locate : Df K mg "locate" sLocate ["plan", "state", "parcel", "count"] aLocate dLocate
  aPeriod : Addr
  dPeriod : FuncData
  Period : Df K mg "period" sPeriod ["plan", "state"] aPeriod dPeriod
  aStopsJ : Addr
  dStopsJ : FuncData
  StopsJ : Df K mg "stops_of_journey" sStopsJ ["lap", "start"] aStopsJ dStopsJ
  aLeftsJ : Addr
  dLeftsJ : FuncData
  LeftsJ : Df K mg "lefts_of_journey" sLeftsJ ["lap", "start"] aLeftsJ dLeftsJ
  aCountIn : Addr
  dCountIn : FuncData
  CountIn : Df K mg "count_in_ticks" sCountIn ["row", "wanted", "count"] aCountIn dCountIn
  aTimesLeft : Addr
  dTimesLeft : FuncData
  TimesLeft : Df K mg "times_left" sTimesLeft ["plan", "state", "parcel", "shelf", "count"] aTimesLeft dTimesLeft
  aTicksCarried : Addr
  dTicksCarried : FuncData
  TicksCarried : Df K mg "ticks_carried" sTicksCarried ["plan", "state", "parcel", "carrier", "count"] aTicksCarried dTicksCarried
  aNthLeft : Addr
  dNthLeft : FuncData
  NthLeft : Df K mg "nth_left" sNthLeft ["plan", "state", "parcel", "shelf", "number"] aNthLeft dNthLeft
  aStampAt : Addr
  dStampAt : FuncData
  StampAt : Df K mg "stamp_at" sStampAt ["plan", "state", "parcel", "number"] aStampAt dStampAt
  aStampsJ : Addr
  dStampsJ : FuncData
  StampsJ : Df K mg "stamps_of_journey" sStampsJ ["plan", "state", "start"] aStampsJ dStampsJ
  aFollowsBy : Addr
  dFollowsBy : FuncData
  FollowsBy : Df K mg "follows_by" sFollowsBy ["plan", "state", "one", "other"] aFollowsBy dFollowsBy
  aFamilies : Addr
  dFamilies : FuncData
  Families : Df K mg "families" sFamilies ["plan", "state"] aFamilies dFamilies
  aFirstMeeting : Addr
  dFirstMeeting : FuncData
  FirstMeeting : Df K mg "first_meeting" sFirstMeeting ["plan", "state", "one", "other"] aFirstMeeting dFirstMeeting
  aMarks : Addr
  dMarks : FuncData
  Marks : Df K mg "marks_of_meetings" sMarks ["plan", "state", "one", "other"] aMarks dMarks
  aShelvesLap : Addr
  dShelvesLap : FuncData
  ShelvesLap : Df K mg "shelves_in_a_lap" sShelvesLap ["plan", "lap"] aShelvesLap dShelvesLap
  aMarksLap : Addr
  dMarksLap : FuncData
  MarksLap : Df K mg "marks_in_a_lap" sMarksLap ["row", "other"] aMarksLap dMarksLap
  aPairs : Addr
  dPairs : FuncData
  Pairs : Df K mg "pairs_before_laps" sPairs ["effect", "one", "other"] aPairs dPairs
  aLMix : Addr
  dLMix : FuncData
  LMix : Df K mg "_law_mix" sMix ["_law_script", "_law_seed"] aLMix dLMix
  aLNext : Addr
  dLNext : FuncData
  LNext : Df K mg "_law_next" sNext ["_law_h", "_law_limit"] aLNext dLNext
  aLAlike : Addr
  dLAlike : FuncData
  LAlike : Df K mg "_law_alike" sAlike ["_law_found", "_law_due"] aLAlike dLAlike
  aLOneRight : Addr
  dLOneRight : FuncData
  LOneRight : Df K mg "_law_one_right" sOneRight ["_law_h"] aLOneRight dLOneRight
  aLQueueRight : Addr
  dLQueueRight : FuncData
  LQueueRight : Df K mg "_law_queue_right" sQueueRight ["_law_h"] aLQueueRight dLQueueRight
  aLRoundRight : Addr
  dLRoundRight : FuncData
  LRoundRight : Df K mg "_law_round_right" sRoundRight ["_law_h"] aLRoundRight dLRoundRight
  aLaw : Addr
  dLaw : FuncData
  Law : Df K mg "law" sLaw ["_law_script"] aLaw dLaw
end Sv


set_option maxHeartbeats 4000000
namespace Sv
open PySem PySem.Spec PyProof.Rows L2
/-! ### plans as data -/
def eV : Option Int → V
  | none => .non
  | some i => .int i
def rV (r : Ro) : List V := r.map eV
theorem rV_len (r : Ro) : (rV r).length = r.length := by unfold rV; simp
theorem rV_get {r : Ro} {i : Nat} {e : Option Int} (h : r[i]? = some e) : (rV r)[i]? = some (eV e) := by
  unfold rV
  rw [List.getElem?_map, h]
  rfl
theorem rV_lt {r : Ro} {i : Nat} {x : V} (h : (rV r)[i]? = some x) : ∃ e, r[i]? = some e ∧ x = eV e := by
  unfold rV at h
  rw [List.getElem?_map] at h
  cases e : r[i]? with
  | none => rw [e] at h; cases h
  | some y =>
    rw [e] at h
    exact ⟨y, rfl, (Option.some.inj h).symm⟩
theorem iV_lt {zs : List Int} {i : Nat} {x : V} (h : (zs.map V.int)[i]? = some x) : ∃ z, zs[i]? = some z ∧ x = .int z := by
  rw [List.getElem?_map] at h
  cases e : zs[i]? with
  | none => rw [e] at h; cases h
  | some y =>
    rw [e] at h
    exact ⟨y, rfl, (Option.some.inj h).symm⟩
theorem refs_lt {qs : List Addr} {i : Nat} {x : V} (h : (qs.map V.ref)[i]? = some x) : ∃ q, qs[i]? = some q ∧ x = .ref q := by
  rw [List.getElem?_map] at h
  cases e : qs[i]? with
  | none => rw [e] at h; cases h
  | some y =>
    rw [e] at h
    exact ⟨y, rfl, (Option.some.inj h).symm⟩
structure RtAt (K : PySem.W.Frag) (H : Hp) (b : Addr) (rs : List Ro) : Prop where
  ex : ∃ qs : List Addr, SqT K H b (qs.map V.ref) ∧ Paired (fun q r => SqT K H q (rV r)) qs rs
theorem paired_same {K : PySem.W.Frag} {H H' : Hp} (e : Same H H') : ∀ {qs : List Addr} {rs : List Ro}, Paired (fun q r => SqT K H q (rV r)) qs rs → Paired (fun q r => SqT K H' q (rV r)) qs rs
  | _, _, .nil => .nil
  | _, _, .cons h t => .cons (sqT_same e h) (paired_same e t)
theorem paired_len {K : PySem.W.Frag} {H : Hp} : ∀ {qs : List Addr} {rs : List Ro}, Paired (fun q r => SqT K H q (rV r)) qs rs → qs.length = rs.length
  | _, _, .nil => rfl
  | _, _, .cons _ t => congrArg Nat.succ (paired_len t)
theorem paired_at {K : PySem.W.Frag} {H : Hp} : ∀ {qs : List Addr} {rs : List Ro} {i : Nat} {q : Addr}, Paired (fun q r => SqT K H q (rV r)) qs rs → qs[i]? = some q → ∃ r, rs[i]? = some r ∧ SqT K H q (rV r)
  | _, _, i, q, .nil, e => by simp at e
  | _, _, 0, q, .cons h t, e => by
    obtain rfl := Option.some.inj e
    exact ⟨_, rfl, h⟩
  | _, _, i + 1, q, .cons h t, e => paired_at (i := i) t (by simpa using e)
theorem RtAt.same {K : PySem.W.Frag} {H H' : Hp} {b : Addr} {rs : List Ro} (x : RtAt K H b rs) (e : Same H H') : RtAt K H' b rs := by
  obtain ⟨qs, h1, h2⟩ := x.ex
  exact ⟨qs, sqT_same e h1, paired_same e h2⟩
/-- a plan in its place -/
structure PlanAt (K : PySem.W.Frag) (H : Hp) (p : Addr) (zs : List Int) (rs : List Ro) : Prop where
  ex : ∃ a b : Addr, SqT K H p [.ref a, .ref b] ∧ SqT K H a (zs.map V.int) ∧ RtAt K H b rs
theorem PlanAt.same {K : PySem.W.Frag} {H H' : Hp} {p : Addr} {zs : List Int} {rs : List Ro} (x : PlanAt K H p zs rs) (e : Same H H') : PlanAt K H' p zs rs := by
  obtain ⟨a, b, h1, h2, h3⟩ := x.ex
  exact ⟨a, b, sqT_same e h1, sqT_same e h2, h3.same e⟩
/-! ### the program's checks -/
section
variable {P : Program} {w : World} {K : PySem.W.Frag} {mg : Str → Option Value} {base : Heap}
theorem scIsRoute : FnScope ["route", "shelves", "entry"] ["route", "shelves"] (defScope sIsRoute) := ⟨rfl, rfl, rfl, by decide +kernel, rfl, by decide +kernel, by decide +kernel⟩
def spIsRoute (K : PySem.W.Frag) : Sp := fun vs H Q _ => ∃ (q : Addr) (r : Ro) (n : Int), vs = [.ref q, .int n] ∧ SqT K H q (rV r) ∧ r.length ≤ 1000 ∧ Q (.bl (okR n r)) H
theorem okR_all {n : Int} {r : Ro} (h1 : 1 ≤ r.length ∧ r.length ≤ 6) (h : ∀ (j : Nat) (e : Option Int), r[j]? = some e → okE n e = true) : okR n r = true := by
  unfold okR
  rw [decide_eq_true h1, Bool.true_and]
  refine List.all_eq_true.mpr fun e he => ?_
  obtain ⟨j, hj⟩ := List.mem_iff_getElem?.mp he
  exact h j e hj
theorem okR_no {n : Int} {r : Ro} {j : Nat} {e : Option Int} (h : r[j]? = some e) (hb : okE n e = false) : okR n r = false := by
  unfold okR
  have : r.all (okE n) = false := by
    rw [List.all_eq_false]
    exact ⟨e, List.mem_of_getElem? h, by rw [hb]; decide⟩
  rw [this, Bool.and_false]
theorem ok_isRoute (T : Bd P K mg) : FnOk P w K mg base CX0 2 T.aIsRoute T.dIsRoute ["route", "shelves"] (spIsRoute K) := by
  have GW : FnOk P w K mg base CX0 1 T.aWithin T.dWithin ["number", "low", "high"] spWithin := ok_within T.Within.F T.bt.isinstance T.bt.bool T.bt.int
  obtain ⟨t4, h4⟩ := T.m4
  refine T.IsRoute.F.ok scIsRoute (fun vs H Q E h => ?_) (fun cdv A outer s H vs Q E hr h => ?_)
  · obtain ⟨q, r, n, rfl, _⟩ := h
    rfl
  · obtain ⟨q, r, n, rfl, hq, hl, hQ⟩ := h
    refine ⟨_, pss_cons (ps_if (pw_or (pt_not (pt_val (pe_callB call_isi (by rfl) T.bt.isinstance b_isinstance (pa_cons (pv 0) (pa_cons (pe_ty (by rfl) T.bt.tuple b_tuple) pa_nil)))))
        (pw_or1 (pt_not (pt_chain op_le op_le pe_int (pe_callB call_len_seq (by rfl) T.bt.len b_len (pa_cons (pv 0) pa_nil)) (pe_glob (v := .int 6) (by rfl) h4 ⟨_, rfl⟩))))).pt (pss_one (ps_ret pe_bl)) pss_nil)
      (pss_cons (ps_for PassesOwn.never rfl (pi_tup (pv 0)) (pg_name (i := 2) scIsRoute.nd rfl (Or.inl rfl))
        (pss_one (ps_if (pw_and (pt_cmpR op_notN (pv 2) pe_non (nomark _)) (pw_and1 (pt_not (pt_val (pe_call (E := E0) GW hr (by rfl) T.Within.g T.Within.F.kp T.Within.b .nil pass0 (pa_cons (pv 2) (pa_cons pe_int (pa_cons (pe_op op_sub (pv 1) pe_int) pa_nil)))))))).pt (pss_one (ps_ret pe_bl)) pss_nil)))
      (pss_one (ps_ret pe_bl))), ?_⟩
    refine ⟨.ref q, rfl, .ref q, .ty "tuple", _, _, true, rfl, .ty "tuple", tyx_tup hq, kit_ty (by decide +kernel), true, rfl, iteF ?_⟩
    refine ⟨.ref q, rfl, q, rV r, rfl, .inr hq, 1, _, rfl, rfl, _, rfl, ?_⟩
    rw [rV_len]
    have no : ∀ b, okR n r = b → b = false → Q (.bl false) H := fun b e1 e2 => by
      rw [e1, e2] at hQ
      exact hQ
    by_cases h1 : (1 : Int) ≤ (r.length : Nat)
    · rw [decide_eq_true h1]
      refine iteT ⟨_, _, rfl, rfl, _, rfl, ?_⟩
      by_cases h2 : ((r.length : Nat) : Int) ≤ 6
      · rw [decide_eq_true h2]
        refine iteF ?_
        have hlen : 1 ≤ r.length ∧ r.length ≤ 6 := ⟨by omega, by omega⟩
        refine ⟨.ref q, rfl, q, rfl, ⟨_, hq⟩, for_tup (xs := rV r) (fun i σ H' => (∃ y, σ = [some (.ref q), some (.int n), y]) ∧ H' = H ∧ ∀ j e, j < i → r[j]? = some e → okE n e = true) ⟨⟨none, rfl⟩, rfl, fun j e hj => by omega⟩ (fun i σ H' _ h => by rw [h.2.1]; exact hq)
          (fun i x σ H' hx ⟨⟨y, es⟩, eH, hok⟩ => ?_) (fun σ H' ⟨⟨y, es⟩, eH, hok⟩ => ?_)⟩
        · subst es
          subst eH
          obtain ⟨e, he, rfl⟩ := rV_lt hx
          have more : okE n e = true → ∀ j e', j < i + 1 → r[j]? = some e' → okE n e' = true := fun h j e' hj hh => by
            by_cases hji : j = i
            · rw [hji, he] at hh
              rw [← Option.some.inj hh]
              exact h
            · exact hok j e' (by omega) hh
          cases e with
          | none =>
            refine ⟨.non, rfl, rfl, false, rfl, iteF (iteF ⟨⟨_, rfl⟩, rfl, more rfl⟩)⟩
          | some z =>
            refine ⟨.int z, rfl, rfl, true, rfl, iteT ⟨.int z, rfl, .int n, rfl, n, 1, rfl, rfl, z, 0, n - 1, rfl, _, rfl, ?_⟩⟩
            by_cases hz : 0 ≤ z ∧ z ≤ n - 1
            · rw [decide_eq_true hz]
              exact iteF ⟨⟨_, rfl⟩, rfl, more (decide_eq_true hz)⟩
            · rw [decide_eq_false hz]
              exact iteT (no _ (okR_no he (decide_eq_false hz)) rfl)
        · subst es
          subst eH
          rw [rV_len] at hok
          have : okR n r = true := okR_all hlen fun j e he => hok j e (List.getElem?_eq_some_iff.mp he).1 he
          rw [this] at hQ
          exact hQ
      · rw [decide_eq_false h2]
        refine iteT (no _ ?_ rfl)
        unfold okR
        rw [decide_eq_false (fun z => h2 (by omega)), Bool.false_and]
    · rw [decide_eq_false h1]
      refine iteF ⟨false, rfl, iteT (no _ ?_ rfl)⟩
      unfold okR
      rw [decide_eq_false (fun z => h1 (by omega)), Bool.false_and]
end
end Sv


set_option maxHeartbeats 4000000
namespace Sv
open PySem PySem.Spec PyProof.Rows L2
section
variable {P : Program} {w : World} {K : PySem.W.Frag} {mg : Str → Option Value} {base : Heap}
theorem scCheckSizes : FnScope ["sizes", "index", "size"] ["sizes"] (defScope sCheckSizes) := ⟨rfl, rfl, rfl, by decide +kernel, rfl, by decide +kernel, by decide +kernel⟩
theorem scCheckRoutes : FnScope ["routes", "shelves", "index", "route"] ["routes", "shelves"] (defScope sCheckRoutes) := ⟨rfl, rfl, rfl, by decide +kernel, rfl, by decide +kernel, by decide +kernel⟩
theorem scCheckPlan : FnScope ["plan", "sizes", "routes"] ["plan"] (defScope sCheckPlan) := ⟨rfl, rfl, rfl, by decide +kernel, rfl, by decide +kernel, by decide +kernel⟩
theorem small_idx {i : Nat} (h : i ≤ 1000) : ((i : Nat) : Int).natAbs < 2 ^ 100 := Nat.lt_of_le_of_lt (by omega : ((i : Nat) : Int).natAbs ≤ 1000) (by decide)
def spCheckSizes (K : PySem.W.Frag) (C : Addr) : Sp := fun vs H Q E => ∃ (a : Addr) (zs : List Int), vs = [.ref a] ∧ SqT K H a (zs.map V.int) ∧ zs.length ≤ 1000 ∧ (badS zs = none → ∀ H', Same H H' → Q .non H') ∧ (∀ i, badS zs = some i → PlanE C H "sizes" i E)
theorem ok_checkSizes (T : Bd P K mg) : FnOk P w K mg base (L2.CX P w) 3 T.aCheckSizes T.dCheckSizes ["sizes"] (spCheckSizes K T.C) := by
  have GW : FnOk P w K mg base CX0 1 T.aWithin T.dWithin ["number", "low", "high"] spWithin := ok_within T.Within.F T.bt.isinstance T.bt.bool T.bt.int
  obtain ⟨t1, h1⟩ := T.m1
  obtain ⟨t2, h2⟩ := T.m2
  refine T.CheckSizes.F.okX scCheckSizes (fun vs H Q E h => ?_) (fun cdv A outer s H vs Q E hr h => ?_)
  · obtain ⟨a, zs, rfl, _⟩ := h
    rfl
  · obtain ⟨a, zs, rfl, hA, hl, q1, q2⟩ := h
    refine ⟨_, pss_cons (ps_if (pt_not (pt_chain op_le op_le pe_int (pe_callB call_len_seq (by rfl) T.bt.len b_len (pa_cons (pv 0) pa_nil)) (pe_glob (v := .int 12) (by rfl) h1 ⟨_, rfl⟩)))
        (pss_one (ps_raise rfl (takes_of rfl rfl rfl rfl) (pmk_plan T.pl hr (by rfl) pe_str (pe_un un_neg pe_int)))) pss_nil)
      (pss_one (ps_for (passes_of rfl) rfl (pi_enumT (by rfl) T.bt.enumerate (pa_cons (pv 0) pa_nil)) (pg_tup rfl (pgs_cons (pg_name (i := 1) scCheckSizes.nd rfl (.inl rfl)) (pgs_cons (pg_name (i := 2) scCheckSizes.nd rfl (.inl rfl)) pgs_nil)))
        (pss_one (ps_if (pt_not (pt_val (pe_call (E := E0) GW (hr.mono (by decide)) (by rfl) T.Within.g T.Within.F.kp T.Within.b .nil pass0 (pa_cons (pv 2) (pa_cons pe_int (pa_cons (pe_glob (v := .int 9) (by rfl) h2 ⟨_, rfl⟩) pa_nil))))))
          (pss_one (ps_raise rfl (takes_of rfl rfl rfl rfl) (pmk_plan T.pl hr (by rfl) pe_str (pv 1)))) pss_nil)))), ?_⟩
    have big : (-1 : Int).natAbs < 2 ^ 100 := by decide
    have lw : ("sizes" : Str).length ≤ 1000 := by decide
    have no : ¬ (1 ≤ zs.length ∧ zs.length ≤ 12) → PlanE T.C H "sizes" (-1) E := fun hz => q2 (-1) (by unfold badS; rw [if_neg hz])
    refine ⟨.ref a, rfl, a, _, rfl, .inr hA, 1, _, rfl, rfl, _, rfl, ?_⟩
    rw [List.length_map]
    by_cases c1 : (1 : Int) ≤ (zs.length : Nat)
    · rw [decide_eq_true c1]
      refine iteT ⟨_, _, rfl, rfl, _, rfl, ?_⟩
      by_cases c2 : ((zs.length : Nat) : Int) ≤ 12
      · rw [decide_eq_true c2]
        have hz : 1 ≤ zs.length ∧ zs.length ≤ 12 := ⟨by omega, by omega⟩
        have eb : badS zs = (fst okZ zs 0).map fun (k : Nat) => (k : Int) := by unfold badS; rw [if_pos hz]
        refine iteF ⟨.ref a, rfl, a, _, rfl, hA, for_enumT (xs := zs.map V.int) (fun i σ H' => (∃ y1 y2, σ = [some (.ref a), y1, y2]) ∧ Same H H' ∧ ∀ (j : Nat) (z : Int), j < i → zs[j]? = some z → okZ z = true) ⟨⟨none, none, rfl⟩, fun _ _ h => h, fun j z hj => by omega⟩
          (fun i σ H' _ h => sqT_same h.2.1 hA) (fun i x σ H' U hx ⟨⟨y1, y2, es⟩, sm, hok⟩ hU => ?_) (fun σ H' ⟨_, sm, hok⟩ => ?_)⟩
        · subst es
          obtain ⟨z, hz1, rfl⟩ := iV_lt hx
          have sm2 : Same H (upd H' U (.tup [.int (i : Nat), .int z])) := same_of sm (Same.free sm hU)
          refine ⟨U, [.int (i : Nat), .int z], rfl, .inl (.inl upd_same), rfl, _, _, rfl, _, _, rfl, rfl, ?_⟩
          refine ⟨.int z, rfl, z, 0, 9, rfl, _, rfl, ?_⟩
          by_cases hzz : 0 ≤ z ∧ z ≤ 9
          · rw [decide_eq_true hzz]
            refine iteF ⟨⟨_, _, rfl⟩, sm2, fun j z' hj hz' => ?_⟩
            by_cases hji : j = i
            · rw [hji, hz1] at hz'
              rw [← Option.some.inj hz']
              exact decide_eq_true hzz
            · exact hok j z' (by omega) hz'
          · rw [decide_eq_false hzz]
            have il : i < zs.length := (List.getElem?_eq_some_iff.mp hz1).1
            refine iteT ⟨.int (i : Nat), rfl, mk_go lw (small_idx (by omega)) ((q2 i ?_).imp sm2)⟩
            rw [eb, fst_some (i := i) (x := z) hok hz1 (decide_eq_false hzz)]
            rfl
        · rw [List.length_map] at hok
          refine q1 ?_ H' sm
          rw [eb, fst_none fun j z hz' => hok j z (List.getElem?_eq_some_iff.mp hz').1 hz']
          rfl
      · rw [decide_eq_false c2]
        exact iteT ⟨1, rfl, mk_go lw big (no fun z => c2 (by omega))⟩
    · rw [decide_eq_false c1]
      exact iteF ⟨false, rfl, iteT ⟨1, rfl, mk_go lw big (no fun z => c1 (by omega))⟩⟩
def spCheckRoutes (K : PySem.W.Frag) (C : Addr) : Sp := fun vs H Q E => ∃ (b : Addr) (rs : List Ro) (n : Int), vs = [.ref b, .int n] ∧ RtAt K H b rs ∧ rs.length ≤ 1000 ∧ (∀ r ∈ rs, r.length ≤ 1000) ∧ (badR n rs = none → ∀ H', Same H H' → Q .non H') ∧ (∀ i, badR n rs = some i → PlanE C H "routes" i E)
theorem ok_checkRoutes (T : Bd P K mg) : FnOk P w K mg base (L2.CX P w) 3 T.aCheckRoutes T.dCheckRoutes ["routes", "shelves"] (spCheckRoutes K T.C) := by
  have GT : FnOk P w K mg base CX0 2 T.aIsRoute T.dIsRoute ["route", "shelves"] (spIsRoute K) := ok_isRoute T
  obtain ⟨t3, h3⟩ := T.m3
  refine T.CheckRoutes.F.okX scCheckRoutes (fun vs H Q E h => ?_) (fun cdv A outer s H vs Q E hr h => ?_)
  · obtain ⟨b, rs, n, rfl, _⟩ := h
    rfl
  · obtain ⟨b, rs, n, rfl, hB, hl, hrl, q1, q2⟩ := h
    obtain ⟨qs, hA, hP⟩ := hB.ex
    have hql := paired_len hP
    refine ⟨_, pss_cons (ps_if (pt_not (pt_chain op_le op_le pe_int (pe_callB call_len_seq (by rfl) T.bt.len b_len (pa_cons (pv 0) pa_nil)) (pe_glob (v := .int 6) (by rfl) h3 ⟨_, rfl⟩)))
        (pss_one (ps_raise rfl (takes_of rfl rfl rfl rfl) (pmk_plan T.pl hr (by rfl) pe_str (pe_un un_neg pe_int)))) pss_nil)
      (pss_one (ps_for (passes_of rfl) rfl (pi_enumT (by rfl) T.bt.enumerate (pa_cons (pv 0) pa_nil)) (pg_tup rfl (pgs_cons (pg_name (i := 2) scCheckRoutes.nd rfl (.inl rfl)) (pgs_cons (pg_name (i := 3) scCheckRoutes.nd rfl (.inl rfl)) pgs_nil)))
        (pss_one (ps_if (pt_not (pt_val (pe_call (E := E0) GT hr (by rfl) T.IsRoute.g T.IsRoute.F.kp T.IsRoute.b .nil pass0 (pa_cons (pv 3) (pa_cons (pv 1) pa_nil)))))
          (pss_one (ps_raise rfl (takes_of rfl rfl rfl rfl) (pmk_plan T.pl hr (by rfl) pe_str (pv 2)))) pss_nil)))), ?_⟩
    have big : (-1 : Int).natAbs < 2 ^ 100 := by decide
    have lw : ("routes" : Str).length ≤ 1000 := by decide
    have no : ¬ (1 ≤ rs.length ∧ rs.length ≤ 6) → PlanE T.C H "routes" (-1) E := fun hz => q2 (-1) (by unfold badR; rw [if_neg hz])
    refine ⟨.ref b, rfl, b, _, rfl, .inr hA, 1, _, rfl, rfl, _, rfl, ?_⟩
    rw [List.length_map, hql]
    by_cases c1 : (1 : Int) ≤ (rs.length : Nat)
    · rw [decide_eq_true c1]
      refine iteT ⟨_, _, rfl, rfl, _, rfl, ?_⟩
      by_cases c2 : ((rs.length : Nat) : Int) ≤ 6
      · rw [decide_eq_true c2]
        have hz : 1 ≤ rs.length ∧ rs.length ≤ 6 := ⟨by omega, by omega⟩
        have eb : badR n rs = (fst (okR n) rs 0).map fun (k : Nat) => (k : Int) := by unfold badR; rw [if_pos hz]
        refine iteF ⟨.ref b, rfl, b, _, rfl, hA, for_enumT (xs := qs.map V.ref) (fun i σ H' => (∃ y1 y2, σ = [some (.ref b), some (.int n), y1, y2]) ∧ Same H H' ∧ ∀ (j : Nat) (r : Ro), j < i → rs[j]? = some r → okR n r = true) ⟨⟨none, none, rfl⟩, fun _ _ h => h, fun j z hj => by omega⟩
          (fun i σ H' _ h => sqT_same h.2.1 hA) (fun i x σ H' U hx ⟨⟨y1, y2, es⟩, sm, hok⟩ hU => ?_) (fun σ H' ⟨_, sm, hok⟩ => ?_)⟩
        · subst es
          obtain ⟨qa, hqa, rfl⟩ := refs_lt hx
          obtain ⟨r, hr1, hqr⟩ := paired_at hP hqa
          have sm2 : Same H (upd H' U (.tup [.int (i : Nat), .ref qa])) := same_of sm (Same.free sm hU)
          refine ⟨U, [.int (i : Nat), .ref qa], rfl, .inl (.inl upd_same), rfl, _, _, rfl, _, _, rfl, rfl, ?_⟩
          refine ⟨.ref qa, rfl, .int n, rfl, qa, r, n, rfl, sqT_same sm2 hqr, hrl r (List.mem_of_getElem? hr1), _, rfl, ?_⟩
          by_cases hzz : okR n r = true
          · rw [hzz]
            refine iteF ⟨⟨_, _, rfl⟩, sm2, fun j z' hj hz' => ?_⟩
            by_cases hji : j = i
            · rw [hji, hr1] at hz'
              rw [← Option.some.inj hz']
              exact hzz
            · exact hok j z' (by omega) hz'
          · have hzf : okR n r = false := by simpa using hzz
            rw [hzf]
            have il : i < rs.length := (List.getElem?_eq_some_iff.mp hr1).1
            refine iteT ⟨.int (i : Nat), rfl, mk_go lw (small_idx (by omega)) ((q2 i ?_).imp sm2)⟩
            rw [eb, fst_some (i := i) (x := r) hok hr1 hzf]
            rfl
        · rw [List.length_map, hql] at hok
          refine q1 ?_ H' sm
          rw [eb, fst_none fun j z hz' => hok j z (List.getElem?_eq_some_iff.mp hz').1 hz']
          rfl
      · rw [decide_eq_false c2]
        exact iteT ⟨1, rfl, mk_go lw big (no fun z => c2 (by omega))⟩
    · rw [decide_eq_false c1]
      exact iteF ⟨false, rfl, iteT ⟨1, rfl, mk_go lw big (no fun z => c1 (by omega))⟩⟩
def spCheckPlan (K : PySem.W.Frag) (C : Addr) : Sp := fun vs H Q E => ∃ (p : Addr) (zs : List Int) (rs : List Ro), vs = [.ref p] ∧ PlanAt K H p zs rs ∧ Small zs rs ∧ (bad zs rs = none → ∀ H', Same H H' → Q .non H') ∧ (∀ part i, bad zs rs = some (part, i) → PlanE C H part i E)
theorem ok_checkPlan (T : Bd P K mg) : FnOk P w K mg base (L2.CX P w) 4 T.aCheckPlan T.dCheckPlan ["plan"] (spCheckPlan K T.C) := by
  have GS : FnOk P w K mg base (L2.CX P w) 3 T.aCheckSizes T.dCheckSizes ["sizes"] (spCheckSizes K T.C) := ok_checkSizes T
  have GR : FnOk P w K mg base (L2.CX P w) 3 T.aCheckRoutes T.dCheckRoutes ["routes", "shelves"] (spCheckRoutes K T.C) := ok_checkRoutes T
  refine T.CheckPlan.F.okX scCheckPlan (fun vs H Q E h => ?_) (fun cdv A outer s H vs Q E hr h => ?_)
  · obtain ⟨p, zs, rs, rfl, _⟩ := h
    rfl
  · obtain ⟨p, zs, rs, rfl, hp, ⟨l1, l2, l3⟩, q1, q2⟩ := h
    obtain ⟨a, b, hp1, ha, hb⟩ := hp.ex
    refine ⟨_, pss_cons (ps_asg (pv 0) (pg_tup rfl (pgs_cons (pg_name (i := 1) scCheckPlan.nd rfl (.inl rfl)) (pgs_cons (pg_name (i := 2) scCheckPlan.nd rfl (.inl rfl)) pgs_nil))))
      (pss_cons (ps_expr (pe_call (E := E) GS hr (by rfl) T.CheckSizes.g T.CheckSizes.F.kp T.CheckSizes.b .nil (passes_call (takes_of rfl rfl rfl rfl) fun _ _ _ _ h => h) (pa_cons (pv 1) pa_nil)))
      (pss_one (ps_expr (pe_call (E := E) GR hr (by rfl) T.CheckRoutes.g T.CheckRoutes.F.kp T.CheckRoutes.b .nil (passes_call (takes_of rfl rfl rfl rfl) fun _ _ _ _ h => h) (pa_cons (pv 2) (pa_cons (pe_callB call_len_seq (by rfl) T.bt.len b_len (pa_cons (pv 1) pa_nil)) pa_nil)))))), ?_⟩
    refine ⟨.ref p, rfl, p, [.ref a, .ref b], rfl, hp1, rfl, _, _, rfl, _, _, rfl, rfl, ?_⟩
    refine ⟨.ref a, rfl, a, zs, rfl, ha, l1, fun e1 H1 sm1 => ?_, fun i e1 => q2 _ i ?_⟩
    · refine ⟨.ref b, rfl, .ref a, rfl, a, _, rfl, .inr (sqT_same sm1 ha), b, rs, _, rfl, hb.same sm1, l2, l3, fun e2 H2 sm2 => q1 ?_ H2 (sm1.trans sm2), fun i e2 => (q2 "routes" i ?_).imp sm1⟩
      · unfold bad
        rw [e1]
        rw [List.length_map] at e2
        simp only [e2, Option.map_none]
      · unfold bad
        rw [e1]
        rw [List.length_map] at e2
        simp only [e2, Option.map_some]
    · unfold bad
      rw [e1]
end
end Sv


set_option maxHeartbeats 4000000
namespace Sv
open PySem PySem.Spec PyProof.Rows L2
/-! ### new lists of new tuples -/
abbrev TupsV (H : Hp) (ps : List Addr) (ts : List (List V)) : Prop := Paired (fun p t => H p = some (.tup t)) ps ts
theorem tupsV_imp {H H' : Hp} (e : ∀ b xs, H b = some (.tup xs) → H' b = some (.tup xs)) : ∀ {ps : List Addr} {ts : List (List V)}, TupsV H ps ts → TupsV H' ps ts
  | _, _, .nil => .nil
  | _, _, .cons h t => .cons (e _ _ h) (tupsV_imp e t)
theorem tupsV_same {H H' : Hp} (e : Same H H') {ps : List Addr} {ts : List (List V)} (h : TupsV H ps ts) : TupsV H' ps ts := tupsV_imp (fun b xs q => e _ _ q) h
theorem tupsV_len {H : Hp} : ∀ {ps : List Addr} {ts : List (List V)}, TupsV H ps ts → ps.length = ts.length
  | _, _, .nil => rfl
  | _, _, .cons _ t => congrArg Nat.succ (tupsV_len t)
theorem tupsV_app {H : Hp} : ∀ {ps qs : List Addr} {ts us : List (List V)}, TupsV H ps ts → TupsV H qs us → TupsV H (ps ++ qs) (ts ++ us)
  | _, _, _, _, .nil, h => h
  | _, _, _, _, .cons h t, h2 => .cons h (tupsV_app t h2)
theorem tupsV_snoc {H : Hp} {p : Addr} {t : List V} {ps : List Addr} {ts : List (List V)} (h : TupsV H ps ts) (hp : H p = some (.tup t)) : TupsV H (ps ++ [p]) (ts ++ [t]) := tupsV_app h (.cons hp .nil)
/-- at f a list of new tuples -/
structure TL (H : Hp) (f : Addr) (ts : List (List V)) : Prop where
  ex : ∃ ps : List Addr, H f = some (.lst (ps.map V.ref)) ∧ TupsV H ps ts
theorem TL.same {H H' : Hp} {f : Addr} {ts : List (List V)} (x : TL H f ts) (e : Same H H') : TL H' f ts := by
  obtain ⟨ps, h1, h2⟩ := x.ex
  exact ⟨ps, e _ _ h1, tupsV_same e h2⟩
/-- one more behind -/
theorem TL.push {H : Hp} {f p : Addr} {ts : List (List V)} {t : List V} {xs : List V} (x : TL H f ts) (hf : H f = some (.lst xs)) (hp : H p = some (.tup t)) : TL (upd H f (.lst (xs ++ [.ref p]))) f (ts ++ [t]) := by
  obtain ⟨ps, h1, h2⟩ := x.ex
  rw [hf] at h1
  obtain rfl := HO.lst.inj (Option.some.inj h1)
  refine ⟨ps ++ [p], by rw [upd_same, List.map_append]; rfl, tupsV_imp (fun b xs q => ?_) (tupsV_snoc h2 hp)⟩
  rw [upd_ne (fun z => by rw [z, hf] at q; cases q)]
  exact q
def NewTL (H : Hp) (ts : List (List V)) (Q : VK) : Prop := ∀ H' f, Same H H' → H f = none → TL H' f ts → Q (.ref f) H'
/-! ### who meets whom -/
def pairV (c : Nat) (z : Int) : List V := [.int (c : Nat), .int z]
/-- the pairs of the first k carriers -/
def meetN (rs : List Ro) (m : Int) : Nat → List (List V)
  | 0 => []
  | k + 1 => meetN rs m k ++ (match rs[k]? with | some r => (match ent r m with | some z => [pairV k z] | none => []) | none => [])
def meets (rs : List Ro) (m : Int) : List (List V) := meetN rs m rs.length
theorem meetN_none {rs : List Ro} {m : Int} {k : Nat} {r : Ro} (h : rs[k]? = some r) (e : ent r m = none) : meetN rs m (k + 1) = meetN rs m k := by
  conv => lhs; unfold meetN
  rw [h]
  simp only [e, List.append_nil]
theorem meetN_some {rs : List Ro} {m : Int} {k : Nat} {r : Ro} {z : Int} (h : rs[k]? = some r) (e : ent r m = some z) : meetN rs m (k + 1) = meetN rs m k ++ [pairV k z] := by
  conv => lhs; unfold meetN
  rw [h]
  simp only [e]
theorem meetN_len (rs : List Ro) (m : Int) : ∀ k, (meetN rs m k).length ≤ k
  | 0 => Nat.le_refl _
  | k + 1 => by
    unfold meetN
    rw [List.length_append]
    have := meetN_len rs m k
    split
    · split
      · simp; omega
      · simp; omega
    · simp; omega
section
variable {P : Program} {w : World} {K : PySem.W.Frag} {mg : Str → Option Value} {base : Heap}
theorem scVisitsIn : FnScope ["routes", "number", "found", "carrier", "route", "shelf"] ["routes", "number"] (defScope sVisitsIn) := ⟨rfl, rfl, rfl, by decide +kernel, rfl, by decide +kernel, by decide +kernel⟩
def spVisitsIn (K : PySem.W.Frag) : Sp := fun vs H Q _ => ∃ (b : Addr) (rs : List Ro) (n : Int), vs = [.ref b, .int n] ∧ RtAt K H b rs ∧ rs.length ≤ 1000 ∧ (∀ r ∈ rs, r ≠ [] ∧ r.length ≤ 1000) ∧ NewTL H (meets rs (n - 1)) Q
theorem ok_visitsIn {f : Addr} {fd : FuncData} (F : Df K mg "visits_in_tick" sVisitsIn ["routes", "number"] f fd) (B : Bt mg) : FnOk P w K mg base CX0 1 f fd ["routes", "number"] (spVisitsIn K) := by
  refine F.F.ok scVisitsIn (fun vs H Q E h => ?_) (fun cdv A outer s H vs Q E hr h => ?_)
  · obtain ⟨b, rs, n, rfl, _⟩ := h
    rfl
  · obtain ⟨b, rs, n, rfl, hB, hl, hrs, q⟩ := h
    obtain ⟨qs, hA, hP⟩ := hB.ex
    have hql := paired_len hP
    refine ⟨_, pss_cons (ps_set (i := 2) scVisitsIn.nd rfl (Or.inl rfl) (pe_lst pa_nil))
      (pss_cons (ps_for PassesOwn.never rfl (pi_enumT (by rfl) B.enumerate (pa_cons (pv 0) pa_nil)) (pg_tup rfl (pgs_cons (pg_name (i := 3) scVisitsIn.nd rfl (.inl rfl)) (pgs_cons (pg_name (i := 4) scVisitsIn.nd rfl (.inl rfl)) pgs_nil)))
        (pss_cons (ps_set (i := 5) scVisitsIn.nd rfl (Or.inl rfl) (pe_ix ix_tup (pv 4) (pe_op op_mod (pe_op op_sub (pv 1) pe_int) (pe_callB call_len_seq (by rfl) B.len b_len (pa_cons (pv 4) pa_nil))) (fun _ _ => rfl)))
        (pss_one (ps_if (pt_cmpR op_notN (pv 5) pe_non (nomark _)) (pss_one (ps_expr (pe_bm PySem.F.plainAttrs_list PySem.F.slot_list_append PySem.F.type_list_append mt_append (pv 2) (pa_cons (pe_tup (pa_cons (pv 3) (pa_cons (pv 5) pa_nil))) pa_nil)))) pss_nil))))
      (pss_one (ps_ret (pv 2)))), ?_⟩
    refine ⟨Nat.zero_le _, fun f hf => ?_⟩
    have sm0 : Same H (upd H f (.lst [])) := same_upd hf
    refine ⟨.ref b, rfl, b, _, rfl, sqT_same sm0 hA, for_enumT (xs := qs.map V.ref) (fun i σ H' => (∃ y3 y4 y5, σ = [some (.ref b), some (.int n), some (.ref f), y3, y4, y5]) ∧ Same H H' ∧ TL H' f (meetN rs (n - 1) i)) ⟨⟨none, none, none, rfl⟩, sm0, [], upd_same, .nil⟩
      (fun i σ H' _ h => sqT_same h.2.1 hA) (fun i x σ H' U hx ⟨⟨y3, y4, y5, es⟩, sm, tl⟩ hU => ?_) (fun σ H' ⟨⟨y3, y4, y5, es⟩, sm, tl⟩ => ?_)⟩
    · subst es
      obtain ⟨qa, hqa, rfl⟩ := refs_lt hx
      obtain ⟨r, hr1, hqr⟩ := paired_at hP hqa
      have il : i < rs.length := (List.getElem?_eq_some_iff.mp hr1).1
      obtain ⟨rne, rl⟩ := hrs r (List.mem_of_getElem? hr1)
      obtain ⟨eg, em⟩ := ent_get rne (n - 1)
      have hrl : 0 < r.length := List.length_pos_iff.mpr rne
      have sm2 : Same H (upd H' U (.tup [.int (i : Nat), .ref qa])) := same_of sm (Same.free sm hU)
      have tl2 := tl.same (same_upd (o := .tup [.int (i : Nat), .ref qa]) hU)
      refine ⟨U, [.int (i : Nat), .ref qa], rfl, .inl (.inl upd_same), rfl, _, _, rfl, _, _, rfl, rfl, ?_⟩
      generalize upd H' U (.tup [.int (i : Nat), .ref qa]) = H2 at sm2 tl2 ⊢
      have hq2 := sqT_same sm2 hqr
      obtain ⟨ps, hff, htv⟩ := tl2.ex
      have pl : ps.length ≤ i := by rw [tupsV_len htv]; exact meetN_len _ _ _
      have eg2 : (rV r)[((n - 1) % (r.length : Int)).toNat]? = some (eV (ent r (n - 1))) := rV_get eg
      have hmod : (n - 1) % (((rV r).length : Nat) : Int) = (((n - 1) % (r.length : Int)).toNat : Nat) := by rw [rV_len]; exact em
      have hpos : (0 : Int) < (((rV r).length : Nat) : Int) := by rw [rV_len]; omega
      refine ⟨.ref qa, rfl, .int n, rfl, n, 1, rfl, rfl, .ref qa, rfl, qa, rV r, rfl, .inr hq2, n - 1, _, rfl, rfl, hpos, qa, rV r, _, eV (ent r (n - 1)), rfl, rfl, hq2, ?_, ?_⟩
      · show atI (rV r) ((n - 1) % (((rV r).length : Nat) : Int)) = _
        rw [hmod]
        exact atI_nat eg2
      cases he : ent r (n - 1) with
      | none =>
        refine ⟨.non, rfl, rfl, false, rfl, iteF ⟨⟨_, _, _, rfl⟩, sm2, ?_⟩⟩
        rw [meetN_none hr1 he]
        exact tl2
      | some z =>
        refine ⟨.int z, rfl, rfl, true, rfl, iteT ⟨.ref f, rfl, .inl ⟨rfl, _, .inl (.inl hff)⟩, .int (i : Nat), rfl, .int z, rfl, (by show 2 ≤ sizeLine; decide), fun p hp => ?_⟩⟩
        have fp : f ≠ p := ne_of_none hff hp
        have hf2 : (upd H2 p (.tup [.int (i : Nat), .int z])) f = some (.lst (ps.map V.ref)) := by rw [upd_ne fp]; exact hff
        refine ⟨f, _, _, rfl, rfl, hf2, ?_, ⟨_, _, _, rfl⟩, same_of (same_of sm2 (Same.free sm2 hp)) hf, ?_⟩
        · rw [List.length_map]
          exact small1000 (by omega)
        · rw [meetN_some hr1 he]
          exact (tl2.same (same_upd hp)).push hf2 upd_same
    · subst es
      rw [List.length_map, hql] at tl
      exact ⟨.ref f, rfl, q H' f sm hf tl⟩
end
end Sv


set_option maxHeartbeats 4000000
namespace Sv
open PySem PySem.Spec PyProof.Rows L2
/-- a test's reading, made to hold of more -/
def tMoT (t : TT) : TT := fun σ H Q => ∃ Q0 : Bool → Hp → Prop, t σ H Q0 ∧ ∀ b H1, Q0 b H1 → Q b H1
theorem pt_mo {X : Cx} {e : Expr} {t : TT} (h : PT X e t) : PT X e (tMoT t) := by
  refine ⟨fun pins s σ H Q I ⟨Q0, h0, h1⟩ => thn (h.run pins s σ H Q0 I h0) fun b s1 hb => ?_⟩
  obtain ⟨H1, J, q⟩ := hb
  exact ⟨H1, J, h1 _ _ q⟩
theorem mo_mono {t : TT} : ∀ (σ : L2.St) (H : Hp) (Q Q' : Bool → Hp → Prop), (∀ b H1, Q b H1 → Q' b H1) → tMoT t σ H Q → tMoT t σ H Q' := fun σ H Q Q' hq ⟨Q0, h0, h1⟩ => ⟨Q0, h0, fun b H1 q => hq _ _ (h1 _ _ q)⟩
theorem mo_go {t : TT} {σ : L2.St} {H : Hp} {Q : Bool → Hp → Prop} (h : t σ H Q) : tMoT t σ H Q := ⟨Q, h, fun _ _ q => q⟩
/-! ### data -/
def dE : Option Int → PyData
  | none => .none
  | some i => .int i
def dRs (r : Ro) : List PyData := r.map dE
def dR (r : Ro) : PyData := .tuple (dRs r)
theorem dp_eV {K : PySem.W.Frag} {H : Hp} : ∀ e : Option Int, Dp K H (eV e) (dE e)
  | none => .non
  | some i => .int i
theorem dpAll_rV {K : PySem.W.Frag} {H : Hp} : ∀ r : Ro, DpAll K H (rV r) (dRs r)
  | [] => .nil
  | e :: r => .cons (dp_eV e) (dpAll_rV r)
theorem dp_rV {K : PySem.W.Frag} {H : Hp} {a : Addr} {r : Ro} (h : SqT K H a (rV r)) : Dp K H (.ref a) (dR r) := .tup h (dpAll_rV r)
theorem eqv_dE : ∀ a b : Option Int, PyData.eqv (dE a) (dE b) = decide (a = b)
  | none, none => by show PyData.eqv .none .none = _; rw [PyData.eqv]; rfl
  | none, some j => by show PyData.eqv .none (.int j) = _; rw [PyData.eqv]; rfl
  | some i, none => by show PyData.eqv (.int i) .none = _; rw [PyData.eqv]; rfl
  | some i, some j => by
    show PyData.eqv (.int i) (.int j) = _
    rw [PyData.eqv]
    by_cases h : i = j
    · subst h
      simp
    · rw [decide_eq_false (fun z => h (Option.some.inj z))]
      simpa using h
theorem eqv_dRs : ∀ a b : Ro, PyData.eqvAll (dRs a) (dRs b) = decide (a = b)
  | [], [] => by show PyData.eqvAll [] [] = _; rw [PyData.eqvAll]; rfl
  | [], y :: b => by show PyData.eqvAll [] (dE y :: dRs b) = _; rw [PyData.eqvAll]; rfl
  | x :: a, [] => by show PyData.eqvAll (dE x :: dRs a) [] = _; rw [PyData.eqvAll]; rfl
  | x :: a, y :: b => by
    show PyData.eqvAll (dE x :: dRs a) (dE y :: dRs b) = _
    rw [PyData.eqvAll, eqv_dE, eqv_dRs a b]
    by_cases h1 : x = y
    · subst h1
      by_cases h2 : a = b
      · subst h2
        simp
      · simp [h2]
    · simp [h1]
theorem eqv_dR (a b : Ro) : PyData.eqv (dR a) (dR b) = decide (a = b) := by
  show PyData.eqv (.tuple (dRs a)) (.tuple (dRs b)) = _
  rw [PyData.eqv]
  exact eqv_dRs a b
theorem can_dRs : ∀ r : Ro, PyData.canLayAll0 (dRs r) = true
  | [] => by show PyData.canLayAll0 [] = true; rw [PyData.canLayAll0]
  | e :: r => by
    show PyData.canLayAll0 (dE e :: dRs r) = true
    rw [PyData.canLayAll0, can_dRs r, Bool.and_true]
    cases e with
    | none => show PyData.canLay0 .none = true; rw [PyData.canLay0]
    | some i => show PyData.canLay0 (.int i) = true; rw [PyData.canLay0]
theorem dep_dRs : ∀ r : Ro, PyData.depthAll (dRs r) ≤ 1
  | [] => by show PyData.depthAll [] ≤ 1; rw [PyData.depthAll]; omega
  | e :: r => by
    show PyData.depthAll (dE e :: dRs r) ≤ 1
    rw [PyData.depthAll]
    have h1 := dep_dRs r
    have h2 : PyData.depth (dE e) ≤ 1 := by
      cases e with
      | none => show PyData.depth .none ≤ 1; simp only [PyData.depth]; omega
      | some i => show PyData.depth (.int i) ≤ 1; simp only [PyData.depth]; omega
    omega
theorem shaped_dR (r : Ro) : SeqAt.shaped (dR r) = true := by
  unfold SeqAt.shaped
  rw [Bool.and_eq_true]
  refine ⟨?_, decide_eq_true ?_⟩
  · show PyData.canLay0 (.tuple (dRs r)) = true
    rw [PyData.canLay0]
    exact can_dRs r
  · show PyData.depth (.tuple (dRs r)) ≤ 64
    have h := dep_dRs r
    rw [PyData.depth]
    omega
/-! ### slices and sums of tuples, closed readings -/
@[irreducible] def qSl (K : PySem.W.Frag) : V → Option Int → Option Int → Hp → VK → Prop := rSlA K
@[irreducible] def qCat (K : PySem.W.Frag) : R2 := rCatA K
@[irreducible] def qNe (K : PySem.W.Frag) : R2 := rNeD K
@[irreducible] def qEq (K : PySem.W.Frag) : R2 := rEqD K
theorem sl_tupQ {X : Cx} : SlR X (qSl X.K) := by
  unfold qSl
  exact sl_tupA
theorem op_catQ {X : Cx} : OpR X (binaryOp .Add) (qCat X.K) := by
  unfold qCat
  exact op_catA
theorem op_neQ {X : Cx} (hu : X.A.units + 64 < cLine) : OpR X (compareOp .NotEq) (qNe X.K) := by
  unfold qNe
  exact op_neD hu
theorem op_eqQ {X : Cx} (hu : X.A.units + 64 < cLine) : OpR X (compareOp .Eq) (qEq X.K) := by
  unfold qEq
  exact op_eqD hu
section
variable {K : PySem.W.Frag} {H : Hp} {a b : Addr} {xs ys : List V} {lo hi : Option Int} {Q : VK}
theorem sl_go (hA : SqT K H a xs) (q : ∀ H' p, Same H H' → SqT K H' p (cutV xs lo hi) → Q (.ref p) H') : qSl K (.ref a) lo hi H Q := by
  unfold qSl
  refine ⟨a, xs, rfl, hA, fun hw => ?_, fun _ p hp => q _ p (same_upd hp) (.inl (.inl upd_same))⟩
  refine q H a (fun _ _ h => h) ?_
  have e : cutV xs lo hi = xs := by
    unfold cutV
    rw [hw.1, hw.2, List.drop_zero, Nat.sub_zero]
    exact List.take_of_length_le (Nat.le_refl _)
  rw [e]
  exact hA
theorem cat_go (hA : SqT K H a xs) (hB : SqT K H b ys) (hl : xs.length + ys.length ≤ 1000) (q : ∀ H' p, Same H H' → SqT K H' p (xs ++ ys) → Q (.ref p) H') : qCat K (.ref a) (.ref b) H Q := by
  unfold qCat
  refine ⟨a, b, _, _, rfl, rfl, hA, hB, sz1000 hl, fun z => ?_, fun _ z => ?_, fun _ _ p hp => q _ p (same_upd hp) (.inl (.inl upd_same))⟩
  · subst z
    exact q H b (fun _ _ h => h) hB
  · subst z
    exact q H a (fun _ _ h => h) (by rw [List.append_nil]; exact hA)
theorem neR_go {r t : Ro} (hA : SqT K H a (rV r)) (hB : SqT K H b (rV t)) (q : Q (.bl (!decide (r = t))) H) : qNe K (.ref a) (.ref b) H Q := by
  unfold qNe
  exact ⟨dR r, dR t, dp_rV hA, dp_rV hB, shaped_dR r, shaped_dR t, by rw [eqv_dR]; exact q⟩
theorem cut_from {xs : List V} {k : Nat} : cutV xs (some (k : Int)) none = xs.drop k := by
  unfold cutV
  rw [HT.sIx_nat, HT.sIx_none]
  by_cases h : k ≤ xs.length
  · rw [Nat.min_eq_left h]
    exact List.take_of_length_le (by rw [List.length_drop]; omega)
  · rw [Nat.min_eq_right (by omega), List.drop_of_length_le (Nat.le_refl _), List.drop_of_length_le (by omega), List.take_nil]
theorem cut_to {xs : List V} {k : Nat} : cutV xs none (some (k : Int)) = xs.take k := by
  unfold cutV
  rw [HT.sIx_nat, HT.sIx_none, List.drop_zero, Nat.sub_zero]
  by_cases h : k ≤ xs.length
  · rw [Nat.min_eq_left h]
  · rw [Nat.min_eq_right (by omega), List.take_of_length_le (Nat.le_refl _), List.take_of_length_le (by omega)]
end
/-! ### a route's pattern -/
section
variable {P : Program} {w : World} {K : PySem.W.Frag} {mg : Str → Option Value} {base : Heap}
theorem scRoutePat : FnScope ["route", "steps"] ["route"] (defScope sRoutePat) := ⟨rfl, rfl, rfl, by decide +kernel, rfl, by decide +kernel, by decide +kernel⟩
theorem scCommon : FnScope ["routes", "length", "route"] ["routes"] (defScope sCommon) := ⟨rfl, rfl, rfl, by decide +kernel, rfl, by decide +kernel, by decide +kernel⟩
def spRoutePat (K : PySem.W.Frag) : Sp := fun vs H Q _ => ∃ (a : Addr) (r : Ro), vs = [.ref a] ∧ SqT K H a (rV r) ∧ r ≠ [] ∧ r.length ≤ 400 ∧ ∀ H', Same H H' → Q (.int (rtp r : Nat)) H'
theorem ok_routePat {f : Addr} {fd : FuncData} (F : Df K mg "route_pattern" sRoutePat ["route"] f fd) : FnOk P w K mg base CX0 1 f fd ["route"] (spRoutePat K) := by
  refine F.F.ok scRoutePat (fun vs H Q E h => ?_) (fun cdv A outer s H vs Q E hr h => ?_)
  · obtain ⟨a, r, rfl, _⟩ := h
    rfl
  · obtain ⟨a, r, rfl, hA, hne, hl, q⟩ := h
    obtain ⟨p1, p2, p3, p4⟩ := rtp_spec hne
    refine ⟨_, pss_cons (ps_set (i := 1) scRoutePat.nd rfl (Or.inl rfl) pe_int)
      (pss_cons (ps_while PassesOwn.never (pt_mo (pt_cmpR (op_neQ hr.units) (pe_op op_catQ (pe_slice sl_tupQ (pv 0) (po_some (pv 1)) po_none) (pe_slice sl_tupQ (pv 0) po_none (po_some (pv 1)))) (pv 0) (nomark _)))
        (pss_one (ps_aug (i := 1) scRoutePat.nd rfl (Or.inl rfl) pe_int ip_add)))
      (pss_one (ps_ret (pv 1)))), ?_⟩
    refine while_by (fun σ H' => ∃ k, 1 ≤ k ∧ k ≤ rtp r ∧ σ = [some (.ref a), some (.int (k : Nat))] ∧ Same H H') (fun σ H' => match σ with | [_, some (.int z)] => rtp r + 1 - z.toNat | _ => 0)
      ⟨1, Nat.le_refl _, p1, rfl, fun _ _ h => h⟩ (fun σ H' ⟨k, k1, k2, es, sm⟩ => ?_) mo_mono
    subst es
    refine mo_go ?_
    have hA1 := sqT_same sm hA
    refine ⟨.ref a, rfl, .int (k : Nat), rfl, k, rfl, sl_go hA1 fun H1 b1 s1 h1 => ⟨.ref a, rfl, .int (k : Nat), rfl, k, rfl, sl_go (sqT_same s1 hA1) fun H2 b2 s2 h2 => ?_⟩⟩
    rw [cut_from] at h1
    rw [cut_to] at h2
    have hlen : ((rV r).drop k).length + ((rV r).take k).length ≤ 1000 := by
      rw [List.length_drop, List.length_take, rV_len]
      omega
    refine cat_go (sqT_same s2 h1) h2 hlen fun H3 b3 s3 h3 => ⟨.ref a, rfl, ?_⟩
    have e3 : (rV r).drop k ++ (rV r).take k = rV (rot r k) := by
      unfold rot rV
      rw [List.map_append, List.map_drop, List.map_take]
    rw [e3] at h3
    have sm3 := ((sm.trans s1).trans s2).trans s3
    refine neR_go h3 (sqT_same sm3 hA) ⟨_, rfl, ?_⟩
    by_cases hk : rot r k = r
    · rw [decide_eq_true hk]
      refine iteF ⟨.int (k : Nat), rfl, ?_⟩
      have : k = rtp r := by
        by_cases h : k = rtp r
        · exact h
        · exact absurd hk (p3 k k1 (by omega))
      rw [this]
      exact q _ sm3
    · rw [decide_eq_false hk]
      have hlt : k < rtp r := by
        by_cases h : k = rtp r
        · rw [h] at hk
          exact absurd p2 hk
        · omega
      refine iteT ⟨.int (k : Nat), rfl, k, 1, rfl, rfl, ⟨k + 1, by omega, by omega, rfl, sm3⟩, ?_⟩
      show rtp r + 1 - ((k : Int) + 1).toNat < rtp r + 1 - (k : Int).toNat
      omega
end
end Sv


set_option maxHeartbeats 4000000
namespace Sv
open PySem PySem.Spec PyProof.Rows L2
/-! ### valid plans -/
/-! ### the pattern of all routes -/
section
variable {P : Program} {w : World} {K : PySem.W.Frag} {mg : Str → Option Value} {base : Heap}
def spCommon (K : PySem.W.Frag) : Sp := fun vs H Q _ => ∃ (b : Addr) (rs : List Ro), vs = [.ref b] ∧ RtAt K H b rs ∧ (∀ r ∈ rs, 1 ≤ r.length ∧ r.length ≤ 6) ∧ ∀ H', Same H H' → Q (.int (lc rs : Nat)) H'
theorem ok_common (T : Bd P K mg) : FnOk P w K mg base CX0 2 T.aCommon T.dCommon ["routes"] (spCommon K) := by
  have GR : FnOk P w K mg base CX0 1 T.aRoutePat T.dRoutePat ["route"] (spRoutePat K) := ok_routePat T.RoutePat
  refine T.Common.F.ok scCommon (fun vs H Q E h => ?_) (fun cdv A outer s H vs Q E hr h => ?_)
  · obtain ⟨b, rs, rfl, _⟩ := h
    rfl
  · obtain ⟨b, rs, rfl, hB, hrs, q⟩ := h
    obtain ⟨qs, hA, hP⟩ := hB.ex
    have hql := paired_len hP
    refine ⟨_, pss_cons (ps_set (i := 1) scCommon.nd rfl (Or.inl rfl) pe_int)
      (pss_cons (ps_for PassesOwn.never rfl (pi_tup (pv 0)) (pg_name (i := 2) scCommon.nd rfl (Or.inl rfl))
        (pss_one (ps_set (i := 1) scCommon.nd rfl (Or.inl rfl) (pe_callBfun cr_lcm (by rfl) T.lcm (pa_cons (pv 1) (pa_cons (pe_call (E := E0) GR hr (by rfl) T.RoutePat.g T.RoutePat.F.kp T.RoutePat.b .nil pass0 (pa_cons (pv 2) pa_nil)) pa_nil))))))
      (pss_one (ps_ret (pv 1)))), ?_⟩
    refine ⟨.ref b, rfl, b, rfl, ⟨_, hA⟩, for_tup (xs := qs.map V.ref) (fun i σ H' => (∃ y2, σ = [some (.ref b), some (.int (lc (rs.take i) : Nat)), y2]) ∧ Same H H') ⟨⟨none, rfl⟩, fun _ _ h => h⟩ (fun i σ H' _ h => sqT_same h.2 hA) (fun i x σ H' hx ⟨⟨y2, es⟩, sm⟩ => ?_) (fun σ H' ⟨⟨y2, es⟩, sm⟩ => ?_)⟩
    · subst es
      obtain ⟨qa, hqa, rfl⟩ := refs_lt hx
      obtain ⟨r, hr1, hqr⟩ := paired_at hP hqa
      have hm := List.mem_of_getElem? hr1
      obtain ⟨l1, l2⟩ := hrs r hm
      have rne : r ≠ [] := fun z => by rw [z] at l1; simp at l1
      have b1 := (lc_le (rs := rs.take i) fun x hx => hrs x (List.mem_of_mem_take hx)).2
      have b2 := (rtp_spec rne).2.2.2
      have p64 : (1000 : Nat) < 2 ^ 64 := by decide
      refine ⟨.int (lc (rs.take i) : Nat), rfl, .ref qa, rfl, qa, r, rfl, sqT_same sm hqr, rne, by omega, fun H1 sm1 => ⟨lc (rs.take i), rtp r, rfl, by omega, by omega, ⟨some (.ref qa), ?_⟩, sm.trans sm1⟩⟩
      rw [List.take_add_one, hr1]
      show _ = [some (V.ref b), some (V.int (lc (rs.take i ++ [r]) : Nat)), some (V.ref qa)]
      rw [lc_snoc]
      rfl
    · subst es
      rw [List.length_map, hql, List.take_length]
      exact ⟨.int (lc rs : Nat), rfl, q _ sm⟩
theorem scPattern : FnScope ["plan"] ["plan"] (defScope sPattern) := ⟨rfl, rfl, rfl, by decide +kernel, rfl, by decide +kernel, by decide +kernel⟩
/-- what a function of a plan does where the plan is wrong -/
abbrev BadE (C : Addr) (zs : List Int) (rs : List Ro) (H : Hp) (E : XK) : Prop := ∀ part i, bad zs rs = some (part, i) → PlanE C H part i E
def spPattern (K : PySem.W.Frag) (C : Addr) : Sp := fun vs H Q E => ∃ (p : Addr) (zs : List Int) (rs : List Ro), vs = [.ref p] ∧ PlanAt K H p zs rs ∧ Small zs rs ∧ (bad zs rs = none → ∀ H', Same H H' → Q (.int (lc rs : Nat)) H') ∧ BadE C zs rs H E
theorem ok_pattern (T : Bd P K mg) : FnOk P w K mg base (L2.CX P w) 5 T.aPattern T.dPattern ["plan"] (spPattern K T.C) := by
  have GP : FnOk P w K mg base (L2.CX P w) 4 T.aCheckPlan T.dCheckPlan ["plan"] (spCheckPlan K T.C) := ok_checkPlan T
  have GC : FnOk P w K mg base CX0 2 T.aCommon T.dCommon ["routes"] (spCommon K) := ok_common T
  refine T.Pattern.F.okX scPattern (fun vs H Q E h => ?_) (fun cdv A outer s H vs Q E hr h => ?_)
  · obtain ⟨p, zs, rs, rfl, _⟩ := h
    rfl
  · obtain ⟨p, zs, rs, rfl, hp, hs, q1, q2⟩ := h
    obtain ⟨a, b, hp1, ha, hb⟩ := hp.ex
    refine ⟨_, pss_cons (ps_expr (pe_call (E := E) GP hr (by rfl) T.CheckPlan.g T.CheckPlan.F.kp T.CheckPlan.b .nil (passes_call (takes_of rfl rfl rfl rfl) fun _ _ _ _ h => h) (pa_cons (pv 0) pa_nil)))
      (pss_one (ps_ret (pe_call (E := E0) GC (hr.mono (by decide)) (by rfl) T.Common.g T.Common.F.kp T.Common.b .nil pass0 (pa_cons (pe_ix ix_tup (pv 0) pe_int (fun _ _ => rfl)) pa_nil)))), ?_⟩
    refine ⟨.ref p, rfl, p, zs, rs, rfl, hp, hs, fun e1 H1 sm1 => ?_, q2⟩
    have g := good_of e1
    exact ⟨.ref p, rfl, p, _, 1, .ref b, rfl, rfl, sqT_same sm1 hp1, rfl, b, rs, rfl, hb.same sm1, g.r2, fun H2 sm2 => q1 e1 H2 (sm1.trans sm2)⟩
def spVisits (K : PySem.W.Frag) (C : Addr) : Sp := fun vs H Q E => ∃ (p : Addr) (zs : List Int) (rs : List Ro) (n : Int), vs = [.ref p, .int n] ∧ PlanAt K H p zs rs ∧ Small zs rs ∧ (bad zs rs = none → NewTL H (meets rs (n - 1)) Q) ∧ BadE C zs rs H E
theorem NewTL.imp {H H1 : Hp} {ts : List (List V)} {Q : VK} (h : NewTL H ts Q) (e : Same H H1) : NewTL H1 ts Q := fun H' f sm hf tl => h H' f (e.trans sm) (Same.free e hf) tl
end
end Sv


set_option maxHeartbeats 4000000
namespace Sv
open PySem PySem.Spec PyProof.Rows L2
theorem TL.ext2 {H : Hp} {f g : Addr} {ts us : List (List V)} {xs ys : List V} (x : TL H f ts) (y : TL H g us) (hf : H f = some (.lst xs)) (hg : H g = some (.lst ys)) : TL (upd H f (.lst (xs ++ ys))) f (ts ++ us) := by
  obtain ⟨ps, h1, h2⟩ := x.ex
  obtain ⟨qs, g1, g2⟩ := y.ex
  rw [hf] at h1
  rw [hg] at g1
  obtain rfl := HO.lst.inj (Option.some.inj h1)
  obtain rfl := HO.lst.inj (Option.some.inj g1)
  refine ⟨ps ++ qs, by rw [upd_same, List.map_append], tupsV_imp (fun b xs q => ?_) (tupsV_app h2 g2)⟩
  rw [upd_ne (fun z => by rw [z, hf] at q; cases q)]
  exact q
theorem TL.len {H : Hp} {f : Addr} {ts : List (List V)} {xs : List V} (x : TL H f ts) (hf : H f = some (.lst xs)) : xs.length = ts.length := by
  obtain ⟨ps, h1, h2⟩ := x.ex
  rw [hf] at h1
  obtain rfl := HO.lst.inj (Option.some.inj h1)
  rw [List.length_map, tupsV_len h2]
/-! ### places -/
def carV (n : Nat) : List (List V) := (List.range n).map fun c => [V.str "carrier", V.int (c : Nat)]
def posV (s n : Nat) : List (List V) := (List.range n).map fun p => [V.str "shelf", V.int (s : Nat), V.int (p : Nat)]
def shN (zs : List Int) : Nat → List (List V)
  | 0 => []
  | k + 1 => shN zs k ++ posV k (zs.getD k 0).toNat
def placesV (zs : List Int) (n : Nat) : List (List V) := carV n ++ shN zs zs.length
theorem carV_succ (n : Nat) : carV (n + 1) = carV n ++ [[V.str "carrier", V.int (n : Nat)]] := by
  unfold carV
  rw [List.range_succ, List.map_append]
  rfl
theorem posV_succ (s n : Nat) : posV s (n + 1) = posV s n ++ [[V.str "shelf", V.int (s : Nat), V.int (n : Nat)]] := by
  unfold posV
  rw [List.range_succ, List.map_append]
  rfl
theorem carV_len (n : Nat) : (carV n).length = n := by unfold carV; simp
theorem posV_len (s n : Nat) : (posV s n).length = n := by unfold posV; simp
theorem shN_len {zs : List Int} (h : ∀ z ∈ zs, 0 ≤ z ∧ z ≤ 9) : ∀ k, k ≤ zs.length → (shN zs k).length ≤ 9 * k
  | 0, _ => Nat.le_refl _
  | k + 1, hk => by
    unfold shN
    rw [List.length_append, posV_len]
    have h1 := shN_len h k (by omega)
    have e : zs.getD k 0 = zs[k] := by rw [List.getD_eq_getElem?_getD, List.getElem?_eq_getElem (by omega)]; rfl
    have h2 := h zs[k] (List.getElem_mem (by omega))
    rw [e]
    omega
section
variable {P : Program} {w : World} {K : PySem.W.Frag} {mg : Str → Option Value} {base : Heap}
def nPl : List Str := ["plan", "sizes", "routes", "found", "shelf", "size", "carrier", "position"]
theorem scPlacesOf : FnScope nPl ["plan"] (defScope sPlacesOf) := ⟨rfl, rfl, rfl, by decide +kernel, rfl, by decide +kernel, by decide +kernel⟩
def spPlacesOf (K : PySem.W.Frag) : Sp := fun vs H Q E => ∃ (p : Addr) (zs : List Int) (rs : List Ro), vs = [.ref p] ∧ PlanAt K H p zs rs ∧ Good zs rs ∧ NewTL H (placesV zs rs.length) Q
theorem ok_placesOf (T : Bd P K mg) : FnOk P w K mg base CX0 1 T.aPlacesOf T.dPlacesOf ["plan"] (spPlacesOf K) := by
  refine T.PlacesOf.F.ok scPlacesOf (fun vs H Q E h => ?_) (fun cdv A outer s H vs Q E hr h => ?_)
  · obtain ⟨p, zs, rs, rfl, _⟩ := h
    rfl
  · obtain ⟨p, zs, rs, rfl, hp, gd, q1⟩ := h
    obtain ⟨a, b, hp1, ha, hb⟩ := hp.ex
    refine ⟨_, pss_cons (ps_asg (pv 0) (pg_tup rfl (pgs_cons (pg_name (i := 1) scPlacesOf.nd rfl (.inl rfl)) (pgs_cons (pg_name (i := 2) scPlacesOf.nd rfl (.inl rfl)) pgs_nil))))
      (pss_cons (ps_setLc (i := 3) (own := [("carrier", 6)]) (g := gName 6) rfl scPlacesOf.nd rfl rfl (sw_true rfl rfl rfl (by decide +kernel)) (pi_range1 (by rfl) T.bt.range (pa_cons (pe_callB call_len_seq (by rfl) T.bt.len b_len (pa_cons (pv 2) pa_nil)) pa_nil)) (blkOk_by (N := nPl) (sc := defScope sPlacesOf) (by decide +kernel))
          (fun _ _ _ _ _ => pg_name (i := 6) scPlacesOf.nd rfl (Or.inl rfl)) (fun _ _ _ _ _ => pts_nil) (fun _ _ _ _ _ => pe_tup (pa_cons pe_str (pa_cons (pv 6) pa_nil))))
      (pss_cons (ps_for PassesOwn.never rfl (pi_enumT (by rfl) T.bt.enumerate (pa_cons (pv 1) pa_nil)) (pg_tup rfl (pgs_cons (pg_name (i := 4) scPlacesOf.nd rfl (.inr rfl)) (pgs_cons (pg_name (i := 5) scPlacesOf.nd rfl (.inl rfl)) pgs_nil)))
        (pss_one (ps_expr (pe_bm PySem.F.plainAttrs_list PySem.F.slot_list_extend PySem.F.type_list_extend mt_extend (pv 3) <| pa_cons
          (pe_lc (own := [("position", 7)]) (g := gName 7) rfl scPlacesOf.nd (pi_range1 (by rfl) T.bt.range (pa_cons (pv 5) pa_nil)) (blkOk_by (N := nPl) (sc := defScope sPlacesOf) (by decide +kernel))
            (fun _ _ _ _ _ => pg_name (i := 7) scPlacesOf.nd rfl (Or.inl rfl)) (fun _ _ _ _ _ => pts_nil) (fun _ _ _ _ _ => pe_tup (pa_cons pe_str (pa_cons (pv 4) (pa_cons (pv 7) pa_nil))))) pa_nil))))
      (pss_one (ps_ret (pv 3))))), ?_⟩
    have sm1 := Same.refl H
    obtain ⟨qs, hA, hP⟩ := hb.ex
    have hql := paired_len hP
    have hp2 := sqT_same sm1 hp1
    refine ⟨.ref p, rfl, p, [.ref a, .ref b], rfl, hp2, rfl, _, _, rfl, _, _, rfl, rfl, ?_⟩
    have b62 : (1000 : Int) < 2 ^ 62 := by decide
    refine ⟨.ref b, rfl, b, _, rfl, .inr (sqT_same sm1 hA), ((qs.map V.ref).length : Nat), rfl, by omega, by rw [List.length_map, hql]; have := gd.r1; omega, fun f hf => ?_⟩
    rw [List.length_map, hql]
    have nf : H f = none := Same.free sm1 hf
    refine lc_range (lo := 0) (n := ((rs.length : Nat) : Int).toNat) (fun i H' => Same H H' ∧ TL H' f (carV i)) ⟨same_upd hf, [], upd_same, .nil⟩ (fun i H' hi ⟨sm, tl⟩ => ?_) (fun H' ⟨sm, tl⟩ => ?_)
    · have hi2 : i < rs.length := by
        rw [Int.toNat_natCast] at hi
        exact hi
      have ei : (0 : Int) + (i : Nat) = (i : Nat) := by omega
      rw [ei]
      obtain ⟨ps, hff, htv⟩ := tl.ex
      refine ⟨rfl, yes_go ⟨.int (i : Nat), rfl, (by show 2 ≤ sizeLine; decide), fun t ht => ⟨ps.map V.ref, ?_, ?_, same_of (same_of sm (Same.free sm ht)) hf, ?_⟩⟩⟩
      · rw [upd_ne (ne_of_none hff ht)]
        exact hff
      · rw [tl.len hff, carV_len]
        exact small1000 (by have := gd.r1; omega)
      · rw [carV_succ]
        exact (tl.same (same_upd ht)).push (by rw [upd_ne (ne_of_none hff ht)]; exact hff) upd_same
    rw [Int.toNat_natCast] at tl
    have smf : Same H H' := sm1.trans sm
    -- the shelves
    refine ⟨.ref a, rfl, a, _, rfl, sqT_same smf ha, for_enumT (xs := zs.map V.int) (fun i σ H2 => (∃ y4 y5, σ = [some (.ref p), some (.ref a), some (.ref b), some (.ref f), y4, y5, none, none]) ∧ Same H H2 ∧ TL H2 f (carV rs.length ++ shN zs i)) ⟨⟨none, none, rfl⟩, smf, by rw [show shN zs 0 = [] from rfl, List.append_nil]; exact tl⟩
      (fun i σ H2 _ h => sqT_same h.2.1 ha) (fun i x σ H2 U hx ⟨⟨y4, y5, es⟩, sm2, tl2⟩ hU => ?_) (fun σ H2 ⟨⟨y4, y5, es⟩, sm2, tl2⟩ => ?_)⟩
    · subst es
      obtain ⟨z, hz1, rfl⟩ := iV_lt hx
      have hz := gd.z2 z (List.mem_of_getElem? hz1)
      have il : i < zs.length := (List.getElem?_eq_some_iff.mp hz1).1
      have zd : zs.getD i 0 = z := by rw [List.getD_eq_getElem?_getD, hz1]; rfl
      have sm3 : Same H (upd H2 U (.tup [.int (i : Nat), .int z])) := same_of sm2 (Same.free sm2 hU)
      have tl3 := tl2.same (same_upd (o := .tup [.int (i : Nat), .int z]) hU)
      refine ⟨U, [.int (i : Nat), .int z], rfl, .inl (.inl upd_same), rfl, _, _, rfl, _, _, rfl, rfl, ?_⟩
      generalize upd H2 U (.tup [.int (i : Nat), .int z]) = H3 at sm3 tl3 ⊢
      obtain ⟨ps, hff, htv⟩ := tl3.ex
      refine ⟨.ref f, rfl, .inl ⟨rfl, _, .inl (.inl hff)⟩, .int z, rfl, z, rfl, by omega, by omega, fun D hD => ?_⟩
      have fD : f ≠ D := ne_of_none hff hD
      refine lc_range (lo := 0) (n := z.toNat) (fun j H' => Same H3 H' ∧ TL H' D (posV i j)) ⟨same_upd hD, [], upd_same, .nil⟩ (fun j H' hj ⟨sm4, tl4⟩ => ?_) (fun H' ⟨sm4, tl4⟩ => ?_)
      · have ej : (0 : Int) + (j : Nat) = (j : Nat) := by omega
        rw [ej]
        obtain ⟨ps2, hdd, htv2⟩ := tl4.ex
        refine ⟨rfl, yes_go ⟨.int (i : Nat), rfl, .int (j : Nat), rfl, (by show 3 ≤ sizeLine; decide), fun t ht => ⟨ps2.map V.ref, ?_, ?_, same_of (same_of sm4 (Same.free sm4 ht)) hD, ?_⟩⟩⟩
        · rw [upd_ne (ne_of_none hdd ht)]
          exact hdd
        · rw [tl4.len hdd, posV_len]
          exact small1000 (by omega)
        · rw [posV_succ]
          exact (tl4.same (same_upd ht)).push (by rw [upd_ne (ne_of_none hdd ht)]; exact hdd) upd_same
      · obtain ⟨ps2, hdd, htv2⟩ := tl4.ex
        have hf4 := sm4 _ _ hff
        have tl5 := tl3.same sm4
        have l1 := tl5.len hf4
        have l2 := tl4.len hdd
        have l3 := shN_len gd.z2 i (by omega)
        refine ⟨f, D, _, _, rfl, rfl, hf4, hdd, ?_, ⟨_, _, rfl⟩, same_of (sm3.trans sm4) nf, ?_⟩
        · rw [l1, l2, List.length_append, carV_len, posV_len]
          exact sz1000 (by have := gd.r1; have := gd.z1; omega)
        · have e : carV rs.length ++ shN zs (i + 1) = (carV rs.length ++ shN zs i) ++ posV i z.toNat := by
            conv => lhs; unfold shN
            rw [zd, List.append_assoc]
          rw [e]
          exact tl5.ext2 tl4 hf4 hdd
    · subst es
      rw [List.length_map] at tl2
      exact ⟨.ref f, rfl, q1 H2 f sm2 nf tl2⟩
def spPlaces (K : PySem.W.Frag) (C : Addr) : Sp := fun vs H Q E => ∃ (p : Addr) (zs : List Int) (rs : List Ro), vs = [.ref p] ∧ PlanAt K H p zs rs ∧ Small zs rs ∧ (bad zs rs = none → NewTL H (placesV zs rs.length) Q) ∧ BadE C zs rs H E
end
end Sv


set_option maxHeartbeats 4000000
namespace Sv
open PySem PySem.Spec PyProof.Rows L2
def rSumT (K : PySem.W.Frag) : List V → Hp → VK → Prop := fun vs H Q => ∃ (a : Addr) (ns : List Int), vs = [V.ref a] ∧ SqT K H a (ns.map V.int) ∧ Q (.int ns.sum) H
theorem cr_sumT {X : Cx} (hc : X.calm = true) : CallR X (.builtin "sum") (rSumT X.K) := by
  intro pins s σ H vs us Q I r h
  obtain ⟨a, ns, rfl, hs, q⟩ := h
  obtain ⟨its, rv, hl, _⟩ := I.tuple hs
  rw [Vals.ref1 r]
  have hi := rv.ints
  obtain ⟨xs, e⟩ := hi.allInts.items
  have hn : numsOf (intItems xs).toList = ns := by rw [← e]; exact hi.numsOf
  rw [nums_intItems] at hn
  rw [e] at hl
  refine PySem.W.ktm_sumG (I.ok.hd hc) hl fun h' tk t' hk => ?_
  rw [preSum_eq, List.take_of_length_le (by simp), hn]
  exact ⟨.int ns.sum, H, I.kept hk, ⟨_, rfl⟩, q⟩
/-! ### the first layout -/
def parc (N : Nat) : List Int := (List.range N).map fun i => 1 + (i : Nat)
theorem parc_len (N : Nat) : (parc N).length = N := by unfold parc; simp
theorem rgV_parc (N : Nat) : rgV 1 ((N : Nat) + 1) = (parc N).map V.int := by
  unfold rgV parc
  rw [show (((N : Nat) : Int) + 1 - 1).toNat = N by omega, List.map_map]
  rfl
abbrev SegV (H : Hp) (qs : List Addr) (ss : List (List Int)) : Prop := Paired (fun q seg => H q = some (.tup (seg.map V.int))) qs ss
theorem segV_imp {H H' : Hp} (e : ∀ b xs, H b = some (.tup xs) → H' b = some (.tup xs)) : ∀ {ps : List Addr} {ts : List (List Int)}, SegV H ps ts → SegV H' ps ts
  | _, _, .nil => .nil
  | _, _, .cons h t => .cons (e _ _ h) (segV_imp e t)
theorem segV_len {H : Hp} : ∀ {ps : List Addr} {ts : List (List Int)}, SegV H ps ts → ps.length = ts.length
  | _, _, .nil => rfl
  | _, _, .cons _ t => congrArg Nat.succ (segV_len t)
theorem segV_snoc {H : Hp} {p : Addr} {t : List Int} (hp : H p = some (.tup (t.map V.int))) : ∀ {ps : List Addr} {ts : List (List Int)}, SegV H ps ts → SegV H (ps ++ [p]) (ts ++ [t])
  | _, _, .nil => .cons hp .nil
  | _, _, .cons h r => .cons h (segV_snoc hp r)
theorem segV_at {H : Hp} : ∀ {ps : List Addr} {ts : List (List Int)} {i : Nat} {p : Addr}, SegV H ps ts → ps[i]? = some p → ∃ t, ts[i]? = some t ∧ H p = some (.tup (t.map V.int))
  | _, _, i, p, .nil, e => by simp at e
  | _, _, 0, p, .cons h r, e => by
    obtain rfl := Option.some.inj e
    exact ⟨_, rfl, h⟩
  | _, _, i + 1, p, .cons h r, e => segV_at (i := i) r (by simpa using e)
/-- a layout: who is carried, who lies where -/
structure LayAt (H : Hp) (ca sh : Addr) (cs : List Int) (ss : List (List Int)) : Prop where
  c : H ca = some (.tup (cs.map V.int))
  s : ∃ qs : List Addr, H sh = some (.tup (qs.map V.ref)) ∧ SegV H qs ss
theorem LayAt.same {H H' : Hp} {ca sh : Addr} {cs : List Int} {ss : List (List Int)} (x : LayAt H ca sh cs ss) (e : Same H H') : LayAt H' ca sh cs ss := by
  obtain ⟨qs, h1, h2⟩ := x.s
  exact ⟨e _ _ x.c, qs, e _ _ h1, segV_imp (fun b xs q => e _ _ q) h2⟩
theorem cut_seg {xs : List V} {st k : Nat} : cutV xs (some (st : Int)) (some (((st : Nat) : Int) + (k : Nat))) = (xs.drop st).take k := by
  have e : ((st : Nat) : Int) + (k : Nat) = ((st + k : Nat) : Int) := by omega
  unfold cutV
  rw [e, HT.sIx_nat, HT.sIx_nat]
  by_cases h1 : st + k ≤ xs.length
  · rw [Nat.min_eq_left h1, Nat.min_eq_left (by omega)]
    congr 1
    omega
  · by_cases h2 : st ≤ xs.length
    · rw [Nat.min_eq_right (by omega), Nat.min_eq_left h2, List.take_of_length_le (by rw [List.length_drop]; omega), List.take_of_length_le (by rw [List.length_drop]; omega)]
    · rw [Nat.min_eq_right (by omega), Nat.min_eq_right (by omega), List.drop_of_length_le (by omega : xs.length ≤ st), List.drop_of_length_le (Nat.le_refl _), List.take_nil, List.take_nil]
section
variable {P : Program} {w : World} {K : PySem.W.Frag} {mg : Str → Option Value} {base : Heap}
theorem scNum : FnScope ["plan", "sizes", "routes"] ["plan"] (defScope sNumPlaces) := ⟨rfl, rfl, rfl, by decide +kernel, rfl, by decide +kernel, by decide +kernel⟩
theorem scSplit : FnScope ["plan", "contents", "sizes", "routes", "start", "carried", "shelves", "size"] ["plan", "contents"] (defScope sSplit) := ⟨rfl, rfl, rfl, by decide +kernel, rfl, by decide +kernel, by decide +kernel⟩
def spNum (K : PySem.W.Frag) : Sp := fun vs H Q _ => ∃ (p : Addr) (zs : List Int) (rs : List Ro), vs = [.ref p] ∧ PlanAt K H p zs rs ∧ (∀ z ∈ zs, 0 ≤ z) ∧ Q (.int (rs.length + sumN zs : Nat)) H
theorem ok_num (T : Bd P K mg) : FnOk P w K mg base CX0 1 T.aNumPlaces T.dNumPlaces ["plan"] (spNum K) := by
  refine T.NumPlaces.F.ok scNum (fun vs H Q E h => ?_) (fun cdv A outer s H vs Q E hr h => ?_)
  · obtain ⟨p, zs, rs, rfl, _⟩ := h
    rfl
  · obtain ⟨p, zs, rs, rfl, hp, hz, q⟩ := h
    obtain ⟨a, b, hp1, ha, hb⟩ := hp.ex
    obtain ⟨qs, hA, hP⟩ := hb.ex
    have hql := paired_len hP
    refine ⟨_, pss_cons (ps_asg (pv 0) (pg_tup rfl (pgs_cons (pg_name (i := 1) scNum.nd rfl (.inl rfl)) (pgs_cons (pg_name (i := 2) scNum.nd rfl (.inl rfl)) pgs_nil))))
      (pss_one (ps_ret (pe_op op_add (pe_callB call_len_seq (by rfl) T.bt.len b_len (pa_cons (pv 2) pa_nil)) (pe_callB (cr_sumT rfl) (by rfl) T.bt.sum b_sum (pa_cons (pv 1) pa_nil))))), ?_⟩
    refine ⟨.ref p, rfl, p, [.ref a, .ref b], rfl, hp1, rfl, _, _, rfl, _, _, rfl, rfl, ?_⟩
    refine ⟨.ref b, rfl, b, _, rfl, .inr hA, .ref a, rfl, a, zs, rfl, ha, _, _, rfl, rfl, ?_⟩
    rw [List.length_map, hql, sum_int hz]
    exact q
def spSplit (K : PySem.W.Frag) : Sp := fun vs H Q _ => ∃ (p c : Addr) (zs : List Int) (rs : List Ro) (cs : List Int), vs = [.ref p, .ref c] ∧ PlanAt K H p zs rs ∧ SqL K H c (cs.map V.int) ∧ (∀ z ∈ zs, 0 ≤ z ∧ z ≤ 9) ∧ zs.length ≤ 12 ∧ rs.length ≤ 6 ∧ cs.length ≤ 1000 ∧
  ∀ H' t ca sh, Same H H' → H' t = some (.tup [.ref ca, .ref sh]) → LayAt H' ca sh (cs.take rs.length) (segs cs rs.length zs) → Q (.ref t) H'
theorem ok_split (T : Bd P K mg) : FnOk P w K mg base CX0 1 T.aSplit T.dSplit ["plan", "contents"] (spSplit K) := by
  refine T.Split.F.ok scSplit (fun vs H Q E h => ?_) (fun cdv A outer s H vs Q E hr h => ?_)
  · obtain ⟨p, c, zs, rs, cs, rfl, _⟩ := h
    rfl
  · obtain ⟨p, c, zs, rs, cs, rfl, hp, hc, hz, lz, lr, lc, q⟩ := h
    obtain ⟨a, b, hp1, ha, hb⟩ := hp.ex
    obtain ⟨qs, hA, hP⟩ := hb.ex
    have hql := paired_len hP
    refine ⟨_, pss_cons (ps_asg (pv 0) (pg_tup rfl (pgs_cons (pg_name (i := 2) scSplit.nd rfl (.inl rfl)) (pgs_cons (pg_name (i := 3) scSplit.nd rfl (.inl rfl)) pgs_nil))))
      (pss_cons (ps_set (i := 4) scSplit.nd rfl (Or.inl rfl) (pe_callB call_len_seq (by rfl) T.bt.len b_len (pa_cons (pv 3) pa_nil)))
      (pss_cons (ps_set (i := 5) scSplit.nd rfl (Or.inl rfl) (pe_callTy call_tuple_of (by rfl) T.bt.tuple b_tuple (pa_cons (pe_slice sl_list (pv 1) po_none (po_some (pv 4))) pa_nil)))
      (pss_cons (ps_set (i := 6) scSplit.nd rfl (Or.inl rfl) (pe_lst pa_nil))
      (pss_cons (ps_for PassesOwn.never rfl (pi_tup (pv 2)) (pg_name (i := 7) scSplit.nd rfl (Or.inl rfl))
        (pss_cons (ps_expr (pe_bm PySem.F.plainAttrs_list PySem.F.slot_list_append PySem.F.type_list_append mt_append (pv 6) (pa_cons (pe_callTy call_tuple_of (by rfl) T.bt.tuple b_tuple (pa_cons (pe_slice sl_list (pv 1) (po_some (pv 4)) (po_some (pe_op op_add (pv 4) (pv 7)))) pa_nil)) pa_nil)))
        (pss_one (ps_aug (i := 4) scSplit.nd rfl (Or.inl rfl) (pv 7) ip_add))))
      (pss_one (ps_ret (pe_tup (pa_cons (pv 5) (pa_cons (pe_callTy call_tuple_of (by rfl) T.bt.tuple b_tuple (pa_cons (pv 6) pa_nil)) pa_nil))))))))), ?_⟩
    refine ⟨.ref p, rfl, p, [.ref a, .ref b], rfl, hp1, rfl, _, _, rfl, _, _, rfl, rfl, ?_⟩
    refine ⟨.ref b, rfl, b, _, rfl, .inr hA, ?_⟩
    rw [List.length_map, hql]
    refine ⟨.ref c, rfl, .int (rs.length : Nat), rfl, (rs.length : Nat), rfl, c, _, rfl, hc, fun p1 hp1 => ?_⟩
    rw [cut_to, ← List.map_take]
    have m1 : Same H (upd H p1 (.lst ((cs.take rs.length).map V.int))) := same_upd hp1
    refine ⟨p1, _, rfl, .inl ⟨.inl (.inl upd_same), fun ca hca => ?_⟩⟩
    have m2 := m1.trans (same_upd (o := .tup ((cs.take rs.length).map V.int)) hca)
    have kca : (upd (upd H p1 (.lst ((cs.take rs.length).map V.int))) ca (.tup ((cs.take rs.length).map V.int))) ca = some (.tup ((cs.take rs.length).map V.int)) := upd_same
    generalize upd (upd H p1 (.lst ((cs.take rs.length).map V.int))) ca (.tup ((cs.take rs.length).map V.int)) = H2 at m2 kca ⊢
    refine ⟨Nat.zero_le _, fun f hf => ?_⟩
    have nf : H f = none := Same.free m2 hf
    have m3 : Same H (upd H2 f (.lst [])) := m2.trans (same_upd hf)
    have kca3 : (upd H2 f (.lst [])) ca = some (.tup ((cs.take rs.length).map V.int)) := by rw [upd_ne (ne_of_none kca hf)]; exact kca
    refine ⟨.ref a, rfl, a, rfl, ⟨_, sqT_same m3 ha⟩, for_tup (xs := zs.map V.int) (fun i σ H' => (∃ y7, σ = [some (.ref p), some (.ref c), some (.ref a), some (.ref b), some (.int (rs.length + sumN (zs.take i) : Nat)), some (.ref ca), some (.ref f), y7]) ∧ Same H H' ∧ H' ca = some (.tup ((cs.take rs.length).map V.int)) ∧
        ∃ qs : List Addr, H' f = some (.lst (qs.map V.ref)) ∧ SegV H' qs (segs cs rs.length (zs.take i))) ⟨⟨none, rfl⟩, m3, kca3, [], upd_same, .nil⟩ (fun i σ H' _ h => sqT_same h.2.1 ha) (fun i x σ H' hx ⟨⟨y7, es⟩, sm, kc, qs2, kf, sv⟩ => ?_) (fun σ H' ⟨⟨y7, es⟩, sm, kc, qs2, kf, sv⟩ => ?_)⟩
    · subst es
      obtain ⟨z, hz1, rfl⟩ := iV_lt hx
      have hzz := hz z (List.mem_of_getElem? hz1)
      have il : i < zs.length := (List.getElem?_eq_some_iff.mp hz1).1
      have ez : z = (z.toNat : Nat) := (Int.toNat_of_nonneg hzz.1).symm
      refine ⟨.ref f, rfl, .inl ⟨rfl, _, .inl (.inl kf)⟩, .ref c, rfl, .int (rs.length + sumN (zs.take i) : Nat), rfl, (rs.length + sumN (zs.take i) : Nat), rfl, .int (rs.length + sumN (zs.take i) : Nat), rfl, .int z, rfl, (rs.length + sumN (zs.take i) : Nat), z, rfl, rfl, _, rfl, c, _, rfl, Same.seq sm hc, fun p4 hp4 => ?_⟩
      have ecut : cutV (cs.map V.int) (some ((rs.length + sumN (zs.take i) : Nat) : Int)) (some (((rs.length + sumN (zs.take i) : Nat) : Int) + z)) = ((cs.drop (rs.length + sumN (zs.take i))).take z.toNat).map V.int := by
        rw [show (((rs.length + sumN (zs.take i) : Nat) : Int) + z) = ((rs.length + sumN (zs.take i) : Nat) : Int) + (z.toNat : Nat) by omega, cut_seg, ← List.map_drop, ← List.map_take]
      rw [ecut]
      have m4 : Same H' (upd H' p4 (.lst (((cs.drop (rs.length + sumN (zs.take i))).take z.toNat).map V.int))) := same_upd hp4
      refine ⟨p4, _, rfl, .inl ⟨.inl (.inl upd_same), fun p5 hp5 => ?_⟩⟩
      have m5 := m4.trans (same_upd (o := .tup (((cs.drop (rs.length + sumN (zs.take i))).take z.toNat).map V.int)) hp5)
      have k5 : (upd (upd H' p4 (.lst (((cs.drop (rs.length + sumN (zs.take i))).take z.toNat).map V.int))) p5 (.tup (((cs.drop (rs.length + sumN (zs.take i))).take z.toNat).map V.int))) p5 = some (.tup (((cs.drop (rs.length + sumN (zs.take i))).take z.toNat).map V.int)) := upd_same
      generalize upd (upd H' p4 (.lst (((cs.drop (rs.length + sumN (zs.take i))).take z.toNat).map V.int))) p5 (.tup (((cs.drop (rs.length + sumN (zs.take i))).take z.toNat).map V.int)) = H5 at m5 k5 ⊢
      have kf5 := m5 _ _ kf
      have hql2 : qs2.length = i := by
        rw [segV_len sv, segs_len, List.length_take]
        omega
      have ek : zs.take (i + 1) = zs.take i ++ [z] := by rw [List.take_add_one, hz1]; rfl
      refine ⟨f, _, _, rfl, rfl, kf5, ?_, .int (rs.length + sumN (zs.take i) : Nat), rfl, .int z, rfl, (rs.length + sumN (zs.take i) : Nat), z, rfl, rfl, ⟨some (.int z), ?_⟩, same_of (sm.trans m5) nf, ?_, qs2 ++ [p5], ?_, ?_⟩
      · rw [List.length_map]
        exact small1000 (by omega)
      · rw [ek, sumN_snoc]
        have : (((rs.length + sumN (zs.take i) : Nat) : Int) + z) = ((rs.length + (sumN (zs.take i) + z.toNat) : Nat) : Int) := by omega
        show [_, _, _, _, some (V.int (((rs.length + sumN (zs.take i) : Nat) : Int) + z)), _, _, _] = _
        rw [this]
      · rw [upd_ne (fun e => by rw [e, kf] at kc; cases kc)]
        exact m5 _ _ kc
      · rw [upd_same, List.map_append]
        rfl
      · rw [ek, segs_snoc]
        refine segV_imp (fun b xs hb => ?_) (segV_snoc k5 (segV_imp (fun b xs hb => m5 _ _ hb) sv))
        rw [upd_ne (fun e => by rw [e, kf5] at hb; cases hb)]
        exact hb
    · subst es
      rw [List.length_map, List.take_length] at sv
      refine ⟨.ref ca, rfl, .ref f, rfl, f, _, rfl, .inl ⟨.inl (.inl kf), fun sh hsh => ⟨(by show 2 ≤ sizeLine; decide), fun t ht => ?_⟩⟩⟩
      have m6 : Same H' (upd (upd H' sh (.tup (qs2.map V.ref))) t (.tup [.ref ca, .ref sh])) := (same_upd hsh).trans (same_upd ht)
      refine q _ t ca sh (sm.trans m6) upd_same ⟨m6 _ _ kc, qs2, ?_, segV_imp (fun b xs hb => m6 _ _ hb) sv⟩
      have : (upd H' sh (.tup (qs2.map V.ref))) sh = some (.tup (qs2.map V.ref)) := upd_same
      rw [upd_ne (ne_of_none this ht)]
      exact this
def spInitial (K : PySem.W.Frag) (C : Addr) : Sp := fun vs H Q E => ∃ (p : Addr) (zs : List Int) (rs : List Ro), vs = [.ref p] ∧ PlanAt K H p zs rs ∧ Small zs rs ∧
  (bad zs rs = none → ∀ H' t ca sh, Same H H' → H' t = some (.tup [.int 0, .ref ca, .ref sh]) → LayAt H' ca sh ((parc (rs.length + sumN zs)).take rs.length) (segs (parc (rs.length + sumN zs)) rs.length zs) → Q (.ref t) H') ∧ BadE C zs rs H E
theorem sumN_le {zs : List Int} (h : ∀ z ∈ zs, 0 ≤ z ∧ z ≤ 9) : sumN zs ≤ 9 * zs.length := by
  unfold sumN
  induction zs with
  | nil => exact Nat.le_refl _
  | cons z zs ih =>
    have h1 := h z (List.mem_cons_self ..)
    have h2 := ih fun x hx => h x (List.mem_cons_of_mem _ hx)
    rw [List.map_cons, List.sum_cons, List.length_cons]
    omega
end
end Sv


set_option maxHeartbeats 8000000
namespace Sv
open PySem PySem.Spec PyProof.Rows L2 LamX NdefX
section
variable {P : Program} {w : World} {K : PySem.W.Frag} {mg : Str → Option Value} {base : Heap}
/-! ### _law_alike, of two values of the same data -/
theorem scAlike : FnScope ["_law_found", "_law_due", "_law_k"] ["_law_found", "_law_due"] (defScope sAlike) := ⟨rfl, rfl, rfl, by decide +kernel, rfl, by decide +kernel, by decide +kernel⟩
def tyN : PyData → String
  | .none => "NoneType"
  | .bool _ => "bool"
  | .int _ => "int"
  | .str _ => "str"
  | .list _ => "list"
  | .tuple _ => "tuple"
  | .dict _ => "dict"
theorem tyx_lst {H : Hp} {a : Addr} {xs : List V} (h : SqL K H a xs) : TyX K H (.ref a) (.type "list") := by
  rcases h with (h | ⟨o, h⟩) | ⟨o, its, n, h1, h2, _⟩
  · exact .base (.lst h)
  · exact .base (.frz h)
  · exact .kList h1 h2
theorem dp_ty {H : Hp} {v : V} {d : PyData} (h : Dp K H v d) : TyX K H v (.type (tyN d)) := by
  cases h with
  | non => exact .base .non
  | bl b => exact .base (.bl b)
  | int i => exact .base (.int i)
  | str x => exact .base (.str x)
  | lst hs _ => exact tyx_lst hs
  | tup hs _ => exact tyx_tup hs
mutual
theorem dp_same {H H' : Hp} (e : Same H H') : ∀ (d : PyData) (v : V), Dp K H v d → Dp K H' v d
  | .none, _, h => by cases h; exact .non
  | .bool b, _, h => by cases h; exact .bl b
  | .int i, _, h => by cases h; exact .int i
  | .str x, _, h => by cases h; exact .str x
  | .list ds, _, h => by
    cases h with
    | lst hs ha => exact .lst (e.seq hs) (dpAll_same e ds _ ha)
  | .tuple ds, _, h => by
    cases h with
    | tup hs ha => exact .tup (sqT_same e hs) (dpAll_same e ds _ ha)
  | .dict _, _, h => by cases h
theorem dpAll_same {H H' : Hp} (e : Same H H') : ∀ (ds : List PyData) (vs : List V), DpAll K H vs ds → DpAll K H' vs ds
  | [], _, h => by cases h; exact .nil
  | d :: ds, _, h => by
    cases h with
    | cons h1 h2 => exact .cons (dp_same e d _ h1) (dpAll_same e ds _ h2)
end
theorem dpAll_len {H : Hp} : ∀ {vs : List V} {ds : List PyData}, DpAll K H vs ds → vs.length = ds.length
  | [], _, h => by cases h; rfl
  | v :: vs, _, h => by
    cases h with
    | cons h1 h2 => exact congrArg Nat.succ (dpAll_len h2)
theorem dpAll_at {H : Hp} : ∀ {vs : List V} {ds : List PyData} {i : Nat} {d : PyData}, DpAll K H vs ds → ds[i]? = some d → ∃ v, vs[i]? = some v ∧ Dp K H v d
  | [], _, i, d, h, e => by cases h; simp at e
  | v :: vs, _, 0, d, h, e => by
    cases h with
    | cons h1 h2 =>
      obtain rfl := Option.some.inj e
      exact ⟨v, rfl, h1⟩
  | v :: vs, _, i + 1, d, h, e => by
    cases h with
    | cons h1 h2 =>
      obtain ⟨x, h3, h4⟩ := dpAll_at (vs := vs) (i := i) h2 (by simpa using e)
      exact ⟨x, by simpa using h3, h4⟩
mutual
/-- how deep, and no list too long -/
def okD : Nat → PyData → Bool
  | 0, .list _ => false
  | 0, .tuple _ => false
  | n + 1, .list ds => decide (ds.length ≤ 1000) && okDs n ds
  | n + 1, .tuple ds => decide (ds.length ≤ 1000) && okDs n ds
  | _, .dict _ => false
  | _, _ => true
def okDs : Nat → List PyData → Bool
  | _, [] => true
  | n, d :: ds => okD n d && okDs n ds
end
theorem okDs_at : ∀ {n : Nat} {ds : List PyData} {i : Nat} {d : PyData}, okDs n ds = true → ds[i]? = some d → okD n d = true
  | n, [], i, d, _, e => by simp at e
  | n, x :: ds, 0, d, h, e => by
    obtain rfl := Option.some.inj e
    rw [okDs, Bool.and_eq_true] at h
    exact h.1
  | n, x :: ds, i + 1, d, h, e => by
    rw [okDs, Bool.and_eq_true] at h
    exact okDs_at (n := n) (ds := ds) (i := i) h.2 e
def spAlike (K : PySem.W.Frag) (n : Nat) : Sp := fun vs H Q _ => ∃ (v1 v2 : V) (d : PyData), vs = [v1, v2] ∧ Dp K H v1 d ∧ Dp K H v2 d ∧ okD n d = true ∧ ∀ H', Same H H' → Q (.bl true) H'
theorem kit_false {K : PySem.W.Frag} {a b : String} (h : kitB a b = some false) : PySem.W.kitOne K (.type a) (.type b) = some false := kit_ty h
theorem alike_step {f : Addr} {fd : FuncData} (F : Df K mg "_law_alike" sAlike ["_law_found", "_law_due"] f fd) (B : Bt mg) (n : Nat) (spS : Sp) (GS : FnOk P w K mg base CX0 n f fd ["_law_found", "_law_due"] spS)
    (hS : ∀ m, n = m + 1 → ∀ vs H Q E, spAlike K m vs H Q E → spS vs H Q E) : FnOk P w K mg base CX0 (n + 1) f fd ["_law_found", "_law_due"] (spAlike K n) := by
  refine F.F.ok scAlike (fun vs H Q E h => ?_) (fun cdv A outer s H vs Q E hr h => ?_)
  · obtain ⟨v1, v2, d, rfl, _⟩ := h
    rfl
  · obtain ⟨v1, v2, d, rfl, h1, h2, hok, q⟩ := h
    refine ⟨_, pss_cons (ps_if (pt_val (pe_callB call_isi (by rfl) B.isinstance b_isinstance (pa_cons (pv 1) (pa_cons (pe_ty (by rfl) B.dict b_dict) pa_nil)))) pss_never pss_nil)
      (pss_cons (ps_if (pt_val (pe_callB call_isiT (by rfl) B.isinstance b_isinstance (pa_cons (pv 1) (pa_cons (pe_tup (pa_cons (pe_ty (by rfl) B.tuple b_tuple) (pa_cons (pe_ty (by rfl) B.list b_list) pa_nil))) pa_nil))))
        (pss_cons (ps_if (pw_or (pt_not (pt_val (pe_callB call_isiT (by rfl) B.isinstance b_isinstance (pa_cons (pv 0) (pa_cons (pe_tup (pa_cons (pe_ty (by rfl) B.tuple b_tuple) (pa_cons (pe_ty (by rfl) B.list b_list) pa_nil))) pa_nil)))))
            (pw_or1 (pt_cmpR op_ne (pe_callB call_isi (by rfl) B.isinstance b_isinstance (pa_cons (pv 0) (pa_cons (pe_ty (by rfl) B.list b_list) pa_nil))) (pe_callB call_isi (by rfl) B.isinstance b_isinstance (pa_cons (pv 1) (pa_cons (pe_ty (by rfl) B.list b_list) pa_nil))) (nomark _)))).pt pss_never pss_nil)
        (pss_cons (ps_if (pt_cmpR op_ne (pe_callB call_len_seq (by rfl) B.len b_len (pa_cons (pv 0) pa_nil)) (pe_callB call_len_seq (by rfl) B.len b_len (pa_cons (pv 1) pa_nil)) (nomark _)) pss_never pss_nil)
        (pss_one (ps_ret (pe_cmpR (op_eqD hr.units)
          (pe_lc (own := [("_law_k", 2)]) (g := gName 2) (tt := tNot (tB (tCall spS [] E0 (tCons (tOp (rIx K) (tVar 0) (tVar 2)) (tCons (tOp (rIx K) (tVar 1) (tVar 2)) tNil))))) (te := tVar 2) rfl scAlike.nd
            (pi_range1 (by rfl) B.range (pa_cons (pe_callB call_len_seq (by rfl) B.len b_len (pa_cons (pv 1) pa_nil)) pa_nil)) (blkOk_by (N := ["_law_found", "_law_due", "_law_k"]) (sc := defScope sAlike) (by decide +kernel))
            (fun _ _ _ _ _ => pg_name (i := 2) scAlike.nd rfl (Or.inl rfl))
            (fun _ _ _ _ _ => pts_one (pt_not (pt_val (pe_call GS hr (by rfl) F.g F.F.kp F.b .nil pass0 (pa_cons (pe_ix ix_seq (pv 0) (pv 2) (fun _ _ => rfl)) (pa_cons (pe_ix ix_seq (pv 1) (pv 2) (fun _ _ => rfl)) pa_nil))))))
            (fun _ _ _ _ _ => pv 2)) (pe_lst pa_nil) (nomark _)))))) pss_nil)
      (pss_cons (ps_if (pw_or (pt_cmpR op_isN (pv 1) pe_non (nomark _)) (pw_or1 (pt_val (pe_callB call_isi (by rfl) B.isinstance b_isinstance (pa_cons (pv 1) (pa_cons (pe_ty (by rfl) B.str b_str) pa_nil)))))).pt
        (pss_one (ps_ret (pe_and (pe_cmpR op_eq (pv 0) (pv 1) (nomark _)) (pe_one (pe_cmpR op_eq (pe_callB call_isi (by rfl) B.isinstance b_isinstance (pa_cons (pv 0) (pa_cons (pe_ty (by rfl) B.str b_str) pa_nil))) (pe_callB call_isi (by rfl) B.isinstance b_isinstance (pa_cons (pv 1) (pa_cons (pe_ty (by rfl) B.str b_str) pa_nil))) (nomark _)))))) pss_nil)
      (pss_one (ps_ret (pe_and (pe_callB call_isi (by rfl) B.isinstance b_isinstance (pa_cons (pv 0) (pa_cons (pe_ty (by rfl) B.int b_int) pa_nil))) (pe_and (pe_cmpR op_eq (pe_callB call_isi (by rfl) B.isinstance b_isinstance (pa_cons (pv 0) (pa_cons (pe_ty (by rfl) B.bool b_bool) pa_nil))) (pe_callB call_isi (by rfl) B.isinstance b_isinstance (pa_cons (pv 1) (pa_cons (pe_ty (by rfl) B.bool b_bool) pa_nil))) (nomark _)) (pe_one (pe_cmpR op_eq (pv 0) (pv 1) (nomark _))))))))), ?_⟩
    have tupcs : Paired ClsV [V.ty "tuple", V.ty "list"] [Value.type "tuple", Value.type "list"] := .cons (.ty "tuple") (.cons (.ty "list") .nil)
    cases d with
    | none =>
      cases h1
      cases h2
      refine ⟨.non, rfl, .non, .ty "dict", _, _, false, rfl, .ty "dict", .base .non, kit_ty (by decide +kernel), false, rfl, iteF ?_⟩
      refine ⟨.non, rfl, (by show 2 ≤ sizeLine; decide), fun p hp => ?_⟩
      refine ⟨.non, p, _, _, _, false, rfl, upd_same, tupcs, .base .non, kitAny_cons (b := false) (kit_ty (by decide +kernel)) (fun _ => kitAny_cons (b := false) (kit_ty (by decide +kernel)) (fun _ => kitAny_nil) (fun z => by cases z)) (fun z => by cases z), false, rfl, iteF ?_⟩
      refine ⟨.non, rfl, rfl, _, rfl, iteT (iteT ?_)⟩
      refine ⟨.non, rfl, .non, rfl, rfl, true, (by rw [decide_eq_true rfl]), iteT ?_⟩
      refine ⟨.non, rfl, .non, .ty "str", _, _, false, rfl, .ty "str", .base .non, kit_ty (by decide +kernel), ?_⟩
      refine ⟨.non, rfl, .non, .ty "str", _, _, false, rfl, .ty "str", .base .non, kit_ty (by decide +kernel), rfl, ?_⟩
      exact q _ (same_upd hp)
    | bool b =>
      cases h1
      cases h2
      refine ⟨.bl b, rfl, .bl b, .ty "dict", _, _, false, rfl, .ty "dict", .base (.bl b), kit_ty (by decide +kernel), false, rfl, iteF ?_⟩
      refine ⟨.bl b, rfl, (by show 2 ≤ sizeLine; decide), fun p hp => ?_⟩
      refine ⟨.bl b, p, _, _, _, false, rfl, upd_same, tupcs, .base (.bl b), kitAny_cons (b := false) (kit_ty (by decide +kernel)) (fun _ => kitAny_cons (b := false) (kit_ty (by decide +kernel)) (fun _ => kitAny_nil) (fun z => by cases z)) (fun z => by cases z), false, rfl, iteF ?_⟩
      refine ⟨.bl b, rfl, rfl, _, rfl, iteF ?_⟩
      refine ⟨.bl b, rfl, .bl b, .ty "str", _, _, false, rfl, .ty "str", .base (.bl b), kit_ty (by decide +kernel), _, rfl, iteF ?_⟩
      refine ⟨.bl b, rfl, .bl b, .ty "int", _, _, true, rfl, .ty "int", .base (.bl b), kit_ty (by decide +kernel), true, rfl, iteT ?_⟩
      refine ⟨.bl b, rfl, .bl b, .ty "bool", _, _, true, rfl, .ty "bool", .base (.bl b), kit_ty (by decide +kernel), ?_⟩
      refine ⟨.bl b, rfl, .bl b, .ty "bool", _, _, true, rfl, .ty "bool", .base (.bl b), kit_ty (by decide +kernel), rfl, true, rfl, iteT ?_⟩
      refine ⟨.bl b, rfl, .bl b, rfl, rfl, ?_⟩
      show Q (.bl (decide (V.bl b = V.bl b))) _
      rw [decide_eq_true rfl]
      exact q _ (same_upd hp)
    | int i =>
      cases h1
      cases h2
      refine ⟨.int i, rfl, .int i, .ty "dict", _, _, false, rfl, .ty "dict", .base (.int i), kit_ty (by decide +kernel), false, rfl, iteF ?_⟩
      refine ⟨.int i, rfl, (by show 2 ≤ sizeLine; decide), fun p hp => ?_⟩
      refine ⟨.int i, p, _, _, _, false, rfl, upd_same, tupcs, .base (.int i), kitAny_cons (b := false) (kit_ty (by decide +kernel)) (fun _ => kitAny_cons (b := false) (kit_ty (by decide +kernel)) (fun _ => kitAny_nil) (fun z => by cases z)) (fun z => by cases z), false, rfl, iteF ?_⟩
      refine ⟨.int i, rfl, rfl, _, rfl, iteF ?_⟩
      refine ⟨.int i, rfl, .int i, .ty "str", _, _, false, rfl, .ty "str", .base (.int i), kit_ty (by decide +kernel), _, rfl, iteF ?_⟩
      refine ⟨.int i, rfl, .int i, .ty "int", _, _, true, rfl, .ty "int", .base (.int i), kit_ty (by decide +kernel), true, rfl, iteT ?_⟩
      refine ⟨.int i, rfl, .int i, .ty "bool", _, _, false, rfl, .ty "bool", .base (.int i), kit_ty (by decide +kernel), ?_⟩
      refine ⟨.int i, rfl, .int i, .ty "bool", _, _, false, rfl, .ty "bool", .base (.int i), kit_ty (by decide +kernel), rfl, true, rfl, iteT ?_⟩
      refine ⟨.int i, rfl, .int i, rfl, rfl, ?_⟩
      show Q (.bl (decide (V.int i = V.int i))) _
      rw [decide_eq_true rfl]
      exact q _ (same_upd hp)
    | str x =>
      cases h1
      cases h2
      refine ⟨.str x, rfl, .str x, .ty "dict", _, _, false, rfl, .ty "dict", .base (.str x), kit_ty (by decide +kernel), false, rfl, iteF ?_⟩
      refine ⟨.str x, rfl, (by show 2 ≤ sizeLine; decide), fun p hp => ?_⟩
      refine ⟨.str x, p, _, _, _, false, rfl, upd_same, tupcs, .base (.str x), kitAny_cons (b := false) (kit_ty (by decide +kernel)) (fun _ => kitAny_cons (b := false) (kit_ty (by decide +kernel)) (fun _ => kitAny_nil) (fun z => by cases z)) (fun z => by cases z), false, rfl, iteF ?_⟩
      refine ⟨.str x, rfl, rfl, _, rfl, iteF ?_⟩
      refine ⟨.str x, rfl, .str x, .ty "str", _, _, true, rfl, .ty "str", .base (.str x), kit_ty (by decide +kernel), _, rfl, iteT ?_⟩
      refine ⟨.str x, rfl, .str x, rfl, rfl, true, (by rw [decide_eq_true rfl]), iteT ?_⟩
      refine ⟨.str x, rfl, .str x, .ty "str", _, _, true, rfl, .ty "str", .base (.str x), kit_ty (by decide +kernel), ?_⟩
      refine ⟨.str x, rfl, .str x, .ty "str", _, _, true, rfl, .ty "str", .base (.str x), kit_ty (by decide +kernel), rfl, ?_⟩
      exact q _ (same_upd hp)
    | list ds =>
      cases n with
      | zero => rw [okD] at hok; cases hok
      | succ m =>
      rw [okD, Bool.and_eq_true] at hok
      have hdl : ds.length ≤ 1000 := of_decide_eq_true hok.1
      cases h1 with
      | @lst a1 xs1 _ hs1 ha1 =>
      cases h2 with
      | @lst a2 xs2 _ hs2 ha2 =>
      have l1 := dpAll_len ha1
      have l2 := dpAll_len ha2
      refine ⟨.ref a2, rfl, .ref a2, .ty "dict", _, _, false, rfl, .ty "dict", tyx_lst hs2, kit_ty (by decide +kernel), false, rfl, iteF ?_⟩
      refine ⟨.ref a2, rfl, (by show 2 ≤ sizeLine; decide), fun p hp => ?_⟩
      have sm1 : Same H (upd H p (.tup [V.ty "tuple", V.ty "list"])) := same_upd hp
      refine ⟨.ref a2, p, _, _, _, true, rfl, upd_same, tupcs, tyx_lst (Same.seq sm1 hs2), kitAny_cons (b := false) (kit_ty (by decide +kernel)) (fun _ => kitAny_cons (b := true) (kit_ty (by decide +kernel)) (fun z => by cases z) (fun _ => rfl)) (fun z => by cases z), true, rfl, iteT ?_⟩
      refine ⟨.ref a1, rfl, (by show 2 ≤ sizeLine; decide), fun p2 hp2 => ?_⟩
      have sm2 : Same H (upd (upd H p (.tup [V.ty "tuple", V.ty "list"])) p2 (.tup [V.ty "tuple", V.ty "list"])) := same_of sm1 (Same.free sm1 hp2)
      refine ⟨.ref a1, p2, _, _, _, true, rfl, upd_same, tupcs, tyx_lst (Same.seq sm2 hs1), kitAny_cons (b := false) (kit_ty (by decide +kernel)) (fun _ => kitAny_cons (b := true) (kit_ty (by decide +kernel)) (fun z => by cases z) (fun _ => rfl)) (fun z => by cases z), true, rfl, iteF ?_⟩
      refine ⟨.ref a1, rfl, .ref a1, .ty "list", _, _, true, rfl, .ty "list", tyx_lst (Same.seq sm2 hs1), kit_ty (by decide +kernel), ?_⟩
      refine ⟨.ref a2, rfl, .ref a2, .ty "list", _, _, true, rfl, .ty "list", tyx_lst (Same.seq sm2 hs2), kit_ty (by decide +kernel), rfl, false, rfl, iteF ?_⟩
      refine ⟨.ref a1, rfl, a1, xs1, rfl, .inl (Same.seq sm2 hs1), .ref a2, rfl, a2, xs2, rfl, .inl (Same.seq sm2 hs2), rfl, _, rfl, ?_⟩
      rw [l1, l2, decide_eq_true rfl]
      refine iteF ?_
      have b62 : (1000 : Int) < 2 ^ 62 := by decide
      refine ⟨.ref a2, rfl, a2, xs2, rfl, .inl (Same.seq sm2 hs2), (xs2.length : Nat), rfl, by omega, by omega, fun D hD => ?_⟩
      have smD : Same H (upd (upd (upd H p (.tup [V.ty "tuple", V.ty "list"])) p2 (.tup [V.ty "tuple", V.ty "list"])) D (.lst [])) := same_of sm2 (Same.free sm2 hD)
      refine lc_range (lo := 0) (n := (xs2.length : Int).toNat) (fun i H' => Same H H' ∧ H' D = some (.lst [])) ⟨smD, upd_same⟩ (fun i H' hi ⟨sm, hd⟩ => ?_) (fun H' ⟨sm, hd⟩ => ?_)
      · have hi2 : i < ds.length := by
          rw [Int.toNat_natCast] at hi
          omega
        obtain ⟨w1, g1, e1⟩ := dpAll_at ha1 (List.getElem?_eq_getElem hi2)
        obtain ⟨w2, g2, e2⟩ := dpAll_at ha2 (List.getElem?_eq_getElem hi2)
        have ei : (0 : Int) + (i : Nat) = (i : Nat) := by omega
        rw [ei]
        refine ⟨rfl, .ref a1, rfl, .int (i : Nat), rfl, .inl ⟨a1, xs1, (i : Nat), w1, rfl, rfl, (Same.seq sm hs1), atI_nat g1, ?_⟩⟩
        refine ⟨.ref a2, rfl, .int (i : Nat), rfl, .inl ⟨a2, xs2, (i : Nat), w2, rfl, rfl, (Same.seq sm hs2), atI_nat g2, ?_⟩⟩
        refine hS m rfl _ _ _ _ ⟨w1, w2, _, rfl, dp_same sm _ _ e1, dp_same sm _ _ e2, okDs_at hok.2 (List.getElem?_eq_getElem hi2), fun H3 sm3 => ⟨true, rfl, iteF ⟨sm.trans sm3, sm3 _ _ hd⟩⟩⟩
      · refine ⟨Nat.zero_le _, fun z hz => ?_⟩
        refine ⟨.list [], .list [], .lst (.inl (.inl ?_)) .nil, .lst (.inl (.inl upd_same)) .nil, rfl, rfl, q _ (same_of sm (Same.free sm hz))⟩
        rw [upd_ne (ne_of_none hd hz)]
        exact hd
    | tuple ds =>
      cases n with
      | zero => rw [okD] at hok; cases hok
      | succ m =>
      rw [okD, Bool.and_eq_true] at hok
      have hdl : ds.length ≤ 1000 := of_decide_eq_true hok.1
      cases h1 with
      | @tup a1 xs1 _ hs1 ha1 =>
      cases h2 with
      | @tup a2 xs2 _ hs2 ha2 =>
      have l1 := dpAll_len ha1
      have l2 := dpAll_len ha2
      refine ⟨.ref a2, rfl, .ref a2, .ty "dict", _, _, false, rfl, .ty "dict", tyx_tup hs2, kit_ty (by decide +kernel), false, rfl, iteF ?_⟩
      refine ⟨.ref a2, rfl, (by show 2 ≤ sizeLine; decide), fun p hp => ?_⟩
      have sm1 : Same H (upd H p (.tup [V.ty "tuple", V.ty "list"])) := same_upd hp
      refine ⟨.ref a2, p, _, _, _, true, rfl, upd_same, tupcs, tyx_tup (sqT_same sm1 hs2), kitAny_cons (b := true) (kit_ty (by decide +kernel)) (fun z => by cases z) (fun _ => rfl), true, rfl, iteT ?_⟩
      refine ⟨.ref a1, rfl, (by show 2 ≤ sizeLine; decide), fun p2 hp2 => ?_⟩
      have sm2 : Same H (upd (upd H p (.tup [V.ty "tuple", V.ty "list"])) p2 (.tup [V.ty "tuple", V.ty "list"])) := same_of sm1 (Same.free sm1 hp2)
      refine ⟨.ref a1, p2, _, _, _, true, rfl, upd_same, tupcs, tyx_tup (sqT_same sm2 hs1), kitAny_cons (b := true) (kit_ty (by decide +kernel)) (fun z => by cases z) (fun _ => rfl), true, rfl, iteF ?_⟩
      refine ⟨.ref a1, rfl, .ref a1, .ty "list", _, _, false, rfl, .ty "list", tyx_tup (sqT_same sm2 hs1), kit_ty (by decide +kernel), ?_⟩
      refine ⟨.ref a2, rfl, .ref a2, .ty "list", _, _, false, rfl, .ty "list", tyx_tup (sqT_same sm2 hs2), kit_ty (by decide +kernel), rfl, false, rfl, iteF ?_⟩
      refine ⟨.ref a1, rfl, a1, xs1, rfl, .inr (sqT_same sm2 hs1), .ref a2, rfl, a2, xs2, rfl, .inr (sqT_same sm2 hs2), rfl, _, rfl, ?_⟩
      rw [l1, l2, decide_eq_true rfl]
      refine iteF ?_
      have b62 : (1000 : Int) < 2 ^ 62 := by decide
      refine ⟨.ref a2, rfl, a2, xs2, rfl, .inr (sqT_same sm2 hs2), (xs2.length : Nat), rfl, by omega, by omega, fun D hD => ?_⟩
      have smD : Same H (upd (upd (upd H p (.tup [V.ty "tuple", V.ty "list"])) p2 (.tup [V.ty "tuple", V.ty "list"])) D (.lst [])) := same_of sm2 (Same.free sm2 hD)
      refine lc_range (lo := 0) (n := (xs2.length : Int).toNat) (fun i H' => Same H H' ∧ H' D = some (.lst [])) ⟨smD, upd_same⟩ (fun i H' hi ⟨sm, hd⟩ => ?_) (fun H' ⟨sm, hd⟩ => ?_)
      · have hi2 : i < ds.length := by
          rw [Int.toNat_natCast] at hi
          omega
        obtain ⟨w1, g1, e1⟩ := dpAll_at ha1 (List.getElem?_eq_getElem hi2)
        obtain ⟨w2, g2, e2⟩ := dpAll_at ha2 (List.getElem?_eq_getElem hi2)
        have ei : (0 : Int) + (i : Nat) = (i : Nat) := by omega
        rw [ei]
        refine ⟨rfl, .ref a1, rfl, .int (i : Nat), rfl, .inr <| .inl ⟨a1, xs1, (i : Nat), w1, rfl, rfl, (sqT_same sm hs1), atI_nat g1, ?_⟩⟩
        refine ⟨.ref a2, rfl, .int (i : Nat), rfl, .inr <| .inl ⟨a2, xs2, (i : Nat), w2, rfl, rfl, (sqT_same sm hs2), atI_nat g2, ?_⟩⟩
        refine hS m rfl _ _ _ _ ⟨w1, w2, _, rfl, dp_same sm _ _ e1, dp_same sm _ _ e2, okDs_at hok.2 (List.getElem?_eq_getElem hi2), fun H3 sm3 => ⟨true, rfl, iteF ⟨sm.trans sm3, sm3 _ _ hd⟩⟩⟩
      · refine ⟨Nat.zero_le _, fun z hz => ?_⟩
        refine ⟨.list [], .list [], .lst (.inl (.inl ?_)) .nil, .lst (.inl (.inl upd_same)) .nil, rfl, rfl, q _ (same_of sm (Same.free sm hz))⟩
        rw [upd_ne (ne_of_none hd hz)]
        exact hd
    | dict _ => cases h1
theorem ok_alike {f : Addr} {fd : FuncData} (F : Df K mg "_law_alike" sAlike ["_law_found", "_law_due"] f fd) (B : Bt mg) : ∀ n, FnOk P w K mg base CX0 (n + 1) f fd ["_law_found", "_law_due"] (spAlike K n)
  | 0 => alike_step F B 0 (fun _ _ _ _ => False) ⟨fun _ _ _ _ h => h.elim, fun _ _ _ _ _ _ _ _ _ _ _ _ _ h => h.elim⟩ (fun m e => by omega)
  | n + 1 => alike_step F B (n + 1) (spAlike K n) (ok_alike F B n) (fun m e vs H Q E h => by
    have : m = n := by omega
    subst this
    exact h)
end
end Sv


set_option maxHeartbeats 8000000
namespace Sv
open PySem PySem.Spec PyProof.Rows L2 LamX NdefX
/-! ### _law_error -/
/-- the exception's dict, if there is one -/
def Dd (d : Option Addr) (H : Hp) : Prop := d = none ∨ ∃ (dd : Addr) (fs : List (Str × V)), d = some dd ∧ H dd = some (.xd fs)
theorem Dd.same {d : Option Addr} {H H' : Hp} (h : Dd d H) (e : Same H H') : Dd d H' := by
  rcases h with h | ⟨dd, fs, h1, h2⟩
  · exact .inl h
  · exact .inr ⟨dd, fs, h1, e _ _ h2⟩
def rIsD (K : PySem.W.Frag) (D a : Addr) (d : Option Addr) : List V → Hp → VK → Prop := fun xs H Q => ∃ (c : V) (cv : Value) (b : Bool), xs = [.ref a, c] ∧ (∀ u, RelV c u → u = cv) ∧ PySem.W.kitOne K (.ref D) cv = some b ∧ Dd d H ∧ Q (.bl b) H
theorem call_isD {X : Cx} {a D : Addr} {d : Option Addr} {oe : Obj} {pn : List (Addr × Obj)} (C : ExcC X.K D) (hz : Zc (.ref D) d oe) (hf : ∃ vs, oe.data = .fields vs) : CallR (X.suite a ((a, oe) :: pn)) (.builtin "isinstance") (rIsD X.K D a d) := by
  intro pins s σ H xs us Q I r h
  obtain ⟨c, cv, b, rfl, hcv, e, hd, q⟩ := h
  cases r with
  | cons rx rr =>
    cases rr with
    | cons rt rr =>
      cases rr
      cases rx
      have ec := hcv _ rt
      subst ec
      obtain ⟨hget, _⟩ := I.pin (a, oe) (List.mem_append.mpr (.inl List.mem_cons_self))
      obtain ⟨vs, hv⟩ := hf
      have hcl : (PySem.W.clsIn X.K D).isSome = true := by
        obtain ⟨cdD, hcD, _⟩ := PySem.W.any_some C.hd
        rw [hcD]
        rfl
      obtain ⟨od, J⟩ : ∃ od, PySem.W.InstAt s.heap a oe D od := by
        rcases hd with rfl | ⟨dd, fs, rfl, hdd⟩
        · refine ⟨none, hget, hz.1, by unfold PySem.W.notCls; rw [hv] <;> rfl, by rw [hz.2]; trivial⟩
        · have hx : ObjOk X.prog X.w H s.heap dd (.xd fs) := I.hok dd _ hdd
          obtain ⟨mA, hns, hr⟩ := hx
          obtain ⟨od, ho, hl⟩ := lookIn_ns hns
          exact ⟨some od, hget, hz.1, by unfold PySem.W.notCls; rw [hv] <;> rfl, by rw [hz.2]; exact ho⟩
      exact PySem.W.kia_one (PySem.W.kitx_exc hcl C.hg C.hk C.hs C.ha C.hn C.ht C.hm) I.kIn J e (fun z => nomatch z) fun tk => ⟨.bl b, H, I.kept (t' := tk) fun _ _ z => z, rfl, q⟩
theorem b_VE : bootBuiltins "ValueError" = some (.type "ValueError") := by decide +kernel
theorem pa_one {X : Cx} {e : Expr} {te : TE} (h : PE X e te) (hs : starEach [e] X.env = (false, eval e X.env) :: starEach [] X.env := by rfl) : PA X [e] (tCons te tNil) := pa_cons h pa_nil hs
theorem pe_never {X : Cx} {e : Expr} : PE X e (fun _ _ _ => False) := ⟨fun _ _ _ _ _ _ h => h.elim⟩
/-- the classes' names at the top -/
structure ErG (mg : Str → Option Value) (CS C0 C1 C2 C3 C4 C5 C6 C7 C8 C9 C10 C11 C12 C13 C14 : Addr) : Prop where
  gS : mg "ShelfError" = some (.ref CS)
  g0 : mg "InvalidPlan" = some (.ref C0)
  g1 : mg "InvalidState" = some (.ref C1)
  g2 : mg "InvalidCount" = some (.ref C2)
  g3 : mg "UnknownPlace" = some (.ref C3)
  g4 : mg "UnknownParcel" = some (.ref C4)
  g5 : mg "UnknownShelf" = some (.ref C5)
  g6 : mg "UnknownCarrier" = some (.ref C6)
  g7 : mg "InvalidEffect" = some (.ref C7)
  g8 : mg "DifferentSizes" = some (.ref C8)
  g9 : mg "InvalidParcels" = some (.ref C9)
  g10 : mg "Contradiction" = some (.ref C10)
  g11 : mg "InvalidArrangement" = some (.ref C11)
  g12 : mg "ShelfFull" = some (.ref C12)
  g13 : mg "ParcelCarried" = some (.ref C13)
  g14 : mg "InvalidSwap" = some (.ref C14)
  gV : mg "ValueError" = none
def kl (b0 b1 b2 b3 b4 b5 b6 b7 b8 b9 b10 b11 b12 b13 b14 : Bool) : List V := [.bl b0, .bl b1, .bl b2, .bl b3, .bl b4, .bl b5, .bl b6, .bl b7, .bl b8, .bl b9, .bl b10, .bl b11, .bl b12, .bl b13, .bl b14]
def nmL : List V := [.str "plan", .str "state", .str "count", .str "place", .str "parcel", .str "shelf", .str "carrier", .str "effect", .str "sizes", .str "parcels", .str "contradiction", .str "arrangement", .str "full", .str "carried", .str "swap"]
/-- how the class D answers, and its name -/
structure ErK (K : PySem.W.Frag) (CS C0 C1 C2 C3 C4 C5 C6 C7 C8 C9 C10 C11 C12 C13 C14 D : Addr) (nm : Str) (b0 b1 b2 b3 b4 b5 b6 b7 b8 b9 b10 b11 b12 b13 b14 : Bool) (j : Nat) : Prop where
  exc : ExcC K D
  ex : PySem.W.exmOne K (.ref D) (.ref CS) = some true
  ve : PySem.W.kitOne K (.ref D) (.type "ValueError") = some true
  k0 : PySem.W.kitOne K (.ref D) (.ref C0) = some b0
  k1 : PySem.W.kitOne K (.ref D) (.ref C1) = some b1
  k2 : PySem.W.kitOne K (.ref D) (.ref C2) = some b2
  k3 : PySem.W.kitOne K (.ref D) (.ref C3) = some b3
  k4 : PySem.W.kitOne K (.ref D) (.ref C4) = some b4
  k5 : PySem.W.kitOne K (.ref D) (.ref C5) = some b5
  k6 : PySem.W.kitOne K (.ref D) (.ref C6) = some b6
  k7 : PySem.W.kitOne K (.ref D) (.ref C7) = some b7
  k8 : PySem.W.kitOne K (.ref D) (.ref C8) = some b8
  k9 : PySem.W.kitOne K (.ref D) (.ref C9) = some b9
  k10 : PySem.W.kitOne K (.ref D) (.ref C10) = some b10
  k11 : PySem.W.kitOne K (.ref D) (.ref C11) = some b11
  k12 : PySem.W.kitOne K (.ref D) (.ref C12) = some b12
  k13 : PySem.W.kitOne K (.ref D) (.ref C13) = some b13
  k14 : PySem.W.kitOne K (.ref D) (.ref C14) = some b14
  cnt : ((kl b0 b1 b2 b3 b4 b5 b6 b7 b8 b9 b10 b11 b12 b13 b14).countP fun z => eqV z (.bl true)) = 1
  at_ : (kl b0 b1 b2 b3 b4 b5 b6 b7 b8 b9 b10 b11 b12 b13 b14)[j]? = some (.bl true)
  be : ∀ (m : Nat) (z : V), m < j → (kl b0 b1 b2 b3 b4 b5 b6 b7 b8 b9 b10 b11 b12 b13 b14)[m]? = some z → eqV z (.bl true) = false
  tag : nmL[j]? = some (.str nm)
def NewS (H : Hp) (t : List V) (Q : VK) : Prop := ∀ H' p, Same H H' → H p = none → H' p = some (.tup t) → Q (.ref p) H'
theorem NewS.imp {H H1 : Hp} {t : List V} {Q : VK} (h : NewS H t Q) (e : Same H H1) : NewS H1 t Q := fun H' p sm hp hq => h H' p (e.trans sm) (Same.free e hp) hq
/-- what is wanted of the errors and of the value -/
def ErrE (K : PySem.W.Frag) (CS C0 C1 C2 C3 C4 C5 C6 C7 C8 C9 C10 C11 C12 C13 C14 : Addr) (Q : VK) : XK := fun cls d H' => ∃ (D : Addr) (nm : Str) (b0 b1 b2 b3 b4 b5 b6 b7 b8 b9 b10 b11 b12 b13 b14 : Bool) (j : Nat), cls = .ref D ∧ Dd d H' ∧ ErK K CS C0 C1 C2 C3 C4 C5 C6 C7 C8 C9 C10 C11 C12 C13 C14 D nm b0 b1 b2 b3 b4 b5 b6 b7 b8 b9 b10 b11 b12 b13 b14 j ∧
  ((nm ≠ "plan" ∧ nm ≠ "swap" ∧ NewS H' [.str nm] Q) ∨ (nm = "plan" ∧ D = C0 ∧ ∃ (dd : Addr) (fs : List (Str × V)) (x y : V), d = some dd ∧ H' dd = some (.xd fs) ∧ fs.lookup ("part" : Str) = some x ∧ fs.lookup ("index" : Str) = some y ∧ NewS H' [.str "plan", x, y] Q))
def OkQ (Q : VK) : VK := fun _ H' => NewS H' [.str "none"] Q
def KnErr (P : Program) (w : World) (K : PySem.W.Frag) (mg : Str → Option Value) (base : Heap) (k : Nat) (CS C0 C1 C2 C3 C4 C5 C6 C7 C8 C9 C10 C11 C12 C13 C14 : Addr) : List Addr → Shared → Hp → V → VK → Prop := fun fs s H v Q =>
  ∃ (f : Addr) (L : LF) (fr : List Str) (dvs : List V) (ws : List (Option V)) (tl : List (Option V) → XK → Hp → VK → Prop), v = .ref f ∧ LamAt P w K mg base k fs s H f L fr dvs ws tl ∧ tl ws (ErrE K CS C0 C1 C2 C3 C4 C5 C6 C7 C8 C9 C10 C11 C12 C13 C14 Q) H (OkQ Q)
section
variable {P : Program} {w : World} {K : PySem.W.Frag} {mg : Str → Option Value} {base : Heap}
theorem lst_same {H H' : Hp} {D : Addr} {xs : List V} {o : HO} (sm : Same H H') (hD : H D = none) : Same H (upd H' D o) := same_of sm hD
end
end Sv

set_option maxHeartbeats 8000000
namespace Sv
open PySem PySem.Spec PyProof.Rows L2
@[irreducible] def qNext : Sp := spNext
theorem go_next {H : Hp} {h l : Addr} {lim : Int} {Q : VK} {E : XK} (LH : LawH H h l) (p1 : 0 < lim) (p2 : lim < 2 ^ 64) (q : ∀ (r : Nat) H', (r : Int) < lim → LawH H' h l → SameX h l H H' → Q (.int (r : Nat)) H') : qNext [.ref h, .int lim] H Q E := by
  unfold qNext
  exact ⟨h, l, lim, rfl, LH, p1, p2, fun r H' r0 r1 L k => by
    obtain ⟨n, rfl⟩ : ∃ n : Nat, r = (n : Int) := ⟨r.toNat, (Int.toNat_of_nonneg r0).symm⟩
    exact q n H' r1 L k⟩
/-- h and l stand, what was tracked but them is kept, and x is kept, too -/
structure St (h l : Addr) (H H' : Hp) : Prop where
  law : LawH H' h l
  k : SameX h l H H'
theorem St.next {h l : Addr} {H H1 H2 : Hp} (a : St h l H H1) (L : LawH H2 h l) (x : SameX h l H1 H2) : St h l H H2 := ⟨L, a.k.trans x⟩
theorem St.same {h l : Addr} {H H1 H2 : Hp} (a : St h l H H1) (e : Same H1 H2) : St h l H H2 := ⟨a.law.same e, fun b o h1 h2 q => e b o (a.k b o h1 h2 q)⟩
theorem LawH.nh {H : Hp} {h l f : Addr} (x : LawH H h l) (hf : H f = none) : f ≠ h ∧ f ≠ l := by
  obtain ⟨m, i, cs, e1, e2, _⟩ := x.ex
  exact ⟨(ne_of_none e1 hf).symm, (ne_of_none e2 hf).symm⟩
theorem LawH.upd {H : Hp} {h l f : Addr} {o : HO} (x : LawH H h l) (h1 : f ≠ h) (h2 : f ≠ l) : LawH (L2.upd H f o) h l := by
  obtain ⟨m, i, cs, e1, e2, e3⟩ := x.ex
  exact ⟨m, i, cs, by rw [upd_ne (Ne.symm h1)]; exact e1, by rw [upd_ne (Ne.symm h2)]; exact e2, e3⟩
theorem St.upd {h l f : Addr} {H H1 : Hp} {o : HO} (a : St h l H H1) (hf : H f = none) (h1 : f ≠ h) (h2 : f ≠ l) : St h l H (L2.upd H1 f o) := by
  refine ⟨a.law.upd h1 h2, fun b u b1 b2 q => ?_⟩
  rw [upd_ne (ne_of_none q hf)]
  exact a.k b u b1 b2 q
theorem St.none {h l f : Addr} {H H1 : Hp} (a : St h l H H1) (hf : H1 f = Option.none) : H f = Option.none := by
  cases q : H f with
  | none => rfl
  | some o =>
    obtain ⟨n1, n2⟩ := a.law.nh hf
    rw [a.k f o n1 n2 q] at hf
    cases hf
theorem St.trans {h l : Addr} {H H1 H2 : Hp} (a : St h l H H1) (b : St h l H1 H2) : St h l H H2 := ⟨b.law, a.k.trans b.k⟩
theorem St.refl {h l : Addr} {H : Hp} (x : LawH H h l) : St h l H H := ⟨x, fun _ _ _ _ q => q⟩
theorem sqT_x {K : PySem.W.Frag} {H H1 : Hp} {h l a : Addr} {xs : List V} (L : LawH H h l) (e : SameX h l H H1) (s : SqT K H a xs) : SqT K H1 a xs := by
  obtain ⟨m, i, cs, e1, e2, _⟩ := L.ex
  rcases s with (s | ⟨o, s⟩) | s
  · exact .inl (.inl (e _ _ (fun z => by rw [z, e1] at s; cases s) (fun z => by rw [z, e2] at s; cases s) s))
  · exact .inl (.inr ⟨o, e _ _ (fun z => by rw [z, e1] at s; cases s) (fun z => by rw [z, e2] at s; cases s) s⟩)
  · exact .inr s
theorem paired_x {K : PySem.W.Frag} {H H' : Hp} {h l : Addr} (L : LawH H h l) (e : SameX h l H H') : ∀ {qs : List Addr} {rs : List Ro}, Paired (fun q r => SqT K H q (rV r)) qs rs → Paired (fun q r => SqT K H' q (rV r)) qs rs
  | _, _, .nil => .nil
  | _, _, .cons h t => .cons (sqT_x L e h) (paired_x L e t)
theorem RtAt.x {K : PySem.W.Frag} {H H' : Hp} {h l b : Addr} {rs : List Ro} (x : RtAt K H b rs) (L : LawH H h l) (e : SameX h l H H') : RtAt K H' b rs := by
  obtain ⟨qs, h1, h2⟩ := x.ex
  exact ⟨qs, sqT_x L e h1, paired_x L e h2⟩
theorem PlanAt.x {K : PySem.W.Frag} {H H' : Hp} {h l p : Addr} {zs : List Int} {rs : List Ro} (x : PlanAt K H p zs rs) (L : LawH H h l) (e : SameX h l H H') : PlanAt K H' p zs rs := by
  obtain ⟨a, b, h1, h2, h3⟩ := x.ex
  exact ⟨a, b, sqT_x L e h1, sqT_x L e h2, h3.x L e⟩
theorem paired_imp {K : PySem.W.Frag} {H H' : Hp} (e : ∀ a xs, SqT K H a xs → SqT K H' a xs) : ∀ {qs : List Addr} {rs : List Ro}, Paired (fun q r => SqT K H q (rV r)) qs rs → Paired (fun q r => SqT K H' q (rV r)) qs rs
  | _, _, .nil => .nil
  | _, _, .cons h t => .cons (e _ _ h) (paired_imp e t)
theorem paired_snoc {K : PySem.W.Frag} {H : Hp} {q : Addr} {r : Ro} (h : SqT K H q (rV r)) : ∀ {qs : List Addr} {rs : List Ro}, Paired (fun q r => SqT K H q (rV r)) qs rs → Paired (fun q r => SqT K H q (rV r)) (qs ++ [q]) (rs ++ [r])
  | _, _, .nil => .cons h .nil
  | _, _, .cons g t => .cons g (paired_snoc h t)
theorem sqT_lst {K : PySem.W.Frag} {H : Hp} {f a : Addr} {xs ys : List V} {o : HO} (hf : H f = some (.lst ys)) (s : SqT K H a xs) : SqT K (upd H f o) a xs := by
  rcases s with (s | ⟨u, s⟩) | s
  · exact .inl (.inl (by rw [upd_ne (fun z => by rw [z, hf] at s; cases s)]; exact s))
  · exact .inl (.inr ⟨u, by rw [upd_ne (fun z => by rw [z, hf] at s; cases s)]; exact s⟩)
  · exact .inr s
section
variable {P : Program} {w : World} {K : PySem.W.Frag} {mg : Str → Option Value} {base : Heap}
def nPla : List Str := ["_law_h", "_law_shelves", "_law_carriers", "_law_sizes", "_law_shelf", "_law_routes", "_law_carrier", "_law_entries", "_law_k"]
/-- a valid plan, its entries too -/
structure Good2 (zs : List Int) (rs : List Ro) : Prop where
  z1 : 1 ≤ zs.length ∧ zs.length ≤ 12
  z2 : ∀ z ∈ zs, 0 ≤ z ∧ z ≤ 9
  r1 : 1 ≤ rs.length ∧ rs.length ≤ 6
  r2 : ∀ r ∈ rs, 1 ≤ r.length ∧ r.length ≤ 6
def spPlan (K : PySem.W.Frag) : Sp := fun vs H Q _ => ∃ (h l : Addr), vs = [.ref h, .int 12, .int 6] ∧ LawH H h l ∧ ∀ H' p zs rs, St h l H H' → PlanAt K H' p zs rs → Good2 zs rs → Q (.ref p) H'
end
end Sv


set_option maxHeartbeats 4000000
namespace Sv
open PySem PySem.Spec PyProof.Rows L2
theorem scCheckCount : FnScope ["count"] ["count"] (defScope sCheckCount) := ⟨rfl, rfl, rfl, by decide +kernel, rfl, by decide +kernel, by decide +kernel⟩
theorem scCheckTicks : FnScope ["count"] ["count"] (defScope sCheckTicks) := ⟨rfl, rfl, rfl, by decide +kernel, rfl, by decide +kernel, by decide +kernel⟩
theorem scCheckOrdinal : FnScope ["number"] ["number"] (defScope sCheckOrdinal) := ⟨rfl, rfl, rfl, by decide +kernel, rfl, by decide +kernel, by decide +kernel⟩
theorem scCheckBetween : FnScope ["number", "low", "high"] ["number", "low", "high"] (defScope sCheckBetween) := ⟨rfl, rfl, rfl, by decide +kernel, rfl, by decide +kernel, by decide +kernel⟩
section
variable {P : Program} {w : World} {K : PySem.W.Frag} {mg : Str → Option Value} {base : Heap}
/-! ### effects as tuples -/
def vN (e : List Nat) : List V := e.map fun (n : Nat) => V.int (n : Int)
theorem vN_len (e : List Nat) : (vN e).length = e.length := by unfold vN; simp
theorem vN_get {e : List Nat} {i : Nat} (h : i < e.length) : (vN e)[i]? = some (.int (ap e i : Nat)) := by
  unfold vN
  rw [List.getElem?_map, ap_at h]
  rfl
def EffI (ns : List Int) : Prop := (∀ x ∈ ns, 0 ≤ x ∧ x ≤ (ns.length : Int) - 1) ∧ ns.Nodup
instance (ns : List Int) : Decidable (EffI ns) := by unfold EffI; infer_instance
theorem effI_of {e : List Nat} (E : Eff e) : EffI (e.map fun (n : Nat) => (n : Int)) := by
  refine ⟨fun x hx => ?_, ?_⟩
  · obtain ⟨y, hy, rfl⟩ := List.mem_map.mp hx
    have := E.1 y hy
    rw [List.length_map]
    omega
  · refine List.pairwise_iff_getElem.mpr fun i j hi hj hij q => ?_
    simp only [List.getElem_map] at q
    simp at hi hj
    exact absurd ((List.getElem_inj E.2).mp (by omega : e[i] = e[j])) (by omega)
theorem vN_ints (e : List Nat) : vN e = (e.map fun (n : Nat) => (n : Int)).map V.int := by unfold vN; rw [List.map_map]; rfl
def spIsEffect (K : PySem.W.Frag) : Sp := fun vs H Q _ => ∃ (a : Addr) (ns : List Int), vs = [.ref a] ∧ SqT K H a (ns.map V.int) ∧ ns.length ≤ 1000 ∧ Q (.bl (decide (EffI ns))) H
end
end Sv


set_option maxHeartbeats 4000000
namespace Sv
open PySem PySem.Spec PyProof.Rows L2
section
variable {P : Program} {w : World} {K : PySem.W.Frag} {mg : Str → Option Value} {base : Heap}
abbrev CtOk (n : Int) : Prop := -1000000000000000000 ≤ n ∧ n ≤ 1000000000000000000
def spCheckCount (CC : Addr) : Sp := fun vs H Q E => ∃ n : Int, vs = [.int n] ∧ (CtOk n → Q .non H) ∧ (¬ CtOk n → E (.ref CC) none H)
def spCheckBetween (CC : Addr) : Sp := fun vs H Q E => ∃ n lo hi : Int, vs = [.int n, .int lo, .int hi] ∧ ((lo ≤ n ∧ n ≤ hi) → Q .non H) ∧ (¬ (lo ≤ n ∧ n ≤ hi) → E (.ref CC) none H)
theorem ok_checkBetween (T : Bd P K mg) : FnOk P w K mg base (L2.CX P w) 2 T.aCheckBetween T.dCheckBetween ["number", "low", "high"] (spCheckBetween T.CC) := by
  have GW : FnOk P w K mg base CX0 1 T.aWithin T.dWithin ["number", "low", "high"] spWithin := ok_within T.Within.F T.bt.isinstance T.bt.bool T.bt.int
  refine T.CheckBetween.F.okX scCheckBetween (fun vs H Q E h => ?_) (fun cdv A outer s H vs Q E hr h => ?_)
  · obtain ⟨n, lo, hi, rfl, _⟩ := h
    rfl
  · obtain ⟨n, lo, hi, rfl, q1, q2⟩ := h
    refine ⟨_, pss_one (ps_if (pt_not (pt_val (pe_call GW hr (by rfl) T.Within.g T.Within.F.kp T.Within.b .nil pass0 (pa_cons (pv 0) (pa_cons (pv 1) (pa_cons (pv 2) pa_nil))))))
      (pss_one (ps_raise rfl (takes_of rfl rfl rfl rfl) (pmk_own PySem.F.excBase_ValueError T.cc.x T.cc.g T.cc.k (raises_own T.cc.b T.cc.t) rfl))) pss_nil), ?_⟩
    refine ⟨.int n, rfl, .int lo, rfl, .int hi, rfl, n, lo, hi, rfl, _, rfl, ?_⟩
    by_cases h : lo ≤ n ∧ n ≤ hi
    · rw [decide_eq_true h]
      exact iteF (q1 h)
    · rw [decide_eq_false h]
      exact iteT (q2 h)
theorem ok_checkCount (T : Bd P K mg) : FnOk P w K mg base (L2.CX P w) 3 T.aCheckCount T.dCheckCount ["count"] (spCheckCount T.CC) := by
  have GB : FnOk P w K mg base (L2.CX P w) 2 T.aCheckBetween T.dCheckBetween ["number", "low", "high"] (spCheckBetween T.CC) := ok_checkBetween T
  obtain ⟨tl, hlim⟩ := T.lim
  refine T.CheckCount.F.okX scCheckCount (fun vs H Q E h => ?_) (fun cdv A outer s H vs Q E hr h => ?_)
  · obtain ⟨n, rfl, _⟩ := h
    rfl
  · obtain ⟨n, rfl, q1, q2⟩ := h
    exact ⟨_, pss_one (ps_expr (pe_call (E := E) GB hr (by rfl) T.CheckBetween.g T.CheckBetween.F.kp T.CheckBetween.b .nil (passes_call (takes_of rfl rfl rfl rfl) fun _ _ _ _ h => h) (pa_cons (pv 0) (pa_cons (pe_un un_neg (pe_glob (v := .int 1000000000000000000) (by rfl) hlim ⟨_, rfl⟩)) (pa_cons (pe_glob (v := .int 1000000000000000000) (by rfl) hlim ⟨_, rfl⟩) pa_nil))))),
      .int n, rfl, _, rfl, n, -1000000000000000000, 1000000000000000000, rfl, q1, q2⟩
/-- a number of ticks from now on -/
abbrev TkOk (n : Int) : Prop := 0 ≤ n ∧ n ≤ 1000000000000000000
def spCheckTicks (CC : Addr) : Sp := fun vs H Q E => ∃ n : Int, vs = [.int n] ∧ (TkOk n → Q .non H) ∧ (¬ TkOk n → E (.ref CC) none H)
theorem ok_checkTicks (T : Bd P K mg) : FnOk P w K mg base (L2.CX P w) 3 T.aCheckTicks T.dCheckTicks ["count"] (spCheckTicks T.CC) := by
  have GB : FnOk P w K mg base (L2.CX P w) 2 T.aCheckBetween T.dCheckBetween ["number", "low", "high"] (spCheckBetween T.CC) := ok_checkBetween T
  obtain ⟨tl, hlim⟩ := T.lim
  refine T.CheckTicks.F.okX scCheckTicks (fun vs H Q E h => ?_) (fun cdv A outer s H vs Q E hr h => ?_)
  · obtain ⟨n, rfl, _⟩ := h
    rfl
  · obtain ⟨n, rfl, q1, q2⟩ := h
    exact ⟨_, pss_one (ps_expr (pe_call (E := E) GB hr (by rfl) T.CheckBetween.g T.CheckBetween.F.kp T.CheckBetween.b .nil (passes_call (takes_of rfl rfl rfl rfl) fun _ _ _ _ h => h) (pa_cons (pv 0) (pa_cons pe_int (pa_cons (pe_glob (v := .int 1000000000000000000) (by rfl) hlim ⟨_, rfl⟩) pa_nil))))),
      .int n, rfl, n, 0, 1000000000000000000, rfl, q1, q2⟩
abbrev NrOk (n : Int) : Prop := 1 ≤ n ∧ n ≤ 1000000000000000000
def spCheckOrdinal (CC : Addr) : Sp := fun vs H Q E => ∃ n : Int, vs = [.int n] ∧ (NrOk n → Q .non H) ∧ (¬ NrOk n → E (.ref CC) none H)
theorem ok_checkOrdinal (T : Bd P K mg) : FnOk P w K mg base (L2.CX P w) 3 T.aCheckOrdinal T.dCheckOrdinal ["number"] (spCheckOrdinal T.CC) := by
  have GB : FnOk P w K mg base (L2.CX P w) 2 T.aCheckBetween T.dCheckBetween ["number", "low", "high"] (spCheckBetween T.CC) := ok_checkBetween T
  obtain ⟨tl, hlim⟩ := T.lim
  refine T.CheckOrdinal.F.okX scCheckOrdinal (fun vs H Q E h => ?_) (fun cdv A outer s H vs Q E hr h => ?_)
  · obtain ⟨n, rfl, _⟩ := h
    rfl
  · obtain ⟨n, rfl, q1, q2⟩ := h
    exact ⟨_, pss_one (ps_expr (pe_call (E := E) GB hr (by rfl) T.CheckBetween.g T.CheckBetween.F.kp T.CheckBetween.b .nil (passes_call (takes_of rfl rfl rfl rfl) fun _ _ _ _ h => h) (pa_cons (pv 0) (pa_cons pe_int (pa_cons (pe_glob (v := .int 1000000000000000000) (by rfl) hlim ⟨_, rfl⟩) pa_nil))))),
      .int n, rfl, n, 1, 1000000000000000000, rfl, q1, q2⟩
def spCheckEffect (K : PySem.W.Frag) (CE : Addr) : Sp := fun vs H Q E => ∃ (a : Addr) (ns : List Int), vs = [.ref a] ∧ SqT K H a (ns.map V.int) ∧ ns.length ≤ 1000 ∧ (EffI ns → Q .non H) ∧ (¬ EffI ns → E (.ref CE) none H)
/-! ### chained -/
theorem vN_snoc {e : List Nat} {i : Nat} (h : i < e.length) : vN (e.take (i + 1)) = vN (e.take i) ++ [.int (ap e i : Nat)] := by
  unfold vN
  rw [List.take_add_one, ap_at h, List.map_append]
  rfl
theorem vN_lt {e : List Nat} {i : Nat} {x : V} (h : (vN e)[i]? = some x) : i < e.length ∧ x = .int (ap e i : Nat) := by
  have h1 := (List.getElem?_eq_some_iff.mp h).1
  rw [vN_len] at h1
  rw [vN_get h1] at h
  exact ⟨h1, (Option.some.inj h).symm⟩
theorem vN_take (e : List Nat) : vN (e.take e.length) = vN e := by rw [List.take_length]
/-- what is tracked but a new object of ours -/
theorem same_at {H H' : Hp} {D : Addr} {o : HO} (sm : Same H H') (hD : H D = none) : Same H (upd H' D o) := same_of sm hD
/-- hands back a new tuple of the numbers g -/
def NewT (H : Hp) (g : List Nat) (Q : VK) : Prop := ∀ H' p, Same H H' → H p = none → H' p = some (.tup (vN g)) → Q (.ref p) H'
def spChained (K : PySem.W.Frag) : Sp := fun vs H Q _ => ∃ (a b : Addr) (e g : List Nat), vs = [.ref a, .ref b] ∧ SqT K H a (vN e) ∧ SqT K H b (vN g) ∧ (∀ x ∈ e, x < g.length) ∧ e.length ≤ 1000 ∧ NewT H (comp e g) Q
/-! ### inverse -/
theorem scInverse : FnScope ["effect", "origins", "place", "target"] ["effect"] (defScope sInverse) := ⟨rfl, rfl, rfl, by decide +kernel, rfl, by decide +kernel, by decide +kernel⟩
def spInverse (K : PySem.W.Frag) : Sp := fun vs H Q _ => ∃ (a : Addr) (e : List Nat), vs = [.ref a] ∧ SqT K H a (vN e) ∧ Eff e ∧ e.length ≤ 1000 ∧ NewT H (inv e) Q
theorem rep_one_list (n : Nat) (v : V) : (List.replicate n [v]).flatten = List.replicate n v := by
  induction n with
  | zero => rfl
  | succ n ih => rw [List.replicate_succ, List.flatten_cons, ih]; rfl
theorem vN_set (e : List Nat) (i y : Nat) : (vN e).set i (.int (y : Int)) = vN (e.set i y) := by
  unfold vN
  rw [List.map_set]
theorem ok_inverse (T : Bd P K mg) : FnOk P w K mg base CX0 1 T.aInverse T.dInverse ["effect"] (spInverse K) := by
  refine T.Inverse.F.ok scInverse (fun vs H Q E h => ?_) (fun cdv A outer s H vs Q E hr h => ?_)
  · obtain ⟨a, e, rfl, _⟩ := h
    rfl
  · obtain ⟨a, e, rfl, hA, he, hl, q⟩ := h
    refine ⟨_, pss_cons (ps_set (i := 1) scInverse.nd rfl (Or.inl rfl) (pe_op op_rep (pe_lst (pa_cons pe_int pa_nil)) (pe_callB call_len_seq (by rfl) T.bt.len b_len (pa_cons (pv 0) pa_nil))))
      (pss_cons (ps_for PassesOwn.never rfl (pi_enumT (by rfl) T.bt.enumerate (pa_cons (pv 0) pa_nil)) (pg_tup rfl (pgs_cons (pg_name (i := 2) scInverse.nd rfl (.inl rfl)) (pgs_cons (pg_name (i := 3) scInverse.nd rfl (.inl rfl)) pgs_nil)))
        (pss_one (ps_asg (pv 2) (pg_sub (pv 1) (pv 3) set_list))))
      (pss_one (ps_ret (pe_callTy call_tuple_of (by rfl) T.bt.tuple b_tuple (pa_cons (pv 1) pa_nil))))), ?_⟩
    refine ⟨by decide, fun p hp => ?_⟩
    refine ⟨.ref a, rfl, a, vN e, rfl, .inr (sqT_same (same_upd hp) hA), ?_⟩
    rw [vN_len]
    have small : (e.length : Int) < 2 ^ 63 := by
      have : (1000 : Int) < 2 ^ 63 := by decide
      omega
    refine ⟨p, (e.length : Int), [.int 0], rfl, rfl, upd_same, by omega, small, ?_, fun l hl2 => ?_⟩
    · show 1 * (e.length : Int).toNat ≤ sizeLine
      rw [Nat.one_mul, Int.toNat_natCast]
      exact sz1000 hl
    · have sm2 : Same H (upd (upd H p (.lst [.int 0])) l (.lst (List.replicate (e.length : Int).toNat [V.int 0]).flatten)) := same_of (same_upd hp) (Same.free (same_upd hp) hl2)
      have nl : H l = none := Same.free (same_upd hp) hl2
      have e0 : (List.replicate (e.length : Int).toNat [V.int 0]).flatten = vN (invF e 0) := by
        rw [rep_one_list, Int.toNat_natCast]
        show _ = vN (List.replicate e.length 0)
        unfold vN
        rw [List.map_replicate]
        rfl
      rw [e0] at sm2 ⊢
      refine ⟨.ref a, rfl, a, vN e, rfl, sqT_same sm2 hA, for_enumT (xs := vN e) (fun i σ H' => (∃ y2 y3, σ = [some (.ref a), some (.ref l), y2, y3]) ∧ Same H H' ∧ H' l = some (.lst (vN (invF e i)))) ⟨⟨none, none, rfl⟩, sm2, upd_same⟩
        (fun i σ H' _ h => sqT_same h.2.1 hA) (fun i x σ H' U hx ⟨⟨y2, y3, es⟩, sm, hd⟩ hU => ?_) (fun σ H' ⟨⟨y2, y3, es⟩, sm, hd⟩ => ?_)⟩
      · subst es
        obtain ⟨hi, rfl⟩ := vN_lt hx
        have nlU : l ≠ U := ne_of_none hd hU
        refine ⟨U, [.int (i : Nat), .int (ap e i : Nat)], rfl, .inl (.inl upd_same), rfl, _, _, rfl, _, _, rfl, rfl, ?_⟩
        refine ⟨.int (i : Nat), rfl, .ref l, rfl, .int (ap e i : Nat), rfl, l, vN (invF e i), _, ap e i, rfl, rfl, by rw [upd_ne nlU]; exact hd, ?_, ⟨some (.int (i : Nat)), some (.int (ap e i : Nat)), rfl⟩, same_of (same_of sm (Same.free sm hU)) nl, ?_⟩
        · rw [vN_len, invF_len]
          exact ixN_nat (ap_lt he hi)
        · rw [upd_same, vN_set]
          rfl
      · subst es
        rw [vN_len] at hd
        exact ⟨.ref l, rfl, l, _, rfl, .inl ⟨.inl (.inl hd), fun l2 hl2 => q _ _ (same_of sm (Same.free sm hl2)) (Same.free sm hl2) upd_same⟩⟩
end
end Sv


set_option maxHeartbeats 4000000
namespace Sv
open PySem PySem.Spec PyProof.Rows L2
section
variable {P : Program} {w : World} {K : PySem.W.Frag} {mg : Str → Option Value} {base : Heap}
/-! ### cycle_from -/
theorem scCycleFrom : FnScope ["effect", "start", "cycle", "place"] ["effect", "start"] (defScope sCycleFrom) := ⟨rfl, rfl, rfl, by decide +kernel, rfl, by decide +kernel, by decide +kernel⟩
def spCycleFrom (K : PySem.W.Frag) : Sp := fun vs H Q _ => ∃ (a : Addr) (e : List Nat) (s : Nat), vs = [.ref a, .int (s : Nat)] ∧ SqT K H a (vN e) ∧ Eff e ∧ s < e.length ∧ e.length ≤ 1000 ∧ NewT H (cyc e s) Q
theorem vN_one (k : Nat) : [V.int (k : Int)] = vN [k] := rfl
theorem vN_app (a b : List Nat) : vN (a ++ b) = vN a ++ vN b := by unfold vN; rw [List.map_append]
/-- the first k places of a walk from s -/
def walkL (e : List Nat) (s k : Nat) : List Nat := (List.range k).map fun j => it e j s
theorem walkL_succ (e : List Nat) (s k : Nat) : walkL e s (k + 1) = walkL e s k ++ [it e k s] := by
  unfold walkL
  rw [List.range_succ, List.map_append]
  rfl
theorem walkL_len (e : List Nat) (s k : Nat) : (walkL e s k).length = k := by unfold walkL; simp
theorem ok_cycleFrom (T : Bd P K mg) : FnOk P w K mg base CX0 1 T.aCycleFrom T.dCycleFrom ["effect", "start"] (spCycleFrom K) := by
  refine T.CycleFrom.F.ok scCycleFrom (fun vs H Q E h => ?_) (fun cdv A outer s H vs Q E hr h => ?_)
  · obtain ⟨a, e, s, rfl, _⟩ := h
    rfl
  · obtain ⟨a, e, s0, rfl, hA, he, hs, hl, q⟩ := h
    refine ⟨_, pss_cons (ps_set (i := 2) scCycleFrom.nd rfl (Or.inl rfl) (pe_lst (pa_cons (pv 1) pa_nil)))
      (pss_cons (ps_set (i := 3) scCycleFrom.nd rfl (Or.inl rfl) (pe_ix ix_tup (pv 0) (pv 1) (fun _ _ => rfl)))
      (pss_cons (ps_while PassesOwn.never (pt_cmpR op_ne (pv 3) (pv 1) (nomark _))
        (pss_cons (ps_expr (pe_bm PySem.F.plainAttrs_list PySem.F.slot_list_append PySem.F.type_list_append mt_append (pv 2) (pa_cons (pv 3) pa_nil)))
        (pss_one (ps_set (i := 3) scCycleFrom.nd rfl (Or.inl rfl) (pe_ix ix_tup (pv 0) (pv 3) (fun _ _ => rfl))))))
      (pss_one (ps_ret (pe_callTy call_tuple_of (by rfl) T.bt.tuple b_tuple (pa_cons (pv 2) pa_nil)))))), ?_⟩
    obtain ⟨p1, p2, p3, p4⟩ := per_spec he hs
    refine ⟨.int s0, rfl, (by show 1 ≤ sizeLine; decide), fun c hc => ?_⟩
    have sm0 : Same H (upd H c (.lst [.int s0])) := same_upd hc
    refine ⟨.ref a, rfl, .int s0, rfl, a, vN e, _, _, rfl, rfl, sqT_same sm0 hA, atI_nat (vN_get hs), ?_⟩
    refine while_by (fun σ H' => ∃ k, 1 ≤ k ∧ k ≤ per e s0 ∧ σ = [some (.ref a), some (.int (s0 : Nat)), some (.ref c), some (.int (it e k s0 : Nat))] ∧ Same H H' ∧ H' c = some (.lst (vN (walkL e s0 k)))) (fun σ H' => match H' c with | some (.lst xs) => per e s0 + 1 - xs.length | _ => 0)
      ⟨1, Nat.le_refl _, p1, rfl, sm0, upd_same⟩ (fun σ H' hP => ?_) (fun σ H' Q1 Q2 mono h => ?_)
    · obtain ⟨k, h1, h2, rfl, sm, hd⟩ := hP
      have hm : (match H' c with | some (.lst xs) => per e s0 + 1 - xs.length | _ => 0) = per e s0 + 1 - k := by
        rw [hd]
        show per e s0 + 1 - (vN (walkL e s0 k)).length = _
        rw [vN_len, walkL_len]
      refine ⟨_, rfl, _, rfl, rfl, _, rfl, ?_⟩
      by_cases hk : it e k s0 = s0
      · rw [decide_eq_true (by rw [hk])]
        refine iteF ?_
        have ek : k = per e s0 := by
          by_cases h : k = per e s0
          · exact h
          · exact absurd hk (p3 k h1 (by omega))
        rw [ek] at hd
        exact ⟨.ref c, rfl, c, _, rfl, .inl ⟨.inl (.inl hd), fun l hl2 => q _ _ (same_of sm (Same.free sm hl2)) (Same.free sm hl2) upd_same⟩⟩
      · rw [decide_eq_false fun z => hk (by have := V.int.inj z; omega)]
        refine iteT ?_
        have hk2 : k < per e s0 := by
          by_cases h : k = per e s0
          · rw [h] at hk
            exact absurd p2 hk
          · omega
        refine ⟨.ref c, rfl, .inl ⟨rfl, _, .inl (.inl hd)⟩, .int (it e k s0 : Nat), rfl, c, _, _, rfl, rfl, hd, ?_, ?_⟩
        · rw [vN_len, walkL_len]
          exact small1000 (by omega)
        · have sm2 : Same H (upd H' c (.lst (vN (walkL e s0 k) ++ [.int (it e k s0 : Nat)]))) := same_of sm hc
          refine ⟨.ref a, rfl, .int (it e k s0 : Nat), rfl, a, vN e, _, _, rfl, rfl, sqT_same sm2 hA, atI_nat (vN_get (it_lt he hs)), ⟨k + 1, by omega, hk2, rfl, sm2, ?_⟩, ?_⟩
          · rw [upd_same, walkL_succ, vN_app]
            rfl
          · show (match (upd H' c (.lst (vN (walkL e s0 k) ++ [.int (it e k s0 : Nat)]))) c with | some (.lst xs) => per e s0 + 1 - xs.length | _ => 0) < (match H' c with | some (.lst xs) => per e s0 + 1 - xs.length | _ => 0)
            rw [hm, upd_same]
            show per e s0 + 1 - (vN (walkL e s0 k) ++ [V.int (it e k s0 : Nat)]).length < _
            rw [List.length_append, vN_len, walkL_len]
            simp
            omega
    · obtain ⟨x, hx, y, hy, hz, b, hb, hq⟩ := h
      exact ⟨x, hx, y, hy, hz, b, hb, mono _ _ hq⟩
/-! ### cycles_of -/
theorem scCyclesOf : FnScope ["effect", "found", "done", "start", "cycle", "place"] ["effect"] (defScope sCyclesOf) := ⟨rfl, rfl, rfl, by decide +kernel, rfl, by decide +kernel, by decide +kernel⟩
/-- tuples of the numbers cs at ps -/
def TupL (H : Hp) (ps : List Addr) (cs : List (List Nat)) : Prop := Paired (fun p c => H p = some (.tup (vN c))) ps cs
theorem tupL_same {H H' : Hp} (e : Same H H') : ∀ {ps : List Addr} {cs : List (List Nat)}, TupL H ps cs → TupL H' ps cs
  | _, _, .nil => .nil
  | _, _, .cons r t => .cons (e _ _ r) (tupL_same e t)
theorem tupL_snoc {H : Hp} {p : Addr} {c : List Nat} (h : H p = some (.tup (vN c))) : ∀ {ps : List Addr} {cs : List (List Nat)}, TupL H ps cs → TupL H (ps ++ [p]) (cs ++ [c])
  | _, _, .nil => .cons h .nil
  | _, _, .cons r t => .cons r (tupL_snoc h t)
theorem tupL_len {H : Hp} : ∀ {ps : List Addr} {cs : List (List Nat)}, TupL H ps cs → ps.length = cs.length
  | _, _, .nil => rfl
  | _, _, .cons _ t => congrArg Nat.succ (tupL_len t)
theorem tupL_at {H : Hp} : ∀ {ps : List Addr} {cs : List (List Nat)}, TupL H ps cs → ∀ (i : Nat) (p : Addr), ps[i]? = some p → ∃ c, cs[i]? = some c ∧ H p = some (.tup (vN c))
  | _, _, .nil, i, p, h => by simp at h
  | _, _, .cons r t, 0, p, h => by
    obtain rfl := Option.some.inj h
    exact ⟨_, rfl, r⟩
  | _, _, .cons r t, i + 1, p, h => tupL_at t i p h
def NewLT (H : Hp) (cs : List (List Nat)) (Q : VK) : Prop := ∀ H' f ps, Same H H' → H f = none → H' f = some (.lst (ps.map V.ref)) → TupL H' ps cs → Q (.ref f) H'
def spCyclesOf (K : PySem.W.Frag) : Sp := fun vs H Q _ => ∃ (a : Addr) (e : List Nat), vs = [.ref a] ∧ SqT K H a (vN e) ∧ Eff e ∧ e.length ≤ 1000 ∧ NewLT H (wheels e) Q
/-- which places are told by S -/
def flL (n : Nat) (S : Nat → Bool) : List V := (List.range n).map fun p => V.bl (S p)
theorem flL_len (n : Nat) (S : Nat → Bool) : (flL n S).length = n := by unfold flL; simp
theorem flL_get {n : Nat} {S : Nat → Bool} {p : Nat} (h : p < n) : (flL n S)[p]? = some (.bl (S p)) := by
  unfold flL
  rw [List.getElem?_map, List.getElem?_range h]
  rfl
theorem flL_set (n : Nat) (S : Nat → Bool) (x : Nat) : (flL n S).set x (.bl true) = flL n fun p => S p || decide (p = x) := by
  refine List.ext_getElem? fun i => ?_
  by_cases hi : i < n
  · rw [flL_get hi]
    by_cases hx : i = x
    · subst hx
      rw [List.getElem?_set_self (by rw [flL_len]; exact hi)]
      simp
    · rw [List.getElem?_set_ne (Ne.symm hx), flL_get hi]
      simp [hx]
  · rw [List.getElem?_eq_none (by rw [List.length_set, flL_len]; omega), List.getElem?_eq_none (by rw [flL_len]; omega)]
theorem flL_congr {n : Nat} {S S' : Nat → Bool} (h : ∀ p, p < n → S p = S' p) : flL n S = flL n S' := by
  unfold flL
  exact List.map_congr_left fun p hp => by rw [h p (List.mem_range.mp hp)]
theorem ok_cyclesOf (T : Bd P K mg) : FnOk P w K mg base CX0 2 T.aCyclesOf T.dCyclesOf ["effect"] (spCyclesOf K) := by
  have GF : FnOk P w K mg base CX0 1 T.aCycleFrom T.dCycleFrom ["effect", "start"] (spCycleFrom K) := ok_cycleFrom T
  refine T.CyclesOf.F.ok scCyclesOf (fun vs H Q E h => ?_) (fun cdv A outer s H vs Q E hr h => ?_)
  · obtain ⟨a, e, rfl, _⟩ := h
    rfl
  · obtain ⟨a, e, rfl, hA, he, hl, q⟩ := h
    refine ⟨_, pss_cons (ps_set (i := 1) scCyclesOf.nd rfl (Or.inl rfl) (pe_lst pa_nil))
      (pss_cons (ps_set (i := 2) scCyclesOf.nd rfl (Or.inl rfl) (pe_op op_rep (pe_lst (pa_cons pe_bl pa_nil)) (pe_callB call_len_seq (by rfl) T.bt.len b_len (pa_cons (pv 0) pa_nil))))
      (pss_cons (ps_for PassesOwn.never rfl (pi_range1 (by rfl) T.bt.range (pa_cons (pe_callB call_len_seq (by rfl) T.bt.len b_len (pa_cons (pv 0) pa_nil)) pa_nil)) (pg_name (i := 3) scCyclesOf.nd rfl (Or.inl rfl))
        (pss_one (ps_if (pt_not (pt_val (pe_ix ix_list (pv 2) (pv 3) (fun _ _ => rfl))))
          (pss_cons (ps_set (i := 4) scCyclesOf.nd rfl (Or.inl rfl) (pe_call GF hr (by rfl) T.CycleFrom.g T.CycleFrom.F.kp T.CycleFrom.b .nil pass0 (pa_cons (pv 0) (pa_cons (pv 3) pa_nil))))
          (pss_cons (ps_for PassesOwn.never rfl (pi_tup (pv 4)) (pg_name (i := 5) scCyclesOf.nd rfl (Or.inl rfl))
            (pss_one (ps_asg pe_bl (pg_sub (pv 2) (pv 5) set_list))))
          (pss_one (ps_expr (pe_bm PySem.F.plainAttrs_list PySem.F.slot_list_append PySem.F.type_list_append mt_append (pv 1) (pa_cons (pv 4) pa_nil))))))
          pss_nil)))
      (pss_one (ps_ret (pv 1))))), ?_⟩
    refine ⟨Nat.zero_le _, fun f hf => ?_⟩
    have sm1 : Same H (upd H f (.lst [])) := same_upd hf
    refine ⟨(by show 1 ≤ sizeLine; decide), fun p hp => ?_⟩
    have sm2 : Same H (upd (upd H f (.lst [])) p (.lst [.bl false])) := same_of sm1 (Same.free sm1 hp)
    have small : (e.length : Int) < 2 ^ 62 := by
      have : (1000 : Int) < 2 ^ 62 := by decide
      omega
    have small3 : (e.length : Int) < 2 ^ 63 := by
      have : (1000 : Int) < 2 ^ 63 := by decide
      omega
    refine ⟨.ref a, rfl, a, vN e, rfl, .inr (sqT_same sm2 hA), p, ((vN e).length : Nat), [.bl false], rfl, rfl, upd_same, by omega, by rw [vN_len]; exact small3, ?_, fun d hd => ?_⟩
    · show 1 * ((vN e).length : Int).toNat ≤ sizeLine
      rw [Nat.one_mul, Int.toNat_natCast, vN_len]
      exact sz1000 hl
    have e0 : (List.replicate ((vN e).length : Int).toNat [V.bl false]).flatten = flL e.length fun p => decide (p ∈ (whN e 0).flatten) := by
      rw [rep_one_list, Int.toNat_natCast, vN_len]
      unfold flL whN
      simp only [List.flatten_nil, List.not_mem_nil, decide_false]
      rw [show (fun (p : Nat) => V.bl false) = Function.const Nat (V.bl false) from rfl, List.map_const, List.length_range]
    rw [e0]
    have fp : f ≠ p := ne_of_none upd_same hp
    have fd : f ≠ d := ne_of_none (show (upd (upd H f (.lst [])) p (.lst [.bl false])) f = some (.lst []) by rw [upd_ne fp, upd_same]) hd
    have nd' : H d = none := Same.free sm2 hd
    have sm3 : Same H (upd (upd (upd H f (.lst [])) p (.lst [.bl false])) d (.lst (flL e.length fun p => decide (p ∈ (whN e 0).flatten)))) := same_of sm2 nd'
    refine ⟨.ref a, rfl, a, vN e, rfl, .inr (sqT_same sm3 hA), ((vN e).length : Nat), rfl, by omega, by rw [vN_len]; exact small, ?_⟩
    rw [Int.toNat_natCast, vN_len]
    refine for_range (lo := 0) (n := e.length) (fun i σ H' => (∃ y3 y4 y5, σ = [some (.ref a), some (.ref f), some (.ref d), y3, y4, y5]) ∧ Same H H' ∧ H' d = some (.lst (flL e.length fun p => decide (p ∈ (whN e i).flatten))) ∧
      ∃ ps, H' f = some (.lst (ps.map V.ref)) ∧ TupL H' ps (whN e i)) ⟨⟨none, none, none, rfl⟩, sm3, upd_same, [], by rw [upd_ne fd, upd_ne fp, upd_same]; rfl, .nil⟩ (fun i σ H' hi ⟨⟨y3, y4, y5, es⟩, sm, hdd, ps, hff, hps⟩ => ?_) (fun σ H' ⟨⟨y3, y4, y5, es⟩, sm, hdd, ps, hff, hps⟩ => ?_)
    · subst es
      have ei : (0 + (i : Int)) = (i : Nat) := by omega
      rw [ei]
      refine ⟨.ref d, rfl, .int (i : Nat), rfl, d, _, _, _, rfl, rfl, .inl (.inl hdd), atI_nat (flL_get hi), _, rfl, ?_⟩
      by_cases hm : i ∈ (whN e i).flatten
      · rw [decide_eq_true hm]
        have ew : whN e (i + 1) = whN e i := by
          conv => lhs; unfold whN
          exact if_pos hm
        refine iteF ⟨⟨_, _, _, rfl⟩, sm, ?_, ps, hff, ?_⟩
        · rw [ew]; exact hdd
        · rw [ew]; exact hps
      · rw [decide_eq_false hm]
        have ew : whN e (i + 1) = whN e i ++ [cyc e i] := by
          conv => lhs; unfold whN
          exact if_neg hm
        refine iteT ⟨.ref a, rfl, .int (i : Nat), rfl, a, e, i, rfl, sqT_same sm hA, he, hi, hl, fun H1 t sm1 nt ht => ?_⟩
        have hdd1 := sm1 _ _ hdd
        have hff1 := sm1 _ _ hff
        have dt : d ≠ t := ne_of_none hdd nt
        have df : f ≠ d := fd
        have ft : f ≠ t := ne_of_none hff nt
        refine ⟨.ref t, rfl, t, rfl, ⟨_, .inl (.inl ht)⟩, for_tup (xs := vN (cyc e i)) (fun j σ H2 => (∃ y5, σ = [some (.ref a), some (.ref f), some (.ref d), some (.int (i : Nat)), some (.ref t), y5]) ∧ (∀ b o, b ≠ d → H1 b = some o → H2 b = some o) ∧ (∀ b, H b = none → H2 b = none ∨ True) ∧
          H2 d = some (.lst (flL e.length fun p => decide (p ∈ (whN e i).flatten) || decide (p ∈ (cyc e i).take j)))) ⟨⟨_, rfl⟩, fun b o _ h => h, fun _ _ => .inr trivial, ?_⟩ (fun j σ H2 _ h => .inl (.inl (h.2.1 t _ (Ne.symm dt) ht))) (fun j x σ H2 hx ⟨⟨y5, es⟩, k2, _, hd2⟩ => ?_) (fun σ H2 ⟨⟨y5, es⟩, k2, _, hd2⟩ => ?_)⟩
        · rw [hdd1]
          refine congrArg some (congrArg HO.lst (flL_congr fun p _ => ?_))
          simp
        · subst es
          obtain ⟨hj, rfl⟩ := vN_lt hx
          have hcl : ap (cyc e i) j < e.length := by
            obtain ⟨kk, hkk⟩ := (cyc_mem he hi).mp (List.mem_of_getElem? (ap_at hj))
            rw [hkk]
            exact it_lt he hi
          refine ⟨.ref d, rfl, .int (ap (cyc e i) j : Nat), rfl, d, _, _, ap (cyc e i) j, rfl, rfl, hd2, ?_, ⟨_, rfl⟩, fun b o hb ho => ?_, fun _ _ => .inr trivial, ?_⟩
          · rw [flL_len]
            exact ixN_nat hcl
          · rw [upd_ne hb]
            exact k2 b o hb ho
          · rw [upd_same, flL_set]
            refine congrArg some (congrArg HO.lst (flL_congr fun p _ => ?_))
            rw [List.take_add_one, ap_at hj]
            simp [List.mem_append, Bool.or_assoc]
        · subst es
          rw [vN_len] at hd2
          have hff2 := k2 f _ df hff1
          refine ⟨.ref f, rfl, .inl ⟨rfl, _, .inl (.inl hff2)⟩, .ref t, rfl, f, _, _, rfl, rfl, hff2, ?_, ⟨_, _, _, rfl⟩, fun b o hb => ?_, ?_, ps ++ [t], ?_, ?_⟩
          · rw [List.length_map, tupL_len hps]
            have := ((whN_ok he i (by omega)).1).len he
            exact small1000 (by omega)
          · have hbf : b ≠ f := fun z => by rw [z, hf] at hb; cases hb
            have hbd : b ≠ d := fun z => by rw [z, nd'] at hb; cases hb
            rw [upd_ne hbf]
            exact k2 b o hbd (sm1 _ _ (sm _ _ hb))
          · rw [upd_ne (Ne.symm df), hd2, ew]
            refine congrArg some (congrArg HO.lst (flL_congr fun p _ => ?_))
            rw [List.take_length, List.flatten_append, List.flatten_singleton]
            simp [List.mem_append]
          · rw [upd_same, List.map_append]
            rfl
          · rw [ew]
            have key : ∀ b c, H' b = some (.tup (vN c)) ∨ b = t ∧ c = cyc e i → (upd H2 f (.lst (ps.map V.ref ++ [V.ref t]))) b = some (.tup (vN c)) := fun b c hb => by
              rcases hb with hb | ⟨rfl, rfl⟩
              · have hbf : b ≠ f := ne_of hb hff (fun z => by cases z)
                have hbd : b ≠ d := ne_of hb hdd (fun z => by cases z)
                rw [upd_ne hbf]
                exact k2 b _ hbd (sm1 _ _ hb)
              · rw [upd_ne (Ne.symm ft)]
                exact k2 b _ (Ne.symm dt) ht
            refine tupL_snoc (key t _ (.inr ⟨rfl, rfl⟩)) ?_
            have gen : ∀ {ps : List Addr} {cs : List (List Nat)}, TupL H' ps cs → Paired (fun p c => (upd H2 f (.lst (List.map V.ref _ ++ [V.ref t]))) p = some (.tup (vN c))) ps cs := fun h => Paired.mapP h fun p c hp => key p c (.inl hp)
            exact gen hps
    · subst es
      exact ⟨.ref f, rfl, q H' f ps sm hf hff hps⟩
end
end Sv


set_option maxHeartbeats 4000000
namespace Sv
open PySem PySem.Spec PyProof.Rows L2
section
variable {P : Program} {w : World} {K : PySem.W.Frag} {mg : Str → Option Value} {base : Heap}
/-! ### repeated -/
theorem scRepeated : FnScope ["effect", "count", "targets", "cycle", "shift", "place", "target"] ["effect", "count"] (defScope sRepeated) := ⟨rfl, rfl, rfl, by decide +kernel, rfl, by decide +kernel, by decide +kernel⟩
theorem vN_drop (c : List Nat) (k : Nat) : (vN c).drop k = vN (c.drop k) := by unfold vN; rw [List.map_drop]
theorem vN_tk (c : List Nat) (k : Nat) : (vN c).take k = vN (c.take k) := by unfold vN; rw [List.map_take]
theorem rot_read {K : PySem.W.Frag} {H : Hp} {a : Addr} {c : List Nat} {k : Nat} {z : Int} {Q : VK} (hz : z = (k : Int)) (hA : SqT K H a (vN c)) (hk : k < c.length) (hl : c.length ≤ 1000)
    {G : V → Hp → Prop} (hG : ∀ x H1, (rSlA K (.ref a) none (some z) H1 fun y H2 => rCatA K x y H2 Q) → G x H1) (q : ∀ H' b, Same H H' → SqT K H' b (vN (c.drop k ++ c.take k)) → Q (.ref b) H') : rSlA K (.ref a) (some z) none H G := by
  subst hz
  have s1 : HT.sIx (vN c).length 0 (some (k : Int)) = k := by rw [HT.sIx_nat, vN_len]; omega
  have s2 : HT.sIx (vN c).length (vN c).length (some (k : Int)) = k := by rw [HT.sIx_nat, vN_len]; omega
  have s3 : HT.sIx (vN c).length (vN c).length none = c.length := by rw [HT.sIx_none, vN_len]
  have c1 : cutV (vN c) (some (k : Int)) none = vN (c.drop k) := by
    unfold cutV
    rw [s1, s3, vN_drop, vN_tk]
    congr 1
    exact List.take_of_length_le (by rw [List.length_drop]; omega)
  have c2 : cutV (vN c) none (some (k : Int)) = vN (c.take k) := by
    unfold cutV
    rw [s2, HT.sIx_none, List.drop_zero, Nat.sub_zero, vN_tk]
  have second : ∀ H1 x, Same H H1 → (∀ (H2 : Hp) (p2 : Addr), Same H1 H2 → H2 p2 = some (.tup (vN (c.take k))) → rCatA K x (.ref p2) H2 Q) → rSlA K (.ref a) none (some (k : Int)) H1 fun y H2 => rCatA K x y H2 Q := fun H1 x sm h => by
    refine ⟨a, vN c, rfl, sqT_same sm hA, fun hw => ?_, fun _ p hp => ?_⟩
    · rw [s2, vN_len] at hw
      omega
    · rw [c2]
      exact h _ p (same_upd hp) upd_same
  by_cases h0 : k = 0
  · refine ⟨a, vN c, rfl, hA, fun _ => ?_, fun hn => ?_⟩
    · refine hG _ _ (second H _ (Same.refl H) fun H2 p2 sm hp2 => ?_)
      refine ⟨a, p2, vN c, vN (c.take k), rfl, rfl, sqT_same sm hA, .inl (.inl hp2), ?_, fun e => ?_, fun _ _ => ?_, fun _ e => ?_⟩
      · rw [vN_len, vN_len, List.length_take]
        exact sz1000 (by omega)
      · have := congrArg List.length e
        rw [vN_len] at this
        simp at this
        rw [this] at hk
        simp at hk
      · refine q H2 a sm ?_
        rw [h0, List.drop_zero, List.take_zero, List.append_nil]
        exact sqT_same sm hA
      · rw [h0, List.take_zero] at e
        exact absurd rfl e
    · rw [s1, s3, vN_len] at hn
      exact absurd ⟨h0, rfl⟩ hn
  · refine ⟨a, vN c, rfl, hA, fun hw => ?_, fun _ p hp => ?_⟩
    · rw [s1] at hw
      omega
    · rw [c1]
      refine hG _ _ (second _ _ (same_upd hp) fun H2 p2 sm hp2 => ?_)
      refine ⟨p, p2, vN (c.drop k), vN (c.take k), rfl, rfl, .inl (.inl (sm _ _ upd_same)), .inl (.inl hp2), ?_, fun e => ?_, fun _ e => ?_, fun _ _ p3 hp3 => ?_⟩
      · rw [vN_len, vN_len, List.length_take, List.length_drop]
        exact sz1000 (by omega)
      · have := congrArg List.length e
        rw [vN_len, List.length_drop] at this
        simp at this
        omega
      · have := congrArg List.length e
        rw [vN_len, List.length_take] at this
        have h9 : min k c.length = 0 := this
        omega
      · refine q _ p3 ((same_upd hp).trans (sm.trans (same_upd hp3))) (.inl (.inl ?_))
        rw [upd_same, vN_app]
theorem rot_tm {K : PySem.W.Frag} {σ : L2.St} {i j : Nat} {H : Hp} {a : Addr} {c : List Nat} {k : Nat} {z : Int} {Q : VK} (hi : σ[i]? = some (some (.ref a))) (hj : σ[j]? = some (some (.int z))) (hz : z = (k : Int)) (hA : SqT K H a (vN c)) (hk : k < c.length) (hl : c.length ≤ 1000)
    (q : ∀ H' b, Same H H' → SqT K H' b (vN (c.drop k ++ c.take k)) → Q (.ref b) H') : tOp (rCatA K) (tSl (rSlA K) (tVar i) (tPart (tVar j)) tNoPart) (tSl (rSlA K) (tVar i) tNoPart (tPart (tVar j))) σ H Q := by
  refine ⟨.ref a, hi, .int z, hj, z, rfl, ?_⟩
  show rSlA K (.ref a) (some z) none H (fun x H1 => tSl (rSlA K) (tVar i) tNoPart (tPart (tVar j)) σ H1 fun y H2 => rCatA K x y H2 Q)
  exact rot_read hz hA hk hl (fun x H2 h => ⟨.ref a, hi, .int z, hj, z, rfl, h⟩) q
/-- the targets when the places of S have been told -/
noncomputable def tgL (e : List Nat) (c : Int) (S : Nat → Bool) : List Nat := (List.range e.length).map fun p => if S p = true then rp e c p else ap e p
theorem tgL_len (e : List Nat) (c : Int) (S : Nat → Bool) : (tgL e c S).length = e.length := by unfold tgL; simp
theorem tgL_congr {e : List Nat} {c : Int} {S S' : Nat → Bool} (h : ∀ p, p < e.length → S p = S' p) : tgL e c S = tgL e c S' := by
  unfold tgL
  exact List.map_congr_left fun p hp => by rw [h p (List.mem_range.mp hp)]
theorem tgL_at {e : List Nat} {c : Int} {S : Nat → Bool} {p : Nat} (hp : p < e.length) : (tgL e c S)[p]? = some (if S p = true then rp e c p else ap e p) := by
  unfold tgL
  rw [List.getElem?_map, List.getElem?_range hp]
  rfl
theorem tgL_set (e : List Nat) (c : Int) (S : Nat → Bool) (x : Nat) : (tgL e c S).set x (rp e c x) = tgL e c fun p => S p || decide (p = x) := by
  refine List.ext_getElem? fun i => ?_
  by_cases hi : i < e.length
  · rw [tgL_at hi]
    by_cases hx : i = x
    · subst hx
      rw [List.getElem?_set_self (by rw [tgL_len]; exact hi)]
      simp
    · rw [List.getElem?_set_ne (Ne.symm hx), tgL_at hi]
      simp [hx]
  · rw [List.getElem?_eq_none (by rw [List.length_set, tgL_len]; omega), List.getElem?_eq_none (by rw [tgL_len]; omega)]
theorem tgL_none (e : List Nat) (c : Int) : tgL e c (fun _ => false) = e := by
  refine List.ext_getElem? fun i => ?_
  by_cases hi : i < e.length
  · rw [tgL_at hi, ap_at hi]
    rfl
  · rw [List.getElem?_eq_none (by rw [tgL_len]; omega), List.getElem?_eq_none (by omega)]
theorem tgL_all {e : List Nat} {c : Int} {S : Nat → Bool} (h : ∀ p, p < e.length → S p = true) : tgL e c S = rep e c := by
  unfold tgL rep
  exact List.map_congr_left fun p hp => by rw [if_pos (h p (List.mem_range.mp hp))]
/-- what stands beside the j-th place of a cycle -/
theorem rot_at {e : List Nat} (E : Eff e) {s : Nat} (hs : s < e.length) (c : Int) {j : Nat} (hj : j < per e s) :
    ((cyc e s).drop (c % (per e s : Int)).toNat ++ (cyc e s).take (c % (per e s : Int)).toNat)[j]? = some (rp e c (it e j s)) := by
  have hpos := per_pos E hs
  have h0 := Int.emod_nonneg c (show (per e s : Int) ≠ 0 by omega)
  have h1 := Int.emod_lt_of_pos c (show (0 : Int) < (per e s : Int) by omega)
  generalize hk : (c % (per e s : Int)).toNat = k
  have hkl : k < per e s := by omega
  have er : rp e c (it e j s) = it e (k + j) s := by
    unfold rp
    rw [per_it E hs, ← it_add, hk]
  rw [er]
  by_cases h : j < per e s - k
  · rw [List.getElem?_append_left (by rw [List.length_drop, cyc_len]; exact h), List.getElem?_drop, cyc_at (by omega)]
  · rw [List.getElem?_append_right (by rw [List.length_drop, cyc_len]; omega), List.length_drop, cyc_len, List.getElem?_take_of_lt (by omega), cyc_at (by omega)]
    refine congrArg some ?_
    rw [it_mod E hs (k + j)]
    congr 1
    rw [show k + j = (j - (per e s - k)) + per e s by omega, Nat.add_mod_right, Nat.mod_eq_of_lt (by omega)]
def spRepeated (K : PySem.W.Frag) : Sp := fun vs H Q _ => ∃ (a : Addr) (e : List Nat) (c : Int), vs = [.ref a, .int c] ∧ SqT K H a (vN e) ∧ Eff e ∧ e.length ≤ 1000 ∧ NewT H (rep e c) Q
theorem ok_repeated (T : Bd P K mg) : FnOk P w K mg base CX0 3 T.aRepeated T.dRepeated ["effect", "count"] (spRepeated K) := by
  have GY : FnOk P w K mg base CX0 2 T.aCyclesOf T.dCyclesOf ["effect"] (spCyclesOf K) := ok_cyclesOf T
  refine T.Repeated.F.ok scRepeated (fun vs H Q E h => ?_) (fun cdv A outer s H vs Q E hr h => ?_)
  · obtain ⟨a, e, c, rfl, _⟩ := h
    rfl
  · obtain ⟨a, e, c, rfl, hA, he, hl, q⟩ := h
    refine ⟨_, pss_cons (ps_set (i := 2) scRepeated.nd rfl (Or.inl rfl) (pe_callTy call_list_of (by rfl) T.bt.list b_list (pa_cons (pv 0) pa_nil)))
      (pss_cons (ps_for PassesOwn.never rfl (pi_list (pe_call GY hr (by rfl) T.CyclesOf.g T.CyclesOf.F.kp T.CyclesOf.b .nil pass0 (pa_cons (pv 0) pa_nil))) (pg_name (i := 3) scRepeated.nd rfl (Or.inl rfl))
        (pss_cons (ps_set (i := 4) scRepeated.nd rfl (Or.inl rfl) (pe_op op_mod (pe_callTy call_int1 (by rfl) T.bt.int b_int (pa_cons (pv 1) pa_nil)) (pe_callB call_len_seq (by rfl) T.bt.len b_len (pa_cons (pv 3) pa_nil))))
        (pss_one (ps_for PassesOwn.never rfl (RZ.pi_zipA (by rfl) T.bt.zip (pa_cons (pv 3) (pa_cons (pe_op op_catA (pe_slice sl_tupA (pv 3) (po_some (pv 4)) po_none) (pe_slice sl_tupA (pv 3) po_none (po_some (pv 4)))) pa_nil)))
          (pg_tup rfl (pgs_cons (pg_name (i := 5) scRepeated.nd rfl (.inl rfl)) (pgs_cons (pg_name (i := 6) scRepeated.nd rfl (.inl rfl)) pgs_nil)))
          (pss_one (ps_asg (pv 6) (pg_sub (pv 2) (pv 5) set_list)))))))
      (pss_one (ps_ret (pe_callTy call_tuple_of (by rfl) T.bt.tuple b_tuple (pa_cons (pv 2) pa_nil))))), ?_⟩
    refine ⟨.ref a, rfl, a, vN e, rfl, .inr hA, fun t ht => ?_⟩
    have sm0 : Same H (upd H t (.lst (vN e))) := same_upd ht
    refine ⟨.ref a, rfl, a, e, rfl, sqT_same sm0 hA, he, hl, fun H1 f ps sm1 nf hf hps => ?_⟩
    have ht1 : H1 t = some (.lst (vN e)) := sm1 _ _ upd_same
    have ft : f ≠ t := fun z => by rw [z, upd_same] at nf; cases nf
    have W := (wheels_ok he).1
    refine ⟨f, rfl, ⟨_, .inl (.inl hf)⟩, for_list (xs := ps.map V.ref) (fun i σ H' => (∃ y3 y4 y5 y6, σ = [some (.ref a), some (.int c), some (.ref t), y3, y4, y5, y6]) ∧ (∀ b o, b ≠ t → H1 b = some o → H' b = some o) ∧
      H' t = some (.lst (vN (tgL e c fun p => decide (p ∈ ((wheels e).take i).flatten))))) ⟨⟨none, none, none, none, rfl⟩, fun _ _ _ h => h, ?_⟩ (fun i σ H' _ h => .inl (.inl (h.2.1 f _ ft hf))) (fun i x σ H' hx ⟨⟨y3, y4, y5, y6, es⟩, k1, htt⟩ => ?_) (fun σ H' ⟨⟨y3, y4, y5, y6, es⟩, k1, htt⟩ => ?_)⟩
    · rw [ht1, show (fun p => decide (p ∈ ((wheels e).take 0).flatten)) = fun _ => false from funext fun p => by simp, tgL_none]
    · subst es
      rw [List.getElem?_map] at hx
      cases hpi : ps[i]? with
      | none => rw [hpi] at hx; cases hx
      | some p =>
        rw [hpi] at hx
        obtain rfl : V.ref p = x := Option.some.inj hx
        obtain ⟨cc, hcc, hp1⟩ := tupL_at hps i p hpi
        obtain ⟨s0, hs0, rfl⟩ := W.cy cc (List.mem_of_getElem? hcc)
        have hpos := per_pos he hs0
        have hple := (per_spec he hs0).2.2.2
        have pt : p ≠ t := fun z => by
          rw [z, ht1] at hp1
          cases hp1
        have hp' : H' p = some (.tup (vN (cyc e s0))) := k1 p _ pt hp1
        have hlen : ((vN (cyc e s0)).length : Int) = (per e s0 : Int) := by rw [vN_len, cyc_len]
        have h0 := Int.emod_nonneg c (show (per e s0 : Int) ≠ 0 by omega)
        have h1 := Int.emod_lt_of_pos c (show (0 : Int) < (per e s0 : Int) by omega)
        have ek : c % ((vN (cyc e s0)).length : Int) = ((c % (per e s0 : Int)).toNat : Int) := by rw [hlen, Int.toNat_of_nonneg h0]
        refine ⟨.int c, rfl, .inl ⟨c, rfl, .ref p, rfl, p, _, rfl, .inr (.inl (.inl hp')), c, _, rfl, rfl, by rw [hlen]; omega, ?_⟩⟩
        refine ⟨.ref p, rfl, ?_⟩
        refine rot_tm (K := K) (i := 3) (j := 4) (a := p) (k := (c % (per e s0 : Int)).toNat) (c := cyc e s0) rfl rfl ek (.inl (.inl hp')) (by rw [cyc_len]; omega) (by rw [cyc_len]; omega) (fun H2 b sm2 hb => ?_)
        have hp2 : H2 p = some (.tup (vN (cyc e s0))) := sm2 _ _ hp'
        have ht2 := sm2 _ _ htt
        have hl2 : (vN (cyc e s0)).length = (vN ((cyc e s0).drop (c % (per e s0 : Int)).toNat ++ (cyc e s0).take (c % (per e s0 : Int)).toNat)).length := by
          rw [vN_len, vN_len, List.length_append, List.length_drop, List.length_take, cyc_len]
          omega
        refine ⟨p, b, _, _, rfl, .inr ⟨.inl (.inl hp2), hb, ?_⟩⟩
        refine RZ.for_zipT hl2 (fun j σ H3 => (∃ y5 y6, σ = [some (.ref a), some (.int c), some (.ref t), some (.ref p), some (.int (c % ((vN (cyc e s0)).length : Int))), y5, y6]) ∧ (∀ b o, b ≠ t → H2 b = some o → H3 b = some o) ∧
          H3 t = some (.lst (vN (tgL e c fun p => decide (p ∈ ((wheels e).take i).flatten) || decide (p ∈ (cyc e s0).take j))))) ⟨⟨_, _, rfl⟩, fun _ _ _ h => h, ?_⟩ (fun j σ H3 ⟨_, k3, _⟩ => ⟨.inl (.inl (k3 p _ pt hp2)), ?_⟩)
          (fun j x y U σ H3 hx hy ⟨⟨y5, y6, es⟩, k3, ht3⟩ hU => ?_) (fun σ H3 ⟨⟨y5, y6, es⟩, k3, ht3⟩ => ?_)
        · rw [ht2]
          refine congrArg some (congrArg HO.lst (congrArg vN (tgL_congr fun p _ => ?_)))
          simp
        · have key : ∀ o, H2 b = some o → (∃ ys, o = .tup ys ∨ ∃ ob, o = .frz ob (.tup ys)) → H3 b = some o := fun o ho hh => by
            refine k3 b o (fun z => ?_) ho
            rw [z, ht2] at ho
            obtain ⟨ys, e1 | ⟨ob, e1⟩⟩ := hh
            · rw [e1] at ho
              cases ho
            · rw [e1] at ho
              cases ho
          rcases hb with (hb | ⟨ob, hb⟩) | hb
          · exact .inl (.inl (key _ hb ⟨_, .inl rfl⟩))
          · exact .inl (.inr ⟨ob, key _ hb ⟨_, .inr ⟨ob, rfl⟩⟩⟩)
          · exact .inr hb
        · subst es
          obtain ⟨hj, rfl⟩ := vN_lt hx
          obtain ⟨hj2, rfl⟩ := vN_lt hy
          have hj3 : j < per e s0 := by rwa [cyc_len] at hj
          have e1 : ap (cyc e s0) j = it e j s0 := by
            have q1 := ap_at hj
            rw [cyc_at hj3] at q1
            exact (Option.some.inj q1).symm
          have e2 : ap ((cyc e s0).drop (c % (per e s0 : Int)).toNat ++ (cyc e s0).take (c % (per e s0 : Int)).toNat) j = rp e c (it e j s0) := by
            have q1 := ap_at hj2
            rw [rot_at he hs0 c hj3] at q1
            exact (Option.some.inj q1).symm
          rw [e1, e2]
          have tU : t ≠ U := ne_of_none ht3 hU
          refine ⟨U, [.int (it e j s0 : Nat), .int (rp e c (it e j s0) : Nat)], rfl, .inl (.inl upd_same), rfl, _, _, rfl, _, _, rfl, rfl, ?_⟩
          refine ⟨.int (rp e c (it e j s0) : Nat), rfl, .ref t, rfl, .int (it e j s0 : Nat), rfl, t, _, _, it e j s0, rfl, rfl, by rw [upd_ne tU]; exact ht3, ?_, ⟨_, _, rfl⟩, fun b o hb ho => ?_, ?_⟩
          · rw [vN_len, tgL_len]
            exact ixN_nat (it_lt he hs0)
          · rw [upd_ne hb, upd_ne (ne_of_none (k3 b o hb ho) hU)]
            exact k3 b o hb ho
          · rw [upd_same, vN_set, tgL_set]
            refine congrArg some (congrArg HO.lst (congrArg vN (tgL_congr fun p _ => ?_)))
            rw [List.take_add_one, cyc_at hj3]
            simp [List.mem_append, Bool.or_assoc]
        · subst es
          refine ⟨⟨_, _, _, _, rfl⟩, fun b o hb ho => k3 b o hb (sm2 _ _ (k1 b o hb ho)), ?_⟩
          rw [ht3]
          refine congrArg some (congrArg HO.lst (congrArg vN (tgL_congr fun p _ => ?_)))
          rw [vN_len, List.take_length, List.take_add_one, hcc, List.flatten_append]
          simp [List.mem_append]
    · subst es
      rw [List.length_map, tupL_len hps, List.take_length] at htt
      rw [tgL_all fun p hp => decide_eq_true ((wheels_ok he).2 p hp)] at htt
      have smx : Same H H' := fun b o hb => by
        have bt : b ≠ t := fun z => by rw [z, ht] at hb; cases hb
        exact k1 b o bt (sm1 _ _ (sm0 _ _ hb))
      exact ⟨.ref t, rfl, t, _, rfl, .inl ⟨.inl (.inl htt), fun l2 hl2 => q _ _ (same_of smx (Same.free smx hl2)) (Same.free smx hl2) upd_same⟩⟩
end
end Sv


set_option maxHeartbeats 4000000
namespace Sv
open PySem PySem.Spec PyProof.Rows L2
def nInts (e : List Nat) : List Int := e.map fun (n : Nat) => (n : Int)
theorem vN_eq (e : List Nat) : (nInts e).map V.int = vN e := (vN_ints e).symm
theorem ints_len (e : List Nat) : (nInts e).length = e.length := by unfold nInts; simp
theorem effI_ints {e : List Nat} (E : Eff e) : EffI (nInts e) := effI_of E
theorem effI_to {ns : List Int} (h : EffI ns) : ∃ e, ns = nInts e ∧ Eff e := by
  have e1 : ns = nInts (ns.map Int.toNat) := by
    unfold nInts
    rw [List.map_map]
    have : ns.map id = ns := List.map_id _
    rw [show ns.map ((fun (n : Nat) => (n : Int)) ∘ Int.toNat) = ns.map id from List.map_congr_left fun x hx => Int.toNat_of_nonneg (h.1 x hx).1, this]
  refine ⟨_, e1, fun x hx => ?_, ?_⟩
  · obtain ⟨y, hy, rfl⟩ := List.mem_map.mp hx
    have := h.1 y hy
    rw [List.length_map]
    omega
  · refine List.pairwise_iff_getElem.mpr fun i j hi hj hij q => ?_
    simp only [List.getElem_map] at q
    simp at hi hj
    have h1 := (h.1 _ (List.getElem_mem hi)).1
    have h2 := (h.1 _ (List.getElem_mem hj)).1
    exact absurd ((List.getElem_inj h.2).mp (by omega : ns[i] = ns[j])) (by omega)
theorem ints_inj {e g : List Nat} (h : nInts e = nInts g) : e = g := by
  have := congrArg (fun l => l.map Int.toNat) h
  unfold nInts at this
  simpa [List.map_map, Function.comp_def] using this
section
variable {P : Program} {w : World} {K : PySem.W.Frag} {mg : Str → Option Value} {base : Heap}
abbrev tkX {X : Cx} {E : XK} (tk : Takes X fun cls d _ H => E cls d H) : Passes (L2.CX X.prog X.w) X E := passes_call tk fun _ _ _ _ h => h
/-! ### compose -/
def spCompose (K : PySem.W.Frag) (CE CD : Addr) : Sp := fun vs H Q E => ∃ (a b : Addr) (ns ms : List Int), vs = [.ref a, .ref b] ∧ SqT K H a (ns.map V.int) ∧ SqT K H b (ms.map V.int) ∧ ns.length ≤ 1000 ∧ ms.length ≤ 1000 ∧
  (¬ EffI ns → E (.ref CE) none H) ∧ (EffI ns → ¬ EffI ms → E (.ref CE) none H) ∧ (EffI ns → EffI ms → ns.length ≠ ms.length → E (.ref CD) none H) ∧ (∀ e g, ns = nInts e → ms = nInts g → Eff e → Eff g → e.length = g.length → NewT H (comp e g) Q)
/-! ### invert -/
def spInvert (K : PySem.W.Frag) (CE : Addr) : Sp := fun vs H Q E => ∃ (a : Addr) (ns : List Int), vs = [.ref a] ∧ SqT K H a (ns.map V.int) ∧ ns.length ≤ 1000 ∧ (¬ EffI ns → E (.ref CE) none H) ∧ (∀ e, ns = nInts e → Eff e → NewT H (inv e) Q)
/-! ### repeat -/
def spRepeat (K : PySem.W.Frag) (CE CC : Addr) : Sp := fun vs H Q E => ∃ (a : Addr) (ns : List Int) (c : Int), vs = [.ref a, .int c] ∧ SqT K H a (ns.map V.int) ∧ ns.length ≤ 1000 ∧ (¬ EffI ns → E (.ref CE) none H) ∧ (EffI ns → ¬ CtOk c → E (.ref CC) none H) ∧
  (∀ e, ns = nInts e → Eff e → CtOk c → NewT H (rep e c) Q)
/-! ### cycles -/
def spCycles (K : PySem.W.Frag) (CE : Addr) : Sp := fun vs H Q E => ∃ (a : Addr) (ns : List Int), vs = [.ref a] ∧ SqT K H a (ns.map V.int) ∧ ns.length ≤ 1000 ∧ (¬ EffI ns → E (.ref CE) none H) ∧ (∀ e, ns = nInts e → Eff e → NewLT H (wheels e) Q)
/-! ### order -/
def spOrder (K : PySem.W.Frag) (CE : Addr) : Sp := fun vs H Q E => ∃ (a : Addr) (ns : List Int), vs = [.ref a] ∧ SqT K H a (ns.map V.int) ∧ ns.length ≤ 63 ∧ (¬ EffI ns → E (.ref CE) none H) ∧ (∀ e, ns = nInts e → Eff e → ∀ H', Same H H' → Q (.int (ord e : Nat)) H')
end
end Sv


set_option maxHeartbeats 4000000
/-! a list extended by a tuple -/
namespace Sv
open PySem PySem.Spec PyProof.Rows L2
section
open AutoSeq1
theorem extend_tupG (l : Addr) (items : Array Value) (n : Nat) (b : Addr) (items2 : Array Value) (n2 : Nat) (dct : Option Addr) (sl : Array (Option Value)) (hs0 : ¬(!items.isEmpty && Builtin.List.listTooLong (items.size + items2.size)) = true) (hs1 : items.size ≤ sizeLine) (hs2 : items.size + items2.size ≤ sizeLine + 1) :
    Meets (Builtin.«list.extend» ⟨[.ref l, .ref b], []⟩) (fun _ R s => s.heap.get? l = some { cls := .type "list", dict := none, data := .seq items n, slots := #[] } ∧ s.heap.get? b = some { cls := .type "tuple", dict := dct, data := .seq items2 n2, slots := sl } ∧
      R (.ok (.ret Value.none)) { s with heap := s.heap.update l (Obj.mapSeq fun x => x ++ items2), toks := s.toks }) :=
  .of_wp fun prog w A R s h => by
    obtain ⟨hp, g, d, tk, os⟩ := s; obtain ⟨hl, hb, h⟩ := h; have f1 := AutoSeq1.idx_int; have f2 := AutoSeq1.sub_tuple_tuple; have f3 := AutoSeq1.sub_list_list; have f4 := AutoSeq1.sub_tuple_list; have f5 := AutoSeq1.sub_list_tuple;
    have hz' : (items ++ items2).size ≤ sizeLine + 1 := by rw [Array.size_append]; exact hs2
    wp_walk using (wpAny_updateSeq hl rfl (hz := hs1) (_hz' := hz')), wpAny_loadPart' hl, wpAny_loadPart' hb; exact ⟨_, rfl, h⟩
end
section
variable {X : Cx}
def rExtT (K : PySem.W.Frag) : V → List V → Hp → VK → Prop := fun x vs H Q => ∃ l b xs zs, x = .ref l ∧ vs = [.ref b] ∧ H l = some (.lst xs) ∧ SqT K H b zs ∧ xs.length + zs.length ≤ sizeLine ∧ Q .non (upd H l (.lst (xs ++ zs)))
theorem mt_extT : MtM X "list.extend" (rExtT X.K) := by
  intro pins s σ H x vs v us Q I rx rv h
  obtain ⟨l, b, xs, zs, rfl, rfl, hH, hB, hz, q⟩ := h
  cases rx
  obtain ⟨u, rfl, ru⟩ := rv.one
  cases ru
  obtain ⟨z, its, n, r, hl, e⟩ := I.lstM hH
  obtain ⟨its2, r2, ⟨⟨c, dct, dt, sl⟩, e2, hc, n2, hd⟩, z2⟩ := I.tuple hB
  obtain rfl : c = .type "tuple" := hc
  obtain rfl : dt = .seq its2.toArray n2 := hd
  have hl2 := r2.length
  have hsz : its.toArray.size + its2.toArray.size ≤ sizeLine := by rw [List.size_toArray, List.size_toArray]; omega
  have hlong : ¬ (!its.toArray.isEmpty && Builtin.List.listTooLong (its.toArray.size + its2.toArray.size)) = true := by
    rw [notLongL hsz, Bool.and_false]
    exact Bool.false_ne_true
  refine call_meets F.slot_list_extend ⟨_, e, rfl⟩ F.entry_list_extend (F.args_list_extend_2 _ _)
    (extend_tupG l its.toArray n b its2.toArray n2 dct sl hlong (by rw [List.size_toArray]; omega) (by omega)) ⟨e, e2, ?_⟩
  refine ⟨.non, _, I.lset (its' := its ++ its2) hH e (by simp) (r.append r2) ?_, rfl, q⟩
  rw [List.length_append]
  omega
end
end Sv


set_option maxHeartbeats 4000000
namespace Sv
open PySem PySem.Spec PyProof.Rows L2
/-! ### layouts in the heap -/
/-- a layout: who is carried, who lies where; the tuples may be constants -/
structure LayT (K : PySem.W.Frag) (H : Hp) (ca sh : Addr) (cs : List Int) (ss : List (List Int)) : Prop where
  c : SqT K H ca (cs.map V.int)
  s : ∃ qs : List Addr, SqT K H sh (qs.map V.ref) ∧ Paired (fun q s => SqT K H q (s.map V.int)) qs ss
theorem segT_imp {K : PySem.W.Frag} {H H' : Hp} (e : ∀ a xs, SqT K H a xs → SqT K H' a xs) : ∀ {qs : List Addr} {ss : List (List Int)}, Paired (fun q s => SqT K H q (s.map V.int)) qs ss → Paired (fun q s => SqT K H' q (s.map V.int)) qs ss
  | _, _, .nil => .nil
  | _, _, .cons h t => .cons (e _ _ h) (segT_imp e t)
theorem segT_len {K : PySem.W.Frag} {H : Hp} : ∀ {qs : List Addr} {ss : List (List Int)}, Paired (fun q s => SqT K H q (s.map V.int)) qs ss → qs.length = ss.length
  | _, _, .nil => rfl
  | _, _, .cons _ t => congrArg Nat.succ (segT_len t)
theorem segT_at {K : PySem.W.Frag} {H : Hp} : ∀ {qs : List Addr} {ss : List (List Int)} {i : Nat} {q : Addr}, Paired (fun q s => SqT K H q (s.map V.int)) qs ss → qs[i]? = some q → ∃ s, ss[i]? = some s ∧ SqT K H q (s.map V.int)
  | _, _, i, _, .nil, e => by simp at e
  | _, _, 0, q, .cons h t, e => by
    obtain rfl := Option.some.inj e
    exact ⟨_, rfl, h⟩
  | _, _, i + 1, q, .cons h t, e => segT_at (i := i) t (by simpa using e)
theorem segT_of {K : PySem.W.Frag} {H : Hp} : ∀ {qs : List Addr} {ss : List (List Int)}, SegV H qs ss → Paired (fun q s => SqT K H q (s.map V.int)) qs ss
  | _, _, .nil => .nil
  | _, _, .cons h t => .cons (.inl (.inl h)) (segT_of t)
theorem LayT.imp {K : PySem.W.Frag} {H H' : Hp} {ca sh : Addr} {cs : List Int} {ss : List (List Int)} (x : LayT K H ca sh cs ss) (e : ∀ a xs, SqT K H a xs → SqT K H' a xs) : LayT K H' ca sh cs ss := by
  obtain ⟨qs, h1, h2⟩ := x.s
  exact ⟨e _ _ x.c, qs, e _ _ h1, segT_imp e h2⟩
theorem LayT.same {K : PySem.W.Frag} {H H' : Hp} {ca sh : Addr} {cs : List Int} {ss : List (List Int)} (x : LayT K H ca sh cs ss) (e : Same H H') : LayT K H' ca sh cs ss := x.imp fun _ _ => sqT_same e
theorem LayAt.t {K : PySem.W.Frag} {H : Hp} {ca sh : Addr} {cs : List Int} {ss : List (List Int)} (x : LayAt H ca sh cs ss) : LayT K H ca sh cs ss := by
  obtain ⟨qs, h1, h2⟩ := x.s
  exact ⟨.inl (.inl x.c), qs, .inl (.inl h1), segT_of h2⟩
/-- lists of numbers at rw, each a list of its own -/
def RowL (H : Hp) (rw : List Addr) (ss : List (List Int)) : Prop := Paired (fun q s => H q = some (.lst (s.map V.int))) rw ss
theorem rowL_imp {H H' : Hp} : ∀ {rw : List Addr} {ss : List (List Int)}, (∀ q ∈ rw, ∀ o, H q = some o → H' q = some o) → RowL H rw ss → RowL H' rw ss
  | _, _, _, .nil => .nil
  | _, _, e, .cons h t => .cons (e _ (List.mem_cons_self ..) _ h) (rowL_imp (fun q hq => e q (List.mem_cons_of_mem _ hq)) t)
theorem rowL_len {H : Hp} : ∀ {rw : List Addr} {ss : List (List Int)}, RowL H rw ss → rw.length = ss.length
  | _, _, .nil => rfl
  | _, _, .cons _ t => congrArg Nat.succ (rowL_len t)
theorem rowL_at {H : Hp} : ∀ {rw : List Addr} {ss : List (List Int)} {i : Nat} {q : Addr}, RowL H rw ss → rw[i]? = some q → ∃ s, ss[i]? = some s ∧ H q = some (.lst (s.map V.int))
  | _, _, i, _, .nil, e => by simp at e
  | _, _, 0, q, .cons h t, e => by
    obtain rfl := Option.some.inj e
    exact ⟨_, rfl, h⟩
  | _, _, i + 1, q, .cons h t, e => rowL_at (i := i) t (by simpa using e)
theorem rowL_mem {H : Hp} {rw : List Addr} {ss : List (List Int)} (h : RowL H rw ss) {q : Addr} (hq : q ∈ rw) : ∃ xs, H q = some (.lst xs) := by
  obtain ⟨i, hi⟩ := List.mem_iff_getElem?.mp hq
  obtain ⟨s, _, e⟩ := rowL_at h hi
  exact ⟨_, e⟩
theorem rowL_free {H : Hp} {rw : List Addr} {ss : List (List Int)} (h : RowL H rw ss) {q : Addr} (hq : H q = none) : q ∉ rw := fun m => by
  obtain ⟨xs, e⟩ := rowL_mem h m
  rw [hq] at e
  cases e
theorem rowL_snoc {H : Hp} {q : Addr} {s : List Int} (h : H q = some (.lst (s.map V.int))) : ∀ {rw : List Addr} {ss : List (List Int)}, RowL H rw ss → RowL H (rw ++ [q]) (ss ++ [s])
  | _, _, .nil => .cons h .nil
  | _, _, .cons r t => .cons r (rowL_snoc h t)
theorem rowL_set {H : Hp} {s' : List Int} : ∀ {rw : List Addr} {ss : List (List Int)} {i : Nat} {q : Addr}, rw.Nodup → RowL H rw ss → rw[i]? = some q → RowL (upd H q (.lst (s'.map V.int))) rw (ss.set i s')
  | _, _, i, _, _, .nil, e => by simp at e
  | r :: rw, s :: ss, 0, q, nd, .cons h t, e => by
    obtain rfl := Option.some.inj e
    refine .cons upd_same (rowL_imp (fun b hb o ho => ?_) t)
    rw [upd_ne (fun z : b = r => (List.nodup_cons.mp nd).1 (by rw [← z]; exact hb))]
    exact ho
  | r :: rw, s :: ss, i + 1, q, nd, .cons h t, e => by
    have e' : rw[i]? = some q := by simpa using e
    refine .cons ?_ (rowL_set (List.nodup_cons.mp nd).2 t e')
    rw [upd_ne (fun z : r = q => (List.nodup_cons.mp nd).1 (by rw [z]; exact List.mem_of_getElem? e'))]
    exact h
/-! ### what is left and what is taken -/
def exch (L : Lay Int) (p : Nat × Nat) : List V := [.int (p.1 : Nat), .int (p.2 : Nat), .int (L.1.getD p.1 0), .int ((L.2.getD p.2 []).headD (L.1.getD p.1 0))]
def exN (ps : List (Nat × Nat)) (L : Lay Int) : Nat → List (List V)
  | 0 => []
  | k + 1 => exN ps L k ++ (match ps[k]? with | some p => [exch (steps (ps.take k) L) p] | none => [])
def exL (ps : List (Nat × Nat)) (L : Lay Int) : List (List V) := exN ps L ps.length
theorem exN_len (ps : List (Nat × Nat)) (L : Lay Int) : ∀ k, (exN ps L k).length ≤ k
  | 0 => Nat.le_refl _
  | k + 1 => by
    unfold exN
    rw [List.length_append]
    have := exN_len ps L k
    split <;> simp <;> omega
theorem exN_succ {ps : List (Nat × Nat)} {L : Lay Int} {k : Nat} {p : Nat × Nat} (h : ps[k]? = some p) : exN ps L (k + 1) = exN ps L k ++ [exch (steps (ps.take k) L) p] := by
  conv => lhs; unfold exN
  rw [h]
theorem steps_take {α : Type} {ps : List (Nat × Nat)} {L : Lay α} {k : Nat} {p : Nat × Nat} (h : ps[k]? = some p) : steps (ps.take (k + 1)) L = step1 (steps (ps.take k) L) p := by
  rw [List.take_add_one, h]
  exact steps_snoc _ _ _
/-- the visits of valid plans are there -/
theorem prs_ok {n : Int} {rs : List Ro} (hr : ∀ r ∈ rs, r ≠ [] ∧ ∀ e ∈ r, okE n e = true) (m : Int) : ∀ k, ∀ p ∈ prs rs m k, p.1 < rs.length ∧ 0 ≤ p.2 ∧ p.2 < n
  | 0, p, h => by cases h
  | k + 1, p, h => by
    unfold prs at h
    rcases List.mem_append.mp h with h | h
    · exact prs_ok hr m k p h
    · cases hk : rs[k]? with
      | none => rw [hk] at h; cases h
      | some r =>
        rw [hk] at h
        simp only at h
        cases he : ent r m with
        | none => rw [he] at h; cases h
        | some z =>
          rw [he] at h
          rw [List.mem_singleton.mp h]
          have hmem := List.mem_of_getElem? hk
          obtain ⟨hne, hok⟩ := hr r hmem
          have h1 := (ent_get hne m).1
          rw [he] at h1
          have h2 := hok _ (List.mem_of_getElem? h1)
          unfold okE at h2
          have h3 := of_decide_eq_true h2
          exact ⟨(List.getElem?_eq_some_iff.mp hk).1, h3.1, by have := h3.2; omega⟩
theorem vis_ok {n : Nat} {rs : List Ro} (hr : ∀ r ∈ rs, r ≠ [] ∧ ∀ e ∈ r, okE n e = true) (m : Int) : ∀ p ∈ vis rs m, p.1 < rs.length ∧ p.2 < n := fun p hp => by
  unfold vis at hp
  obtain ⟨q, hq, rfl⟩ := List.mem_map.mp hp
  have := prs_ok hr m _ q hq
  exact ⟨this.1, by show q.2.toNat < n; omega⟩
theorem prs_meet (rs : List Ro) (m : Int) : ∀ k, meetN rs m k = (prs rs m k).map fun p => pairV p.1 p.2
  | 0 => rfl
  | k + 1 => by
    unfold meetN prs
    rw [prs_meet rs m k, List.map_append]
    congr 1
    cases rs[k]? with
    | none => rfl
    | some r =>
      simp only
      cases ent r m with
      | none => rfl
      | some z => rfl
theorem meets_vis {n : Nat} {rs : List Ro} (hr : ∀ r ∈ rs, r ≠ [] ∧ ∀ e ∈ r, okE n e = true) (m : Int) : meets rs m = (vis rs m).map fun p => pairV p.1 (p.2 : Nat) := by
  unfold meets vis
  rw [prs_meet, List.map_map]
  refine List.map_congr_left fun p hp => ?_
  have := prs_ok hr m _ p hp
  show pairV p.1 p.2 = pairV p.1 ((p.2.toNat : Nat) : Int)
  rw [Int.toNat_of_nonneg this.2.1]
end Sv


set_option maxHeartbeats 4000000
namespace Sv
open PySem PySem.Spec PyProof.Rows L2
/-- a plan that is valid, its entries too -/
structure Val (zs : List Int) (rs : List Ro) : Prop extends Good zs rs where
  e : ∀ r ∈ rs, ∀ e ∈ r, okE zs.length e = true
theorem val_of {zs : List Int} {rs : List Ro} (h : bad zs rs = none) : Val zs rs := by
  refine ⟨good_of h, ?_⟩
  unfold bad at h
  cases hb : badS zs with
  | some i => rw [hb] at h; cases h
  | none =>
    rw [hb] at h
    simp only [Option.map_eq_none_iff] at h
    unfold badR at h
    split at h
    · rw [Option.map_eq_none_iff] at h
      intro r hr e he
      have := fst_all h r hr
      unfold okR at this
      rw [Bool.and_eq_true, List.all_eq_true] at this
      exact this.2 e he
    · cases h
theorem Val.bad {zs : List Int} {rs : List Ro} (v : Val zs rs) : bad zs rs = none := by
  have h1 : badS zs = none := by
    unfold badS
    rw [if_pos v.z1, fst_none (p := okZ) (fun j y hy => decide_eq_true (v.z2 y (List.mem_of_getElem? hy)))]
    rfl
  have h2 : badR zs.length rs = none := by
    unfold badR
    rw [if_pos v.r1, fst_none (fun j y hy => ?_)]
    · rfl
    · unfold okR
      rw [decide_eq_true (v.r2 y (List.mem_of_getElem? hy)), Bool.true_and, List.all_eq_true]
      exact v.e y (List.mem_of_getElem? hy)
  unfold Sv.bad
  rw [h1]
  simp [h2]
theorem Val.small {zs : List Int} {rs : List Ro} (v : Val zs rs) : Small zs rs := ⟨by have := v.z1; omega, by have := v.r1; omega, fun r hr => by have := v.r2 r hr; omega⟩
theorem Val.ro {zs : List Int} {rs : List Ro} (v : Val zs rs) : ∀ r ∈ rs, r ≠ [] ∧ ∀ e ∈ r, okE zs.length e = true := fun r hr => ⟨(v.ne r hr).1, v.e r hr⟩
theorem Val.num {zs : List Int} {rs : List Ro} (v : Val zs rs) : rs.length + sumN zs ≤ 200 := by
  have := sumN_le v.z2
  have := v.z1
  have := v.r1
  omega
section
variable {P : Program} {w : World} {K : PySem.W.Frag} {mg : Str → Option Value} {base : Heap}
/-! ### join_layout -/
def nJo : List Str := ["carried", "shelves", "contents", "shelf"]
theorem scJoin : FnScope nJo ["carried", "shelves"] (defScope sJoin) := ⟨rfl, rfl, rfl, by decide +kernel, rfl, by decide +kernel, by decide +kernel⟩
/-- a new list of numbers -/
def NewL (H : Hp) (l : List Int) (Q : VK) : Prop := ∀ H' f, Same H H' → H f = none → H' f = some (.lst (l.map V.int)) → Q (.ref f) H'
def spJoin (K : PySem.W.Frag) : Sp := fun vs H Q _ => ∃ (ca sh : Addr) (cs : List Int) (ss : List (List Int)), vs = [.ref ca, .ref sh] ∧ LayT K H ca sh cs ss ∧ cs.length + ss.flatten.length ≤ 1000 ∧ NewL H (cs ++ ss.flatten) Q
theorem flat_take {α : Type} {ss : List (List α)} {i : Nat} {s : List α} (h : ss[i]? = some s) : (ss.take (i + 1)).flatten = (ss.take i).flatten ++ s := by
  rw [List.take_add_one, h, List.flatten_append]
  simp
theorem flat_take_len {α : Type} (ss : List (List α)) (i : Nat) : (ss.take i).flatten.length ≤ ss.flatten.length := by
  have h := congrArg (fun l => (List.flatten l).length) (List.take_append_drop i ss)
  simp only [List.flatten_append, List.length_append] at h
  omega
theorem ok_join (T : Bd P K mg) : FnOk P w K mg base CX0 1 T.aJoin T.dJoin ["carried", "shelves"] (spJoin K) := by
  refine T.Join.F.ok scJoin (fun vs H Q E h => ?_) (fun cdv A outer s H vs Q E hr h => ?_)
  · obtain ⟨ca, sh, cs, ss, rfl, _⟩ := h
    rfl
  · obtain ⟨ca, sh, cs, ss, rfl, hL, hl, q⟩ := h
    obtain ⟨qs, hs1, hs2⟩ := hL.s
    have hql := segT_len hs2
    refine ⟨_, pss_cons (ps_set (i := 2) scJoin.nd rfl (Or.inl rfl) (pe_callTy call_list_of (by rfl) T.bt.list b_list (pa_cons (pv 0) pa_nil)))
      (pss_cons (ps_for PassesOwn.never rfl (pi_tup (pv 1)) (pg_name (i := 3) scJoin.nd rfl (Or.inl rfl))
        (pss_one (ps_expr (pe_bm PySem.F.plainAttrs_list PySem.F.slot_list_extend PySem.F.type_list_extend mt_extT (pv 2) (pa_cons (pv 3) pa_nil)))))
      (pss_one (ps_ret (pv 2)))), ?_⟩
    refine ⟨.ref ca, rfl, ca, _, rfl, .inr hL.c, fun f hf => ?_⟩
    have sm0 : Same H (upd H f (.lst (cs.map V.int))) := same_upd hf
    refine ⟨.ref sh, rfl, sh, rfl, ⟨_, sqT_same sm0 hs1⟩, for_tup (xs := qs.map V.ref) (fun i σ H' => (∃ y, σ = [some (.ref ca), some (.ref sh), some (.ref f), y]) ∧ Same H H' ∧ H' f = some (.lst ((cs ++ (ss.take i).flatten).map V.int))) ⟨⟨none, rfl⟩, sm0, by rw [upd_same]; simp⟩
      (fun i σ H' _ h => sqT_same h.2.1 hs1) (fun i x σ H' hx ⟨⟨y, es⟩, sm, hd⟩ => ?_) (fun σ H' ⟨⟨y, es⟩, sm, hd⟩ => ?_)⟩
    · subst es
      obtain ⟨q1, hq1, rfl⟩ := refs_lt hx
      obtain ⟨s1, hs3, hq2⟩ := segT_at hs2 hq1
      refine ⟨.ref f, rfl, .inl ⟨rfl, _, .inl (.inl hd)⟩, .ref q1, rfl, f, q1, _, _, rfl, rfl, hd, sqT_same sm hq2, ?_, ⟨_, rfl⟩, same_of sm hf, ?_⟩
      · rw [List.length_map, List.length_map, List.length_append]
        have h1 := flat_take_len ss (i + 1)
        rw [flat_take hs3, List.length_append] at h1
        exact sz1000 (by omega)
      · rw [upd_same, flat_take hs3, ← List.append_assoc, List.map_append (l₁ := cs ++ (ss.take i).flatten)]
    · subst es
      rw [List.length_map, hql, List.take_length] at hd
      exact ⟨.ref f, rfl, q H' f sm hf hd⟩
end
end Sv


set_option maxHeartbeats 4000000
namespace Sv
open PySem PySem.Spec PyProof.Rows L2
section
variable {P : Program} {w : World} {K : PySem.W.Frag} {mg : Str → Option Value} {base : Heap}
/-! ### after_tick -/
def rLo (K : PySem.W.Frag) : List V → Hp → VK → Prop := fun xs H Q => ∃ p ys, xs = [.ref p] ∧ (SqL K H p ys ∨ SqT K H p ys) ∧ ∀ l, H l = none → Q (.ref l) (upd H l (.lst ys))
def rTo (K : PySem.W.Frag) : List V → Hp → VK → Prop := fun xs H Q => ∃ p ys, xs = [.ref p] ∧ ((SqL K H p ys ∧ ∀ l, H l = none → Q (.ref l) (upd H l (.tup ys))) ∨ (SqT K H p ys ∧ Q (.ref p) H))
def nAt : List Str := ["plan", "number", "carried", "shelves", "hands", "rows", "exchanges", "carrier", "shelf", "left", "taken", "row"]
theorem scAfterTick : FnScope nAt ["plan", "number", "carried", "shelves"] (defScope sAfterTick) := ⟨rfl, rfl, rfl, by decide +kernel, rfl, by decide +kernel, by decide +kernel⟩
def spAfterTick (K : PySem.W.Frag) : Sp := fun vs H Q _ => ∃ (p ca sh : Addr) (n : Int) (zs : List Int) (rs : List Ro) (L : Lay Int), vs = [.ref p, .int n, .ref ca, .ref sh] ∧ PlanAt K H p zs rs ∧ Val zs rs ∧ LayT K H ca sh L.1 L.2 ∧ Fits rs.length zs L ∧
  ∀ H' t c' s' x, Same H H' → H' t = some (.tup [.ref c', .ref s', .ref x]) → LayT K H' c' s' (tickL rs (n - 1) L).1 (tickL rs (n - 1) L).2 → TL H' x (exL (vis rs (n - 1)) L) → H x = none → Q (.ref t) H'
theorem fit_at {n : Nat} {zs : List Int} {L : Lay Int} (h : Fits n zs L) : L.1.length = n ∧ L.2.length = zs.length := ⟨h.1, by have := congrArg List.length h.2; simpa using this⟩
theorem fit_row {n : Nat} {zs : List Int} {L : Lay Int} (h : Fits n zs L) (hz : ∀ z ∈ zs, 0 ≤ z ∧ z ≤ 9) {i : Nat} {s : List Int} (e : L.2[i]? = some s) : s.length ≤ 9 := by
  have h1 : (L.2.map List.length)[i]? = some s.length := by rw [List.getElem?_map, e]; rfl
  rw [h.2, List.getElem?_map] at h1
  cases hz1 : zs[i]? with
  | none => rw [hz1] at h1; cases h1
  | some z =>
    rw [hz1] at h1
    have := hz z (List.mem_of_getElem? hz1)
    have := Option.some.inj h1
    omega
theorem mtch_eq {α : Type} {L : Lay α} {p : Nat × Nat} {x : α} {row : List α} (h1 : L.1[p.1]? = some x) (h2 : L.2[p.2]? = some row) : step1 L p = (L.1.set p.1 (row.headD x), L.2.set p.2 (row ++ [x]).tail) := by
  unfold step1
  rw [h1, h2]
theorem exch_eq {L : Lay Int} {p : Nat × Nat} {x : Int} {row : List Int} (h1 : L.1[p.1]? = some x) (h2 : L.2[p.2]? = some row) : exch L p = [.int (p.1 : Nat), .int (p.2 : Nat), .int x, .int (row.headD x)] := by
  unfold exch
  rw [List.getD_eq_getElem?_getD, h1, List.getD_eq_getElem?_getD, h2]
  rfl
theorem vis_len (rs : List Ro) (m : Int) : (vis rs m).length ≤ rs.length := by
  unfold vis
  rw [List.length_map]
  have := meetN_len rs m rs.length
  rw [prs_meet, List.length_map] at this
  exact this
theorem tupsV_at {H : Hp} : ∀ {ps : List Addr} {ts : List (List V)} {i : Nat} {p : Addr}, TupsV H ps ts → ps[i]? = some p → ∃ t, ts[i]? = some t ∧ H p = some (.tup t)
  | _, _, i, _, .nil, e => by simp at e
  | _, _, 0, q, .cons h t, e => by
    obtain rfl := Option.some.inj e
    exact ⟨_, rfl, h⟩
  | _, _, i + 1, q, .cons h t, e => tupsV_at (i := i) t (by simpa using e)
theorem ok_afterTick (T : Bd P K mg) : FnOk P w K mg base CX0 2 T.aAfterTick T.dAfterTick ["plan", "number", "carried", "shelves"] (spAfterTick K) := by
  have GV : FnOk P w K mg base CX0 1 T.aVisitsIn T.dVisitsIn ["routes", "number"] (spVisitsIn K) := ok_visitsIn T.VisitsIn T.bt
  refine T.AfterTick.F.ok scAfterTick (fun vs H Q E h => ?_) (fun cdv A outer s H vs Q E hr h => ?_)
  · obtain ⟨p, ca, sh, n, zs, rs, L, rfl, _⟩ := h
    rfl
  · obtain ⟨p, ca, sh, n, zs, rs, L, rfl, hp, hv, hL, hf, q⟩ := h
    obtain ⟨a, b, hp1, ha, hb⟩ := hp.ex
    obtain ⟨qs, hs1, hs2⟩ := hL.s
    have hql := segT_len hs2
    obtain ⟨fl1, fl2⟩ := fit_at hf
    have hz12 := hv.z1
    have hr6 := hv.r1
    refine ⟨_, pss_cons (ps_set (i := 4) scAfterTick.nd rfl (Or.inl rfl) (pe_callTy call_list_of (by rfl) T.bt.list b_list (pa_cons (pv 2) pa_nil)))
      (pss_cons (ps_setLc (i := 5) (own := [("shelf", 8)]) (g := gName 8) (tt := tYes) (te := tCB (rLo K) (tCons (tVar 8) tNil)) rfl scAfterTick.nd rfl rfl (sw_true rfl rfl rfl (by decide +kernel)) (pi_tup (pv 3)) (blkOk_by (N := nAt) (sc := defScope sAfterTick) (by decide +kernel))
        (fun _ _ _ _ _ => pg_name (i := 8) scAfterTick.nd rfl (Or.inl rfl)) (fun _ _ _ _ _ => pts_nil) (fun _ _ _ _ _ => pe_callTy call_list_of (by rfl) T.bt.list b_list (pa_cons (pv 8) pa_nil)))
      (pss_cons (ps_set (i := 6) scAfterTick.nd rfl (Or.inl rfl) (pe_lst pa_nil))
      (pss_cons (ps_for PassesOwn.never rfl (pi_list (pe_call (E := E0) GV hr (by rfl) T.VisitsIn.g T.VisitsIn.F.kp T.VisitsIn.b .nil pass0 (pa_cons (pe_ix ix_tup (pv 0) pe_int (fun _ _ => rfl)) (pa_cons (pv 1) pa_nil))))
          (pg_tup rfl (pgs_cons (pg_name (i := 7) scAfterTick.nd rfl (.inl rfl)) (pgs_cons (pg_name (i := 8) scAfterTick.nd rfl (.inl rfl)) pgs_nil)))
        (pss_cons (ps_set (i := 9) scAfterTick.nd rfl (Or.inl rfl) (pe_ix ix_list (pv 4) (pv 7) (fun _ _ => rfl)))
        (pss_cons (ps_expr (pe_bm PySem.F.plainAttrs_list PySem.F.slot_list_append PySem.F.type_list_append mt_append (pe_ix ix_list (pv 5) (pv 8) (fun _ _ => rfl)) (pa_cons (pv 9) pa_nil)))
        (pss_cons (ps_set (i := 10) scAfterTick.nd rfl (Or.inl rfl) (pe_bm PySem.F.plainAttrs_list PySem.F.slot_list_pop PySem.F.type_list_pop mt_popAt (pe_ix ix_list (pv 5) (pv 8) (fun _ _ => rfl)) (pa_cons pe_int pa_nil)))
        (pss_cons (ps_asg (pv 10) (pg_sub (pv 4) (pv 7) set_list))
        (pss_one (ps_expr (pe_bm PySem.F.plainAttrs_list PySem.F.slot_list_append PySem.F.type_list_append mt_append (pv 6) (pa_cons (pe_tup (pa_cons (pv 7) (pa_cons (pv 8) (pa_cons (pv 9) (pa_cons (pv 10) pa_nil))))) pa_nil)))))))))
      (pss_one (ps_ret (pe_tup (pa_cons (pe_callTy call_tuple_of (by rfl) T.bt.tuple b_tuple (pa_cons (pv 4) pa_nil))
        (pa_cons (pe_callTy call_tuple_of (by rfl) T.bt.tuple b_tuple (pa_cons (pe_lc (own := [("row", 11)]) (g := gName 11) (tt := tYes) (te := tCB (rTo K) (tCons (tVar 11) tNil)) rfl scAfterTick.nd (pi_list (pv 5)) (blkOk_by (N := nAt) (sc := defScope sAfterTick) (by decide +kernel))
          (fun _ _ _ _ _ => pg_name (i := 11) scAfterTick.nd rfl (Or.inl rfl)) (fun _ _ _ _ _ => pts_nil) (fun _ _ _ _ _ => pe_callTy call_tuple_of (by rfl) T.bt.tuple b_tuple (pa_cons (pv 11) pa_nil))) pa_nil))
        (pa_cons (pv 6) pa_nil))))))))), ?_⟩
    -- hands
    refine ⟨.ref ca, rfl, ca, _, rfl, .inr hL.c, fun hd hhd => ?_⟩
    have sm0 : Same H (upd H hd (.lst (L.1.map V.int))) := same_upd hhd
    have kh : (upd H hd (.lst (L.1.map V.int))) hd = some (.lst (L.1.map V.int)) := upd_same
    generalize upd H hd (.lst (L.1.map V.int)) = H0 at sm0 kh ⊢
    have h0 : H hd = none := hhd
    clear hhd
    -- rows
    refine ⟨.ref sh, rfl, sh, rfl, ⟨_, sqT_same sm0 hs1⟩, fun R hR => lc_tup (xs := qs.map V.ref) (fun i H' => Same H0 H' ∧ ∃ rw : List Addr, H' R = some (.lst (rw.map V.ref)) ∧ RowL H' rw (L.2.take i) ∧ rw.Nodup ∧ ∀ q ∈ rw, H0 q = none ∧ q ≠ R)
      ⟨same_upd hR, [], upd_same, .nil, List.nodup_nil, fun q hq => (List.not_mem_nil hq).elim⟩ (fun i H' _ h => sqT_same (sm0.trans h.1) hs1) (fun i x H' hx ⟨sm, rw, kR, rl, nd, hrw⟩ => ?_) (fun H1 ⟨sm1, rw, kR, rl, nd, hrw⟩ => ?_)⟩
    · obtain ⟨q1, hq1, rfl⟩ := refs_lt hx
      obtain ⟨s1, hs3, hq2⟩ := segT_at hs2 hq1
      refine ⟨rfl, yes_go ⟨.ref q1, rfl, q1, _, rfl, .inr (sqT_same (sm0.trans sm) hq2), fun l hl => ?_⟩⟩
      have n0 : H0 l = none := Same.free sm hl
      have nR : R ≠ l := ne_of_none kR hl
      have kR2 : (upd H' l (.lst (s1.map V.int))) R = some (.lst (rw.map V.ref)) := by rw [upd_ne nR]; exact kR
      have hrl := rowL_len rl
      refine ⟨_, kR2, ?_, ?_, rw ++ [l], ?_, ?_, ?_, ?_⟩
      · rw [List.length_map, hrl, List.length_take]
        exact small1000 (by omega)
      · exact same_of (same_of sm n0) hR
      · rw [upd_same, List.map_append]
        rfl
      · rw [List.take_add_one, hs3]
        have hl2 : l ∉ rw := rowL_free rl hl
        refine rowL_snoc (by rw [upd_ne (Ne.symm nR), upd_same]) (rowL_imp (fun q hq o ho => ?_) rl)
        rw [upd_ne (hrw q hq).2, upd_ne (fun z : q = l => hl2 (by rw [← z]; exact hq))]
        exact ho
      · refine List.nodup_append.mpr ⟨nd, (by simp), fun x hx y hy z => ?_⟩
        rw [List.mem_singleton.mp hy] at z
        exact rowL_free rl hl (by rw [← z]; exact hx)
      · intro q hq
        rcases List.mem_append.mp hq with hq | hq
        · exact hrw q hq
        · rw [List.mem_singleton.mp hq]
          exact ⟨n0, Ne.symm nR⟩
    rw [List.length_map, hql, List.take_length] at rl
    have kh1 := sm1 _ _ kh
    have hRH : hd ≠ R := ne_of_none kh hR
    have hdrw : hd ∉ rw := fun m => by rw [(hrw _ m).1] at kh; cases kh
    have Rrw : R ∉ rw := fun m => (hrw _ m).2 rfl
    have smA := sm0.trans sm1
    -- exchanges
    refine ⟨Nat.zero_le _, fun xe hxe => ?_⟩
    have nxH : H xe = none := Same.free smA hxe
    have xh : xe ≠ hd := (ne_of_none kh1 hxe).symm
    have xR : xe ≠ R := (ne_of_none kR hxe).symm
    have xrw : xe ∉ rw := rowL_free rl hxe
    have sm2 : Same H1 (upd H1 xe (.lst [])) := same_upd hxe
    have kx : (upd H1 xe (.lst [])) xe = some (.lst []) := upd_same
    generalize upd H1 xe (.lst []) = H2 at sm2 kx ⊢
    have smB := smA.trans sm2
    -- visits
    refine ⟨.ref p, rfl, p, _, 1, .ref b, rfl, rfl, sqT_same smB hp1, rfl, .int n, rfl, b, rs, n, rfl, hb.same smB, by omega, fun r hr => ⟨(hv.ne r hr).1, by have := hv.r2 r hr; omega⟩, fun H3 f sm3 hf3 tl3 => ?_⟩
    rw [meets_vis hv.ro] at tl3
    obtain ⟨fs, kf, tv⟩ := tl3.ex
    have hfl : fs.length = (vis rs (n - 1)).length := by rw [tupsV_len tv, List.length_map]
    have smC := smB.trans sm3
    have kh3 := sm3 _ _ (sm2 _ _ kh1)
    have kR3 := sm3 _ _ (sm2 _ _ kR)
    have kx3 := sm3 _ _ kx
    have rl3 : RowL H3 rw L.2 := rowL_imp (fun q _ o ho => sm3 _ _ (sm2 _ _ ho)) rl
    have fh : f ≠ hd := fun z => by rw [z, sm2 _ _ kh1] at hf3; cases hf3
    have fR : f ≠ R := fun z => by rw [z, sm2 _ _ kR] at hf3; cases hf3
    have fx : f ≠ xe := fun z => by rw [z, kx] at hf3; cases hf3
    have frw : f ∉ rw := fun m => by
      obtain ⟨xs, e⟩ := rowL_mem rl m
      rw [sm2 _ _ e] at hf3
      cases hf3
    have hL2 : L = (L.1, L.2) := rfl
    refine ⟨f, rfl, ⟨_, .inl (.inl kf)⟩, for_list (xs := fs.map V.ref) (fun i σ H' => (∃ y7 y8 y9 y10 y11, σ = [some (.ref p), some (.int n), some (.ref ca), some (.ref sh), some (.ref hd), some (.ref R), some (.ref xe), y7, y8, y9, y10, y11]) ∧ Same H H' ∧ H' f = some (.lst (fs.map V.ref)) ∧ TupsV H' fs ((vis rs (n - 1)).map fun p => pairV p.1 (p.2 : Nat)) ∧
        H' hd = some (.lst ((steps ((vis rs (n - 1)).take i) L).1.map V.int)) ∧ H' R = some (.lst (rw.map V.ref)) ∧ RowL H' rw (steps ((vis rs (n - 1)).take i) L).2 ∧ TL H' xe (exN (vis rs (n - 1)) L i))
      ⟨⟨_, _, _, _, _, rfl⟩, smC, kf, tv, kh3, kR3, rl3, [], kx3, .nil⟩ (fun i σ H' _ h => .inl (.inl h.2.2.1)) (fun i x σ H' hx ⟨⟨y7, y8, y9, y10, y11, es⟩, sm, kf4, tv4, kh4, kR4, rl4, tl4⟩ => ?_) (fun σ H' ⟨⟨y7, y8, y9, y10, y11, es⟩, sm, kf4, tv4, kh4, kR4, rl4, tl4⟩ => ?_)⟩
    · subst es
      obtain ⟨U, hU, rfl⟩ := refs_lt hx
      obtain ⟨t0, ht0, hUt⟩ := tupsV_at tv4 hU
      rw [List.getElem?_map] at ht0
      cases hv1 : (vis rs (n - 1))[i]? with
      | none => rw [hv1] at ht0; cases ht0
      | some pr =>
      obtain ⟨c, s⟩ := pr
      rw [hv1] at ht0
      obtain rfl : pairV c (s : Nat) = t0 := Option.some.inj ht0
      have hcs := vis_ok hv.ro (n - 1) (c, s) (List.mem_of_getElem? hv1)
      obtain ⟨hc, hs⟩ := hcs
      simp only at hc hs
      have hfi := steps_fits ((vis rs (n - 1)).take i) hf
      have est := steps_take (L := L) hv1
      have eex := exN_succ (L := L) hv1
      generalize hLi : steps ((vis rs (n - 1)).take i) L = Li at kh4 rl4 hfi est eex
      obtain ⟨g1, g2⟩ := fit_at hfi
      obtain ⟨x, hx1⟩ : ∃ x, Li.1[c]? = some x := ⟨_, List.getElem?_eq_getElem (by omega)⟩
      obtain ⟨row, hrow⟩ : ∃ row, Li.2[s]? = some row := ⟨_, List.getElem?_eq_getElem (by omega)⟩
      have hrl := rowL_len rl4
      obtain ⟨q1, hq1⟩ : ∃ q, rw[s]? = some q := ⟨_, List.getElem?_eq_getElem (by omega)⟩
      have hq1m := List.mem_of_getElem? hq1
      obtain ⟨row', hrow', kq⟩ := rowL_at rl4 hq1
      obtain rfl : row = row' := Option.some.inj (hrow.symm.trans hrow')
      have hr9 := fit_row hfi hv.z2 hrow
      have hV1 : (Li.1.map V.int)[c]? = some (.int x) := by rw [List.getElem?_map, hx1]; rfl
      have hV2 : (rw.map V.ref)[s]? = some (.ref q1) := by rw [List.getElem?_map, hq1]; rfl
      refine ⟨U, pairV c (s : Nat), rfl, .inl (.inl hUt), rfl, _, _, rfl, _, _, rfl, rfl, ?_⟩
      refine ⟨.ref hd, rfl, .int (c : Nat), rfl, hd, _, _, _, rfl, rfl, .inl (.inl kh4), atI_nat hV1, ?_⟩
      refine ⟨.ref R, rfl, .int (s : Nat), rfl, R, _, _, .ref q1, rfl, rfl, .inl (.inl kR4), atI_nat hV2, .inl ⟨rfl, _, .inl (.inl kq)⟩, .int x, rfl, q1, _, _, rfl, rfl, kq, ?_, ?_⟩
      · rw [List.length_map]
        exact small1000 (by omega)
      have qR : q1 ≠ R := fun z => Rrw (by rw [← z]; exact hq1m)
      have qh : q1 ≠ hd := fun z => hdrw (by rw [← z]; exact hq1m)
      have qx : q1 ≠ xe := fun z => xrw (by rw [← z]; exact hq1m)
      have qf : q1 ≠ f := fun z => frw (by rw [← z]; exact hq1m)
      have nq : H q1 = none := by
        cases e : H q1 with
        | none => rfl
        | some o => have := sm0 _ _ e; rw [(hrw _ hq1m).1] at this; cases this
      have kq2 : (upd H' q1 (.lst (row.map V.int ++ [.int x]))) q1 = some (.lst (row.map V.int ++ [.int x])) := upd_same
      have kR5 : (upd H' q1 (.lst (row.map V.int ++ [.int x]))) R = some (.lst (rw.map V.ref)) := by rw [upd_ne (Ne.symm qR)]; exact kR4
      have kh5 : (upd H' q1 (.lst (row.map V.int ++ [.int x]))) hd = some (.lst (Li.1.map V.int)) := by rw [upd_ne (Ne.symm qh)]; exact kh4
      have sm5 : Same H (upd H' q1 (.lst (row.map V.int ++ [.int x]))) := same_of sm nq
      have up5 : ∀ b o, b ≠ q1 → H' b = some o → (upd H' q1 (.lst (row.map V.int ++ [.int x]))) b = some o := fun b o hb ho => by rw [upd_ne hb]; exact ho
      generalize upd H' q1 (.lst (row.map V.int ++ [.int x])) = H5 at kq2 kR5 kh5 sm5 up5 ⊢
      have hhead : (row.map V.int ++ [V.int x])[0]? = some (.int (row.headD x)) := by cases row <;> rfl
      have htail : (row.map V.int ++ [V.int x]).eraseIdx 0 = ((row ++ [x]).tail).map V.int := by
        rw [List.eraseIdx_zero, List.map_tail, List.map_append]
        rfl
      refine ⟨.ref R, rfl, .int (s : Nat), rfl, R, _, _, .ref q1, rfl, rfl, .inl (.inl kR5), atI_nat hV2, .inl ⟨rfl, _, .inl (.inl kq2)⟩, q1, _, 0, 0, _, rfl, rfl, kq2, by decide, by decide, ?_, hhead, ?_⟩
      · simp [seqIndex?]
      rw [htail]
      have nhd : H hd = none := h0
      have kh6 : (upd H5 q1 (.lst (((row ++ [x]).tail).map V.int))) hd = some (.lst (Li.1.map V.int)) := by rw [upd_ne (Ne.symm qh)]; exact kh5
      refine ⟨.int (row.headD x), rfl, .ref hd, rfl, .int (c : Nat), rfl, hd, _, _, c, rfl, rfl, kh6, ?_, ?_⟩
      · rw [List.length_map]
        exact ixN_nat (by omega)
      have sm6 : Same H (upd (upd H5 q1 (.lst (((row ++ [x]).tail).map V.int))) hd (.lst ((Li.1.map V.int).set c (.int (row.headD x))))) := same_of (same_of sm5 nq) nhd
      have up6 : ∀ b o, b ≠ q1 → b ≠ hd → H' b = some o → (upd (upd H5 q1 (.lst (((row ++ [x]).tail).map V.int))) hd (.lst ((Li.1.map V.int).set c (.int (row.headD x))))) b = some o := fun b o h1 h2 ho => by
        rw [upd_ne h2, upd_ne h1]
        exact up5 b o h1 ho
      have kh7 : (upd (upd H5 q1 (.lst (((row ++ [x]).tail).map V.int))) hd (.lst ((Li.1.map V.int).set c (.int (row.headD x))))) hd = some (.lst ((step1 Li (c, s)).1.map V.int)) := by
        rw [upd_same, mtch_eq hx1 hrow, List.map_set]
      have rl7 : RowL (upd (upd H5 q1 (.lst (((row ++ [x]).tail).map V.int))) hd (.lst ((Li.1.map V.int).set c (.int (row.headD x))))) rw (step1 Li (c, s)).2 := by
        rw [mtch_eq hx1 hrow]
        refine rowL_imp (fun q hq o ho => ?_) (rowL_set nd rl4 hq1)
        rw [upd_ne (fun z : q = hd => hdrw (by rw [← z]; exact hq))]
        by_cases hqq : q = q1
        · subst hqq
          rw [upd_same] at ho ⊢
          exact ho
        · rw [upd_ne hqq] at ho ⊢
          exact up5 _ _ hqq ho
      generalize upd (upd H5 q1 (.lst (((row ++ [x]).tail).map V.int))) hd (.lst ((Li.1.map V.int).set c (.int (row.headD x)))) = H7 at sm6 up6 kh7 rl7 ⊢
      obtain ⟨ps, kx7, tv7⟩ := tl4.ex
      have kx8 := up6 _ _ (Ne.symm qx) xh kx7
      refine ⟨.ref xe, rfl, .inl ⟨rfl, _, .inl (.inl kx8)⟩, .int (c : Nat), rfl, .int (s : Nat), rfl, .int x, rfl, .int (row.headD x), rfl, (by show 4 ≤ sizeLine; decide), fun t ht => ?_⟩
      have kx9 : (upd H7 t (.tup [.int (c : Nat), .int (s : Nat), .int x, .int (row.headD x)])) xe = some (.lst (ps.map V.ref)) := by rw [upd_ne (ne_of_none kx8 ht)]; exact kx8
      have psl : ps.length ≤ i := by rw [tupsV_len tv7]; exact exN_len _ _ _
      have il : i < (vis rs (n - 1)).length := (List.getElem?_eq_some_iff.mp hv1).1
      have vl := vis_len rs (n - 1)
      have up8 : ∀ b o, b ≠ q1 → b ≠ hd → b ≠ xe → H' b = some o → (upd (upd H7 t (.tup [.int (c : Nat), .int (s : Nat), .int x, .int (row.headD x)])) xe (.lst (ps.map V.ref ++ [.ref t]))) b = some o := fun b o h1 h2 h3 ho => by
        rw [upd_ne h3, upd_ne (ne_of_none (up6 _ _ h1 h2 ho) ht)]
        exact up6 _ _ h1 h2 ho
      have tl9 : TL (upd H7 t (.tup [.int (c : Nat), .int (s : Nat), .int x, .int (row.headD x)])) xe (exN (vis rs (n - 1)) L i) := by
        refine ⟨ps, kx9, tupsV_imp (fun b xs hb => ?_) tv7⟩
        have h1 : b ≠ q1 := fun z => by rw [z, kq] at hb; cases hb
        have h2 : b ≠ hd := fun z => by rw [z, kh4] at hb; cases hb
        have := up6 _ _ h1 h2 hb
        rw [upd_ne (ne_of_none this ht)]
        exact this
      refine ⟨xe, _, _, rfl, rfl, kx9, ?_, ⟨_, _, _, _, _, rfl⟩, same_of (same_of sm6 (Same.free sm6 ht)) nxH, ?_, ?_, ?_, ?_, ?_, ?_⟩
      · rw [List.length_map]
        exact small1000 (by omega)
      · exact up8 _ _ (Ne.symm qf) fh fx kf4
      · refine tupsV_imp (fun b xs hb => ?_) tv4
        exact up8 _ _ (fun z => by rw [z, kq] at hb; cases hb) (fun z => by rw [z, kh4] at hb; cases hb) (fun z => by rw [z, kx7] at hb; cases hb) hb
      · rw [est, upd_ne (Ne.symm xh), upd_ne (ne_of_none kh7 ht)]
        exact kh7
      · exact up8 _ _ (Ne.symm qR) (Ne.symm hRH) (Ne.symm xR) kR4
      · rw [est]
        refine rowL_imp (fun q hq o ho => ?_) rl7
        rw [upd_ne (fun z : q = xe => xrw (by rw [← z]; exact hq)), upd_ne (ne_of_none ho ht)]
        exact ho
      · rw [eex, exch_eq hx1 hrow]
        exact tl9.push kx9 upd_same
    · subst es
      rw [List.length_map, hfl, List.take_length] at kh4 rl4
      rw [List.length_map, hfl] at tl4
      have hrl := rowL_len rl4
      refine ⟨.ref hd, rfl, hd, _, rfl, .inl ⟨.inl (.inl kh4), fun ca' hca' => ?_⟩⟩
      have s1 : Same H' (upd H' ca' (.tup ((steps (vis rs (n - 1)) L).1.map V.int))) := same_upd hca'
      have k1 : (upd H' ca' (.tup ((steps (vis rs (n - 1)) L).1.map V.int))) ca' = some (.tup ((steps (vis rs (n - 1)) L).1.map V.int)) := upd_same
      generalize upd H' ca' (.tup ((steps (vis rs (n - 1)) L).1.map V.int)) = Ha at s1 k1 ⊢
      refine ⟨.ref R, rfl, R, rfl, ⟨_, .inl (.inl (s1 _ _ kR4))⟩, fun D hD => lc_list (xs := rw.map V.ref) (fun i H'' => Same Ha H'' ∧ ∃ qs' : List Addr, H'' D = some (.lst (qs'.map V.ref)) ∧ SegV H'' qs' ((steps (vis rs (n - 1)) L).2.take i))
        ⟨same_upd hD, [], upd_same, .nil⟩ (fun i H'' _ h => .inl (.inl (h.1 _ _ (s1 _ _ kR4)))) (fun i x H'' hx ⟨s2, qs', kD, sv⟩ => ?_) (fun H'' ⟨s2, qs', kD, sv⟩ => ?_)⟩
      · obtain ⟨q1, hq1, rfl⟩ := refs_lt hx
        obtain ⟨row, hrow, kq⟩ := rowL_at rl4 hq1
        have kq2 := s2 _ _ (s1 _ _ kq)
        refine ⟨rfl, yes_go ⟨.ref q1, rfl, q1, _, rfl, .inl ⟨.inl (.inl kq2), fun l hl => ?_⟩⟩⟩
        have nD : D ≠ l := ne_of_none kD hl
        refine ⟨_, by rw [upd_ne nD]; exact kD, ?_, same_of (same_of s2 (Same.free s2 hl)) hD, qs' ++ [l], ?_, ?_⟩
        · rw [List.length_map, segV_len sv, List.length_take]
          have := fit_at (steps_fits (vis rs (n - 1)) hf)
          exact small1000 (by omega)
        · rw [upd_same, List.map_append]
          rfl
        · rw [List.take_add_one, hrow]
          refine segV_imp (fun b xs hb => ?_) (segV_snoc (show (upd H'' l (.tup (row.map V.int))) l = some (.tup (row.map V.int)) from upd_same) (segV_imp (fun b xs hb => same_upd hl _ _ hb) sv))
          rw [upd_ne (fun z : b = D => by rw [z, upd_ne nD, kD] at hb; cases hb)]
          exact hb
      rw [List.length_map, hrl, List.take_length] at sv
      refine ⟨D, _, rfl, .inl ⟨.inl (.inl kD), fun sh' hsh' => ⟨.ref xe, rfl, (by show 3 ≤ sizeLine; decide), fun t ht => ?_⟩⟩⟩
      have ksh : (upd H'' sh' (.tup (qs'.map V.ref))) sh' = some (.tup (qs'.map V.ref)) := upd_same
      have s3 : Same H'' (upd (upd H'' sh' (.tup (qs'.map V.ref))) t (.tup [.ref ca', .ref sh', .ref xe])) := (same_upd hsh').trans (same_upd ht)
      have lay : LayAt (upd (upd H'' sh' (.tup (qs'.map V.ref))) t (.tup [.ref ca', .ref sh', .ref xe])) ca' sh' (steps (vis rs (n - 1)) L).1 (steps (vis rs (n - 1)) L).2 :=
        ⟨s3 _ _ (s2 _ _ k1), qs', by rw [upd_ne (ne_of_none ksh ht)]; exact ksh, segV_imp (fun b xs hb => s3 _ _ hb) sv⟩
      exact q _ t ca' sh' xe ((sm.trans s1).trans (s2.trans s3)) upd_same lay.t ((tl4.same s1).same (s2.trans s3)) nxH
end
end Sv


set_option maxHeartbeats 4000000
namespace Sv
open PySem PySem.Spec PyProof.Rows L2
theorem for_enumL {K : PySem.W.Frag} {a : Addr} {xs : List V} {g : TG} {tb : TS} {D : Ends} {σ : L2.St} {H : Hp} (Pv : Nat → L2.St → Hp → Prop) (h0 : Pv 0 σ H) (hl : ∀ i σ H, i ≤ xs.length → Pv i σ H → SqL K H a xs)
    (turn : ∀ i x σ H T, xs[i]? = some x → Pv i σ H → H T = none → g (.ref T) σ (upd H T (.tup [.int (i : Nat), x])) fun σ' H' => tb { nx := fun σ2 H2 => Pv (i + 1) σ2 H2, rt := D.rt, bk := D.nx, ct := fun σ2 H2 => Pv (i + 1) σ2 H2 } σ' H')
    (after : ∀ σ H, Pv xs.length σ H → D.nx σ H) : ∃ W : Nat → Nat → L2.St → Hp → Prop, (∃ m, W 0 m σ H) ∧ ∀ i m σ H, W i m σ H →
      ((Ite K a).stop i H ∧ D.nx σ H) ∨ ((Ite K a).go i H ∧ ∃ Nx : L2.St → Hp → Prop, (∀ σ' H', Nx σ' H' → ∃ m', m' < m ∧ W (i + 1) m' σ' H') ∧ ∀ x H', (Ite K a).yld i H x H' → g x σ H' fun σ2 H2 => tb { nx := Nx, rt := D.rt, bk := D.nx, ct := Nx } σ2 H2) := by
  refine ⟨fun i m σ H => i + m = xs.length ∧ Pv i σ H, ⟨xs.length, Nat.zero_add _, h0⟩, fun i m σ H ⟨em, hP⟩ => ?_⟩
  have hS := hl i σ H (by omega) hP
  by_cases hi : i < xs.length
  · have gx : xs[i]? = some xs[i] := List.getElem?_eq_getElem hi
    refine .inr ⟨⟨xs, _, hS, gx⟩, fun σ' H' => Pv (i + 1) σ' H', fun σ' H' h => ⟨m - 1, by omega, by omega, h⟩, fun x H' hy => ?_⟩
    obtain ⟨T, y, rfl, nT, rfl, hy⟩ := hy
    have ey : y = xs[i] := Option.some.inj ((hy xs hS).symm.trans gx)
    rw [ey]
    exact turn i _ σ H T gx hP nT
  · have e : i = xs.length := by omega
    refine .inl ⟨⟨xs, hS, by omega⟩, after σ H ?_⟩
    rw [← e]
    exact hP


section
variable {P : Program} {w : World} {K : PySem.W.Frag} {mg : Str → Option Value} {base : Heap}
/-! ### inverse of a list -/
def spInverseL (K : PySem.W.Frag) : Sp := fun vs H Q _ => ∃ (a : Addr) (e : List Nat), vs = [.ref a] ∧ SqL K H a (vN e) ∧ Eff e ∧ e.length ≤ 1000 ∧ NewT H (inv e) Q
theorem ok_inverseL (T : Bd P K mg) : FnOk P w K mg base CX0 1 T.aInverse T.dInverse ["effect"] (spInverseL K) := by
  refine T.Inverse.F.ok scInverse (fun vs H Q E h => ?_) (fun cdv A outer s H vs Q E hr h => ?_)
  · obtain ⟨a, e, rfl, _⟩ := h
    rfl
  · obtain ⟨a, e, rfl, hA, he, hl, q⟩ := h
    refine ⟨_, pss_cons (ps_set (i := 1) scInverse.nd rfl (Or.inl rfl) (pe_op op_rep (pe_lst (pa_cons pe_int pa_nil)) (pe_callB call_len_seq (by rfl) T.bt.len b_len (pa_cons (pv 0) pa_nil))))
      (pss_cons (ps_for PassesOwn.never rfl (pi_enum (by rfl) T.bt.enumerate (pa_cons (pv 0) pa_nil)) (pg_tup rfl (pgs_cons (pg_name (i := 2) scInverse.nd rfl (.inl rfl)) (pgs_cons (pg_name (i := 3) scInverse.nd rfl (.inl rfl)) pgs_nil)))
        (pss_one (ps_asg (pv 2) (pg_sub (pv 1) (pv 3) set_list))))
      (pss_one (ps_ret (pe_callTy call_tuple_of (by rfl) T.bt.tuple b_tuple (pa_cons (pv 1) pa_nil))))), ?_⟩
    refine ⟨by decide, fun p hp => ?_⟩
    refine ⟨.ref a, rfl, a, vN e, rfl, .inl (Same.seq (same_upd hp) hA), ?_⟩
    rw [vN_len]
    have small : (e.length : Int) < 2 ^ 63 := by
      have : (1000 : Int) < 2 ^ 63 := by decide
      omega
    refine ⟨p, (e.length : Int), [.int 0], rfl, rfl, upd_same, by omega, small, ?_, fun l hl2 => ?_⟩
    · show 1 * (e.length : Int).toNat ≤ sizeLine
      rw [Nat.one_mul, Int.toNat_natCast]
      exact sz1000 hl
    · have sm2 : Same H (upd (upd H p (.lst [.int 0])) l (.lst (List.replicate (e.length : Int).toNat [V.int 0]).flatten)) := same_of (same_upd hp) (Same.free (same_upd hp) hl2)
      have nl : H l = none := Same.free (same_upd hp) hl2
      have e0 : (List.replicate (e.length : Int).toNat [V.int 0]).flatten = vN (invF e 0) := by
        rw [rep_one_list, Int.toNat_natCast]
        show _ = vN (List.replicate e.length 0)
        unfold vN
        rw [List.map_replicate]
        rfl
      rw [e0] at sm2 ⊢
      refine ⟨.ref a, rfl, a, vN e, rfl, Same.seq sm2 hA, for_enumL (xs := vN e) (fun i σ H' => (∃ y2 y3, σ = [some (.ref a), some (.ref l), y2, y3]) ∧ Same H H' ∧ H' l = some (.lst (vN (invF e i)))) ⟨⟨none, none, rfl⟩, sm2, upd_same⟩
        (fun i σ H' _ h => Same.seq h.2.1 hA) (fun i x σ H' U hx ⟨⟨y2, y3, es⟩, sm, hd⟩ hU => ?_) (fun σ H' ⟨⟨y2, y3, es⟩, sm, hd⟩ => ?_)⟩
      · subst es
        obtain ⟨hi, rfl⟩ := vN_lt hx
        have nlU : l ≠ U := ne_of_none hd hU
        refine ⟨U, [.int (i : Nat), .int (ap e i : Nat)], rfl, .inl (.inl upd_same), rfl, _, _, rfl, _, _, rfl, rfl, ?_⟩
        refine ⟨.int (i : Nat), rfl, .ref l, rfl, .int (ap e i : Nat), rfl, l, vN (invF e i), _, ap e i, rfl, rfl, by rw [upd_ne nlU]; exact hd, ?_, ⟨some (.int (i : Nat)), some (.int (ap e i : Nat)), rfl⟩, same_of (same_of sm (Same.free sm hU)) nl, ?_⟩
        · rw [vN_len, invF_len]
          exact ixN_nat (ap_lt he hi)
        · rw [upd_same, vN_set]
          rfl
      · subst es
        rw [vN_len] at hd
        exact ⟨.ref l, rfl, l, _, rfl, .inl ⟨.inl (.inl hd), fun l2 hl2 => q _ _ (same_of sm (Same.free sm hl2)) (Same.free sm hl2) upd_same⟩⟩
/-! ### effect_of_few -/
def iN (l : List Nat) : List Int := l.map fun (n : Nat) => (n : Int)
theorem iN_V (l : List Nat) : (iN l).map V.int = vN l := by unfold iN vN; rw [List.map_map]; rfl
theorem rgV_iN (n : Nat) : rgV 0 (n : Int) = (iN (List.range n)).map V.int := by
  rw [iN_V]
  unfold rgV vN
  simp
def nEf : List Str := ["plan", "time", "count", "carried", "shelves", "step", "_"]
def spEffectFew (K : PySem.W.Frag) : Sp := fun vs H Q _ => ∃ (p : Addr) (t : Int) (k : Nat) (zs : List Int) (rs : List Ro), vs = [.ref p, .int t, .int (k : Nat)] ∧ PlanAt K H p zs rs ∧ Val zs rs ∧ k ≤ 1000 ∧ NewT H (fwd rs.length zs rs t k) Q
/-- a layout of numbers of places -/
def iL (L : Lay Nat) : Lay Int := mapL (fun (n : Nat) => (n : Int)) L
theorem spl_iN (n : Nat) (zs : List Int) (l : List Nat) : spl n zs (iN l) = iL (spl n zs l) := spl_map _ n zs l
theorem run_iL (rs : List Ro) (t : Int) (k : Nat) (L : Lay Nat) : run rs t k (iL L) = iL (run rs t k L) := run_map _ rs t k L
end
end Sv


set_option maxHeartbeats 4000000
/-! a local that is given a new dict, made by a comprehension over a list -/
namespace Sv
open PySem PySem.Spec PyProof.Rows L2
section
variable {Z : Cx}
/-- a rule for each block of a comprehension -/
abbrev AllBlk (Z : Cx) (sc : Scope) (R : Cx → Prop) : Prop := ∀ (s : Shared) (H : Hp) (c0 : Addr) (cl : List (Str × Addr)) (fp : List Addr), R (Z.blk s H sc (compEnvC sc cl c0 Z.env) fp)
theorem swD_yes {ke ve : Expr} {gens : List Comprehension} {sc : Scope} {dp np : Pos} {nm : Str} {ln : Nat} {ev : Env} (h1 : ev.scope.kind = .function) (h2 : ev.scope.names.lookup nm = some .local) (h3 : (np.line == dp.line) = true)
    (h4 : (sc.names.any fun (a, b) => a == nm && (b == .local || b == .cell)) = false) : swapsWith (.DictComp ke ve gens sc dp) (some (.Name nm np)) ln ev = pure true := by
  have e1 : ev.kindOf nm = some .local := h2
  have e2 : ev.blockKind = .function := by
    unfold Env.blockKind
    rw [h1]
    rfl
  unfold swapsWith
  simp only [e2, e1, h4, Expr.pos, h3]
  rfl
theorem ps_setDc {j : Nat} {nm : Str} {np dp sp : Pos} {ke ve tg it : Expr} {ifs : List Expr} {sc : Scope} {own : List (Str × Nat)} {wi : TI} {g : TG} {tt : TT} {tk tv : TE} (calm : Z.calm = true) (nd : Z.N.Nodup) (hj : Z.N[j]? = some nm) (hl : Z.env.scope.names.lookup nm = some .local)
    (sw : swapsWith (.DictComp ke ve [⟨tg, it, ifs, 0⟩] sc dp) (some (.Name nm np)) sp.line Z.env = pure true) (pi : PI Z tg it wi) (ok : BlkOk Z.N Z.env.scope sc own)
    (p1 : AllBlk Z sc fun B => PG B tg g) (p2 : AllBlk Z sc fun B => PTs B ifs tt) (p3 : AllBlk Z sc fun B => PE B ke tk) (p4 : AllBlk Z sc fun B => PE B ve tv) (fi : ∀ x, foldedSetIterable it Z.env x = pure x := by intro _; rfl) :
    PS Z (.Assign [.Name nm np] (.DictComp ke ve [⟨tg, it, ifs, 0⟩] sc dp) sp) (tAsg (tDc wi g tt tk tv (own.map (·.2))) (gName j)) := by
  refine ⟨fun pins s σ H D I hq0 => ?_⟩
  rw [exec_Assign_Name_used _ _ _ _ sw]
  refine wpAny_bind (wpAny_standAt (wpAny_bind ?_))
  show wpAny _ Z.A (do let _ ← comprehension (.DictComp ke ve [⟨tg, it, ifs, 0⟩] sc dp) sc Z.env (firstIterPos [⟨tg, it, ifs, 0⟩] dp) newDict false (eval it Z.env) (some (assign (.Name nm np) Z.env))) _ _ s
  have hq : tDc wi g tt tk tv (own.map (·.2)) σ H (fun x H1 => gName j x σ H1 D.nx) := hq0
  refine wpAny_bind (thn (dc_core (Qf := fun _ s' => SP Z pins D .next s') calm nd I pi ok p1 p2 p3 p4 fi hq fun d c s1 m1 H1 I1 q1 hns fr => ?_) fun _ s1 h => wpAny_pure (wpAny_pure h))
  show wpAny _ _ (assign (.Name nm np) Z.env (.ref d)) _ _ _
  obtain ⟨x0, x1, x2, x3, x4, x5⟩ := fr
  refine wpAny_assign_Name (store_ok2 (v := V.ref d) I1 nd hj (.inl hl) rfl (fun s2 I2 ⟨a, sb, ha⟩ => ?_) (.inr hl))
  have ne : c ≠ a := by
    rcases ha with z | z
    · rw [z]
      exact x1
    · exact fun e => x4 nm a z e.symm
  exact ⟨m1, hns.sameBut sb ne, fun h3 sb3 => ⟨_, H1, I2.turned (t' := s2.toks) (fun b o hb e => (sb3.2 b hb).trans e) x0 x1 x3 x4 x5, q1⟩⟩
end
/-- the dict is made by the items of a list -/
theorem dc_list {K : PySem.W.Frag} {a : Addr} {xs : List V} {g : TG} {tt : TT} {tk tv : TE} {vs : List Nat} {σ : L2.St} {H1 : Hp} {D : Addr} {Qd : Hp → Prop} (Pv : Nat → Hp → Prop) (start : Pv 0 (upd H1 D (.dK []))) (stays : ∀ i H, i ≤ xs.length → Pv i H → SqL K H a xs)
    (turn : ∀ i x H, xs[i]? = some x → Pv i H → g x (wipe σ vs) H fun σ2 H2 => wipe σ2 vs = wipe σ vs ∧ tt σ2 H2 fun b H3 =>
      if b = true then tk σ2 H3 fun y H4 => tv σ2 H4 fun z H5 => ∃ kvs k, y = kV k ∧ H5 D = some (.dK kvs) ∧ kvs.length < sizeLine ∧ Pv (i + 1) (upd H5 D (.dK (putK kvs k z))) else Pv (i + 1) H3) (after : ∀ H, Pv xs.length H → Qd H) :
    ∃ W : Nat → Nat → Hp → Prop, (∃ m, W 0 m (upd H1 D (.dK []))) ∧ ∀ i m H, W i m H →
      ((Itl K a).stop i H ∧ Qd H) ∨ ((Itl K a).go i H ∧ ∃ Nx : Hp → Prop, (∀ H', Nx H' → ∃ m', m' < m ∧ W (i + 1) m' H') ∧ ∀ x H', (Itl K a).yld i H x H' → g x (wipe σ vs) H' fun σ2 H2 => wipe σ2 vs = wipe σ vs ∧ tt σ2 H2 fun b H3 =>
        if b = true then tk σ2 H3 fun y H4 => tv σ2 H4 fun z H5 => ∃ kvs k, y = kV k ∧ H5 D = some (.dK kvs) ∧ kvs.length < sizeLine ∧ Nx (upd H5 D (.dK (putK kvs k z))) else Nx H3) := by
  refine ⟨fun i m H => m = xs.length - i ∧ i ≤ xs.length ∧ Pv i H, ⟨xs.length, by simp, Nat.zero_le _, start⟩, fun i m H ⟨em, hi, p⟩ => ?_⟩
  subst em
  have st := stays i H hi p
  rcases Nat.lt_or_ge i xs.length with lt | ge
  · refine .inr ⟨⟨xs, xs[i], st, by simp [lt]⟩, Pv (i + 1), fun H' p' => ⟨xs.length - (i + 1), by omega, rfl, lt, p'⟩, fun x H' yl => ?_⟩
    obtain ⟨e, yl⟩ := yl
    subst e
    exact turn i x _ (yl xs st) p
  · obtain rfl : i = xs.length := by omega
    exact .inl ⟨⟨xs, st, Nat.le_refl _⟩, after H p⟩
end Sv


set_option maxHeartbeats 4000000
/-! the place of a plain item in a tuple -/
namespace Sv
open PySem PySem.Spec PyProof.Rows L2
def rIxOfT (K : PySem.W.Frag) : V → List V → Hp → VK → Prop := fun x xs H Q => ∃ (p : Addr) (ys : List V) (y z : V) (j : Nat), x = V.ref p ∧ xs = [y] ∧ SqT K H p ys ∧ flatV y = true ∧ ys.all flatV = true ∧ ys[j]? = some z ∧ eqV z y = true ∧
  (∀ (m : Nat) (v : V), m < j → ys[m]? = some v → eqV v y = false) ∧ Q (.int (j : Nat)) H
theorem mt_tupIx {X : Cx} : MtR X "tuple.index" (rIxOfT X.K) := by
  intro pins s σ H x xs v us Q I rx rs hQ
  obtain ⟨p, ys, y, z, j, rfl, rfl, hq, g1, g2, hz, hzy, before, q⟩ := hQ
  cases rx
  obtain ⟨u0, rfl, ru0⟩ : ∃ u0, us = [u0] ∧ RelV y u0 := by
    cases rs with
    | cons a b =>
      cases b
      exact ⟨_, rfl, a⟩
  obtain ⟨its, r, pl, -⟩ := I.tuple hq
  obtain ⟨⟨c0, dd, d0, sl⟩, ho, hc, n, hd⟩ := pl
  simp only at hc hd
  subst hc hd
  have len : its.length = ys.length := r.length.symm
  have item : ∀ (m : Nat) (hm : m < its.toArray.size) (v : V), ys[m]? = some v → eqU y its.toArray[m] = eqV v y := fun m hm v hv => by
    obtain ⟨w, hw, rw'⟩ := r.get hv
    have e : its.toArray[m] = w := by simpa using (List.getElem?_eq_some_iff.mp hw).2
    rw [e, eqU_of rw' (flat_at g2 hv)]
  have hj : j < its.toArray.size := by
    have := (List.getElem?_eq_some_iff.mp hz).1
    rw [List.size_toArray]
    omega
  refine call_meets PySem.F.slot_tuple_index ⟨_, ho, rfl⟩ PySem.F.entry_tuple_index (PySem.F.args_tuple_index_2 _ _) (TI.tuple_indexAt p its.toArray n dd sl u0 (eqU y) j hj ((item j hj z hz).trans hzy) fun m hm lt => ?_)
    ⟨ho, fun w hw => mem_eqAt ru0 g1 r g2 w (by simpa using hw), .int (j : Nat), H, I.tok _, ⟨_, rfl⟩, q⟩
  have hm' : m < ys.length := by
    rw [List.size_toArray] at hm
    omega
  have hv := List.getElem?_eq_getElem hm'
  exact (item m hm _ hv).trans (before m _ lt hv)
/-! ### a new tuple that is known to have no attributes of its own, and its methods -/
section
variable {Z : Cx}
theorem mk_tupF : CallR Z (.type "tuple") (fun xs H Q => ∃ p ys, xs = [.ref p] ∧ SqL Z.K H p ys ∧ ((∀ l, H l = none → Q (.ref l) (upd H l (.tup ys))) ∨ ∀ l o, H l = none → o.dict = none → Q (.ref l) (upd H l (.frz o (.tup ys))))) := by
  intro pins s σ H xs us Q I rv hq
  obtain ⟨p, ys, rfl, hs, q⟩ := hq
  obtain ⟨u, rfl, ru⟩ : ∃ u, us = [u] ∧ RelV (.ref p) u := by
    cases rv with
    | cons a b =>
      cases b
      exact ⟨_, rfl, a⟩
  cases ru
  obtain ⟨its, vv, pl, hz⟩ := I.list hs
  have hle := vv.length
  refine call_tuple_list pl.isList (fun g kp => ?_) (by simp only [List.size_toArray] <;> omega)
  have J : Inv Z pins σ H { s with heap := g } := I.kept (t' := s.toks) kp
  have old : ∀ b u, g.get? b = some u → (g.push { cls := .type "tuple", data := .seq its.toArray }).get? b = some u := fun b u e => Heap.get?_push_of_some _ e
  have fr := J.hok.fresh (Nat.le_refl g.objs.size)
  rcases q with q | q
  · exact ⟨.ref g.objs.size, _, J.laid (o := .tup ys) (t' := s.toks) old (Nat.le_refl _) ⟨hz, its, vv, IsTup.new _ _⟩, rfl, q _ fr⟩
  · exact ⟨.ref g.objs.size, _, J.laid (o := .frz { cls := .type "tuple", data := .seq its.toArray } (.tup ys)) (t' := s.toks) old (Nat.le_refl _) ⟨Heap.get?_push_size g rfl, hz, its, vv, IsTup.new _ _⟩, rfl, q _ _ fr rfl⟩
/-- o.m(..), o such a tuple -/
def tTupM (r : V → List V → Hp → VK → Prop) (to : TE) (t : TA) : TE := fun σ H Q => to σ H fun x H1 => (∃ p o ys, x = .ref p ∧ H1 p = some (.frz o (.tup ys)) ∧ o.dict = none) ∧ t σ H1 fun xs H2 => r x xs H2 Q
theorem pe_tupM {ob e : Expr} {es : List Expr} {to : TE} {t : TA} {nm : Str} {ap cp : Pos} {bid : String} {r : V → List V → Hp → VK → Prop} (sl : Slot "tuple" nm bid) (ty : typeOf (.builtin bid) = pure (.type "method_descriptor")) (rule : MtR Z bid r) (h1 : PE Z ob to) (h2 : PA Z (e :: es) t)
    (a1 : attributeBase ob nm Z.env (eval ob Z.env) = eval ob Z.env := by rfl)
    (a2 : ((backTo cp (starEach (e :: es) Z.env)).all (fun x => !x.1) && (backToKw cp (keywordEach [] Z.env)).all (fun x => x.1.isSome) && decide ((e :: es).length + ([] : List Keyword).length + (if ([] : List Keyword).isEmpty then 0 else 1) < 30)) = true := by rfl)
    (a3 : (ap.endLine == cp.line) = true := by rfl) (a4 : starEach (e :: es) Z.env = (false, eval e Z.env) :: starEach es Z.env := by rfl) (a5 : (backTo cp (starEach es Z.env)).any (·.1) = false := by rfl) :
    PE Z (.Call (.Attribute ob nm ap) (e :: es) [] cp) (tTupM r to t) := by
  refine ⟨fun pins s σ H Q I h => wpAny_Call_method_late a1 a2 a3 rfl (thn (h1.run pins s σ H _ I h) fun v s1 hv => ?_)⟩
  obtain ⟨x, H1, I1, r1, ⟨p, o, ys, rfl, hp, hd⟩, q1⟩ := hv
  cases r1
  obtain ⟨g1, _, its, _, o2, g2, c2, _⟩ := (show ObjOk Z.prog Z.w H1 s1.heap p (.frz o (.tup ys)) from I1.hok p _ hp)
  obtain rfl : o = o2 := Option.some.inj (g1.symm.trans g2)
  refine ⟨"tuple", bid, PySem.F.plainAttrs_tuple, sl, ty, ⟨o, g1, c2⟩, fun a ea => by cases ea; exact ⟨o, g1, hd⟩, ?_⟩
  have hA := h2.run cp pins s1 σ H1 _ I1 q1
  rw [a4] at hA ⊢
  refine Calls.callWith_builtin (by show (false || (backTo cp (starEach es Z.env)).any (·.1)) = false; rw [a5] <;> rfl) (Calls.evalArgs_plain (thn hA fun us s2 hu => ?_))
  obtain ⟨vs, H2, I2, r2, q2⟩ := hu
  exact rule pins s2 σ H2 (.ref p) vs (.ref p) us Q I2 rfl r2 q2
end
end Sv


set_option maxHeartbeats 4000000
namespace Sv
open PySem PySem.Spec PyProof.Rows L2
/-! ### rows of any values, each a list of its own -/
def RowV (H : Hp) (rw : List Addr) (ss : List (List V)) : Prop := Paired (fun q s => H q = some (.lst s)) rw ss
theorem rowV_imp {H H' : Hp} : ∀ {rw : List Addr} {ss : List (List V)}, (∀ q ∈ rw, ∀ o, H q = some o → H' q = some o) → RowV H rw ss → RowV H' rw ss
  | _, _, _, .nil => .nil
  | _, _, e, .cons h t => .cons (e _ (List.mem_cons_self ..) _ h) (rowV_imp (fun q hq => e q (List.mem_cons_of_mem _ hq)) t)
theorem rowV_len {H : Hp} : ∀ {rw : List Addr} {ss : List (List V)}, RowV H rw ss → rw.length = ss.length
  | _, _, .nil => rfl
  | _, _, .cons _ t => congrArg Nat.succ (rowV_len t)
theorem rowV_at {H : Hp} : ∀ {rw : List Addr} {ss : List (List V)} {i : Nat} {q : Addr}, RowV H rw ss → rw[i]? = some q → ∃ s, ss[i]? = some s ∧ H q = some (.lst s)
  | _, _, i, _, .nil, e => by simp at e
  | _, _, 0, q, .cons h t, e => by
    obtain rfl := Option.some.inj e
    exact ⟨_, rfl, h⟩
  | _, _, i + 1, q, .cons h t, e => rowV_at (i := i) t (by simpa using e)
theorem rowV_mem {H : Hp} {rw : List Addr} {ss : List (List V)} (h : RowV H rw ss) {q : Addr} (hq : q ∈ rw) : ∃ xs, H q = some (.lst xs) := by
  obtain ⟨i, hi⟩ := List.mem_iff_getElem?.mp hq
  obtain ⟨s, _, e⟩ := rowV_at h hi
  exact ⟨_, e⟩
theorem rowV_free {H : Hp} {rw : List Addr} {ss : List (List V)} (h : RowV H rw ss) {q : Addr} (hq : H q = none) : q ∉ rw := fun m => by
  obtain ⟨xs, e⟩ := rowV_mem h m
  rw [hq] at e
  cases e
theorem rowV_snoc {H : Hp} {q : Addr} {s : List V} (h : H q = some (.lst s)) : ∀ {rw : List Addr} {ss : List (List V)}, RowV H rw ss → RowV H (rw ++ [q]) (ss ++ [s])
  | _, _, .nil => .cons h .nil
  | _, _, .cons r t => .cons r (rowV_snoc h t)
theorem rowV_set {H : Hp} {s' : List V} : ∀ {rw : List Addr} {ss : List (List V)} {i : Nat} {q : Addr}, rw.Nodup → RowV H rw ss → rw[i]? = some q → RowV (upd H q (.lst s')) rw (ss.set i s')
  | _, _, i, _, _, .nil, e => by simp at e
  | r :: rw, s :: ss, 0, q, nd, .cons h t, e => by
    obtain rfl := Option.some.inj e
    refine .cons upd_same (rowV_imp (fun b hb o ho => ?_) t)
    rw [upd_ne (fun z : b = r => (List.nodup_cons.mp nd).1 (by rw [← z]; exact hb))]
    exact ho
  | r :: rw, s :: ss, i + 1, q, nd, .cons h t, e => by
    have e' : rw[i]? = some q := by simpa using e
    refine .cons ?_ (rowV_set (List.nodup_cons.mp nd).2 t e')
    rw [upd_ne (fun z : r = q => (List.nodup_cons.mp nd).1 (by rw [z]; exact List.mem_of_getElem? e'))]
    exact h
/-! ### all but one object stays -/
def Ox (x : Addr) (H H' : Hp) : Prop := ∀ b o, b ≠ x → H b = some o → H' b = some o
section
variable {x q : Addr} {H H1 H2 : Hp} {o : HO}
theorem Ox.refl (x : Addr) (H : Hp) : Ox x H H := fun _ _ _ e => e
theorem Ox.then (a : Ox x H H1) (b : Same H1 H2) : Ox x H H2 := fun c u n e => b _ _ (a c u n e)
theorem Ox.put (a : Ox x H H1) (o : HO) : Ox x H (upd H1 x o) := fun c u n e => by
  rw [upd_ne n]
  exact a c u n e
theorem Ox.at (a : Ox x H H1) (n : H q = none) (o : HO) : Ox x H (upd H1 q o) := fun c u m e => by
  rw [upd_ne (fun z => by rw [z, n] at e; cases e)]
  exact a c u m e
theorem Ox.free (a : Ox x H H1) (hx : H1 x = some o) (n : H1 q = none) : H q = none := by
  cases e : H q with
  | none => rfl
  | some u =>
    have : q ≠ x := fun z => by rw [z, hx] at n; cases n
    rw [a q u this e] at n
    cases n
theorem sqT_ox {K : PySem.W.Frag} {C dx : Addr} {fs : List (Str × V)} (hx : H x = some (.ins C dx fs)) (e : Ox x H H1) : ∀ a xs, SqT K H a xs → SqT K H1 a xs := fun a xs h => by
  have ne : ∀ u, H a = some u → (∀ C dx fs, u ≠ .ins C dx fs) → a ≠ x := fun u h1 h2 z => by
    rw [z, hx] at h1
    exact h2 _ _ _ (Option.some.inj h1).symm
  rcases h with (h | ⟨u, h⟩) | h
  · exact .inl (.inl (e _ _ (ne _ h fun _ _ _ z => nomatch z) h))
  · exact .inl (.inr ⟨u, e _ _ (ne _ h fun _ _ _ z => nomatch z) h⟩)
  · exact .inr h
theorem sqT_ul {K : PySem.W.Frag} {ys : List V} (hq : H q = some (.lst ys)) (o : HO) : ∀ a xs, SqT K H a xs → SqT K (upd H q o) a xs := fun a xs h => by
  have ne : ∀ u, H a = some u → (∀ zs, u ≠ .lst zs) → a ≠ q := fun u h1 h2 z => by
    rw [z, hq] at h1
    exact h2 _ (Option.some.inj h1).symm
  have st : ∀ u, H a = some u → (∀ zs, u ≠ .lst zs) → upd H q o a = some u := fun u h1 h2 => by
    rw [upd_ne (ne u h1 h2)]
    exact h1
  rcases h with (h | ⟨u, h⟩) | h
  · exact .inl (.inl (st _ h fun _ z => nomatch z))
  · exact .inl (.inr ⟨u, st _ h fun _ z => nomatch z⟩)
  · exact .inr h
end
theorem lk_same (f : Str) (v : V) (fs : List (Str × V)) : (putF f v fs).lookup f = some v := by rw [lookup_putF, if_pos rfl]
theorem lk_ne {f g : Str} (h : g ≠ f) (v : V) (fs : List (Str × V)) : (putF f v fs).lookup g = fs.lookup g := by rw [lookup_putF, if_neg h]
/-! ### a lap, the mathematics -/
/-- where the parcel of place i is after up to k ticks -/
def stopV (n : Nat) (zs : List Int) (rs : List Ro) (t : Int) (k i : Nat) : List V := (List.range (k + 1)).map fun j => V.int (ap (fwd n zs rs t j) i : Nat)
def stopsV (n : Nat) (zs : List Int) (rs : List Ro) (t : Int) (k : Nat) : List (List V) := (List.range (n + sumN zs)).map (stopV n zs rs t k)
/-- on which shelf x is left by the first k of the visits -/
def lefN (ps : List (Nat × Nat)) (L : Lay Int) (x : Int) : Nat → V
  | 0 => .non
  | k + 1 => match ps[k]? with
    | some p => if x = (steps (ps.take k) L).1.getD p.1 0 then .int (p.2 : Nat) else lefN ps L x k
    | none => lefN ps L x k
def lefV (ps : List (Nat × Nat)) (L : Lay Int) (x : Int) : V := lefN ps L x ps.length
/-- in which shelves the parcel of place i is left, tick by tick -/
def leftV (n : Nat) (zs : List Int) (rs : List Ro) (t : Int) (k i : Nat) : List V := (List.range k).map fun j => lefV (vis rs (t + (j : Nat))) (iL (run rs t j (idx n zs))) (i : Nat)
def leftsV (n : Nat) (zs : List Int) (rs : List Ro) (t : Int) (k : Nat) : List (List V) := (List.range (n + sumN zs)).map (leftV n zs rs t k)
theorem stopV_succ (n : Nat) (zs : List Int) (rs : List Ro) (t : Int) (k i : Nat) : stopV n zs rs t (k + 1) i = stopV n zs rs t k i ++ [.int (ap (fwd n zs rs t (k + 1)) i : Nat)] := by
  unfold stopV
  rw [List.range_succ (n := k + 1), List.map_append]
  rfl
theorem leftV_succ (n : Nat) (zs : List Int) (rs : List Ro) (t : Int) (k i : Nat) : leftV n zs rs t (k + 1) i = leftV n zs rs t k i ++ [lefV (vis rs (t + (k : Nat))) (iL (run rs t k (idx n zs))) (i : Nat)] := by
  unfold leftV
  rw [List.range_succ (n := k), List.map_append]
  rfl
theorem stopV_len (n : Nat) (zs : List Int) (rs : List Ro) (t : Int) (k i : Nat) : (stopV n zs rs t k i).length = k + 1 := by unfold stopV; simp
theorem leftV_len (n : Nat) (zs : List Int) (rs : List Ro) (t : Int) (k i : Nat) : (leftV n zs rs t k i).length = k := by unfold leftV; simp
/-- some of the rows are longer already -/
def midV (n : Nat) (A B : Nat → List V) (om : List Nat) : List (List V) := (List.range n).map fun o => if o ∈ om then B o else A o
theorem midV_at {n : Nat} {A B : Nat → List V} {om : List Nat} {o : Nat} (h : o < n) : (midV n A B om)[o]? = some (if o ∈ om then B o else A o) := by
  unfold midV
  rw [List.getElem?_map, List.getElem?_range h]
  rfl
theorem midV_len (n : Nat) (A B : Nat → List V) (om : List Nat) : (midV n A B om).length = n := by unfold midV; simp
theorem midV_set {n : Nat} {A B : Nat → List V} {om : List Nat} {o : Nat} (h : o < n) : (midV n A B om).set o (B o) = midV n A B (om ++ [o]) := by
  refine List.ext_getElem? fun i => ?_
  rw [List.getElem?_set]
  by_cases hi : i < n
  · rw [midV_at (om := om ++ [o]) hi, midV_at hi]
    by_cases e : o = i
    · subst e
      simp [midV_len, h]
    · simp [e, Ne.symm e]
  · by_cases e : o = i
    · omega
    · rw [if_neg e, List.getElem?_eq_none (by rw [midV_len]; omega), List.getElem?_eq_none (by rw [midV_len]; omega)]
theorem midV_nil (n : Nat) (A B : Nat → List V) : midV n A B [] = (List.range n).map A := by
  unfold midV
  exact List.map_congr_left fun o _ => by simp
theorem midV_all {n : Nat} {A B : Nat → List V} {om : List Nat} (h : ∀ o, o < n → o ∈ om) : midV n A B om = (List.range n).map B := by
  unfold midV
  exact List.map_congr_left fun o ho => by rw [if_pos (h o (List.mem_range.mp ho))]
theorem eff_all {e : List Nat} (E : Eff e) {o : Nat} (h : o < e.length) : o ∈ e := by
  have h1 := ap_inv E h
  have h2 : ap (inv e) o < e.length := by
    have := ap_lt (inv_eff E) (x := o) (by rw [inv_len]; exact h)
    rw [inv_len] at this
    exact this
  have := ap_at h2
  rw [h1] at this
  exact List.mem_of_getElem? this
/-- the dict that a tick's exchanges make -/
theorem valV_lefN {ps : List (Nat × Nat)} {L : Lay Int} {k : Nat} {p : Nat × Nat} {kvs : List (Key × V)} (hp : ps[k]? = some p) (h : ∀ x : Int, (valV kvs (Sum.inl x : Key)).getD .non = lefN ps L x k) (x : Int) :
    (valV (putK kvs (Sum.inl ((steps (ps.take k) L).1.getD p.1 0) : Key) (.int (p.2 : Nat))) (Sum.inl x : Key)).getD .non = lefN ps L x (k + 1) := by
  have e1 : lefN ps L x (k + 1) = if x = (steps (ps.take k) L).1.getD p.1 0 then V.int (p.2 : Nat) else lefN ps L x k := by
    conv => lhs; unfold lefN
    rw [hp]
  rw [valV_put, e1]
  by_cases e : x = (steps (ps.take k) L).1.getD p.1 0
  · rw [if_pos (by rw [e]), if_pos e]
    rfl
  · rw [if_neg (fun z => e (Sum.inl.inj z)), if_neg e]
    exact h x
theorem exN_full (ps : List (Nat × Nat)) (L : Lay Int) : ∀ m, m ≤ ps.length → (exN ps L m).length = m
  | 0, _ => rfl
  | m + 1, h => by
    rw [exN_succ (List.getElem?_eq_getElem (by omega : m < ps.length)), List.length_append, exN_full ps L m (by omega)]
    rfl
theorem exN_at {ps : List (Nat × Nat)} {L : Lay Int} {k : Nat} {p : Nat × Nat} (hp : ps[k]? = some p) : ∀ m, m ≤ ps.length → k < m → (exN ps L m)[k]? = some (exch (steps (ps.take k) L) p)
  | 0, _, h => absurd h (by omega)
  | m + 1, hm, h => by
    have fl := exN_full ps L m (by omega)
    by_cases e : k = m
    · subst e
      rw [exN_succ hp, List.getElem?_append_right (by omega), fl, Nat.sub_self]
      rfl
    · rw [exN_succ (List.getElem?_eq_getElem (by omega : m < ps.length)), List.getElem?_append_left (by omega)]
      exact exN_at hp m (by omega) (by omega)
theorem exL_at {ps : List (Nat × Nat)} {L : Lay Int} {k : Nat} {e : List V} (h : (exL ps L)[k]? = some e) : ∃ p, ps[k]? = some p ∧ e = exch (steps (ps.take k) L) p := by
  unfold exL at h
  have hk : k < ps.length := by
    have := (List.getElem?_eq_some_iff.mp h).1
    rwa [exN_full ps L _ (Nat.le_refl _)] at this
  have hp := List.getElem?_eq_getElem hk
  rw [exN_at hp _ (Nat.le_refl _) hk] at h
  exact ⟨_, hp, (Option.some.inj h).symm⟩
/-! ### rows that a comprehension makes -/
def RI (H3 H' : Hp) (D : Addr) (ss : List (List V)) : Prop := Same H3 H' ∧ ∃ rw : List Addr, H' D = some (.lst (rw.map V.ref)) ∧ RowV H' rw ss ∧ rw.Nodup ∧ ∀ q ∈ rw, H3 q = none ∧ q ≠ D
theorem RI.start {H3 : Hp} {D : Addr} (hD : H3 D = none) : RI H3 (upd H3 D (.lst [])) D [] := ⟨same_upd hD, [], upd_same, .nil, List.nodup_nil, fun q hq => (List.not_mem_nil hq).elim⟩
theorem RI.turn {H3 H' : Hp} {D l : Addr} {ss : List (List V)} {s : List V} (h : RI H3 H' D ss) (hD : H3 D = none) (hl : H' l = none) (hs : ss.length ≤ 1000) :
    ∃ acc, (upd H' l (.lst s)) D = some (.lst acc) ∧ acc.length < sizeLine ∧ RI H3 (upd (upd H' l (.lst s)) D (.lst (acc ++ [.ref l]))) D (ss ++ [s]) := by
  obtain ⟨sm, rw, kD, rl, nd, hrw⟩ := h
  have n0 : H3 l = none := Same.free sm hl
  have nD : D ≠ l := ne_of_none kD hl
  have hrl := rowV_len rl
  have hl2 : l ∉ rw := rowV_free rl hl
  refine ⟨rw.map V.ref, by rw [upd_ne nD]; exact kD, ?_, same_of (same_of sm n0) hD, rw ++ [l], ?_, ?_, ?_, ?_⟩
  · rw [List.length_map, hrl]
    exact small1000 hs
  · rw [upd_same, List.map_append]
    rfl
  · refine rowV_snoc (by rw [upd_ne (Ne.symm nD), upd_same]) (rowV_imp (fun q hq o ho => ?_) rl)
    rw [upd_ne (hrw q hq).2, upd_ne (fun z : q = l => hl2 (by rw [← z]; exact hq))]
    exact ho
  · refine List.nodup_append.mpr ⟨nd, (by simp), fun x hx y hy z => ?_⟩
    rw [List.mem_singleton.mp hy] at z
    exact hl2 (by rw [← z]; exact hx)
  · intro q hq
    rcases List.mem_append.mp hq with hq | hq
    · exact hrw q hq
    · rw [List.mem_singleton.mp hq]
      exact ⟨n0, Ne.symm nD⟩
theorem plan_sq {K : PySem.W.Frag} {H H' : Hp} {p : Addr} {zs : List Int} {rs : List Ro} (x : PlanAt K H p zs rs) (e : ∀ a xs, SqT K H a xs → SqT K H' a xs) : PlanAt K H' p zs rs := by
  obtain ⟨a, b, h1, h2, h3⟩ := x.ex
  obtain ⟨qs, h4, h5⟩ := h3.ex
  exact ⟨a, b, e _ _ h1, e _ _ h2, qs, e _ _ h4, paired_imp (K := K) e h5⟩
/-! ### a lap in the heap -/
structure LapAt (H : Hp) (C a : Addr) (zs : List Int) (rs : List Ro) (t : Int) : Prop where
  ex : ∃ (dx st le ef : Addr) (fs : List (Str × V)) (srw lrw : List Addr), H a = some (.ins C dx fs) ∧ fs.lookup ("length" : Str) = some (.int (lc rs : Nat)) ∧ fs.lookup ("stops" : Str) = some (.ref st) ∧ fs.lookup ("lefts" : Str) = some (.ref le) ∧ fs.lookup ("effect" : Str) = some (.ref ef) ∧
    H st = some (.lst (srw.map V.ref)) ∧ RowV H srw (stopsV rs.length zs rs t (lc rs)) ∧ H le = some (.lst (lrw.map V.ref)) ∧ RowV H lrw (leftsV rs.length zs rs t (lc rs)) ∧ H ef = some (.tup (vN (wh rs.length zs rs t)))
theorem LapAt.same {H H' : Hp} {C a : Addr} {zs : List Int} {rs : List Ro} {t : Int} (h : LapAt H C a zs rs t) (e : Same H H') : LapAt H' C a zs rs t := by
  obtain ⟨dx, st, le, ef, fs, srw, lrw, h1, h2, h3, h4, h5, h6, h7, h8, h9, h10⟩ := h.ex
  exact ⟨dx, st, le, ef, fs, srw, lrw, e _ _ h1, h2, h3, h4, h5, e _ _ h6, rowV_imp (fun q _ o => e q o) h7, e _ _ h8, rowV_imp (fun q _ o => e q o) h9, e _ _ h10⟩
/-- a lap that is being made -/
structure LB (H H' : Hp) (x dx C st le : Addr) (fs : List (Str × V)) (srw lrw : List Addr) (ss ls : List (List V)) : Prop where
  o : Ox x H H'
  x : H' x = some (.ins C dx fs)
  s : H' st = some (.lst (srw.map V.ref))
  l : H' le = some (.lst (lrw.map V.ref))
  sr : RowV H' srw ss
  lr : RowV H' lrw ls
/-- what is new in it, each object apart -/
structure LN (H : Hp) (st le : Addr) (srw lrw : List Addr) : Prop where
  n1 : srw.Nodup
  n2 : lrw.Nodup
  d : ∀ q ∈ srw, q ∉ lrw
  s1 : st ∉ srw
  s2 : st ∉ lrw
  l1 : le ∉ srw
  l2 : le ∉ lrw
  f1 : ∀ q ∈ srw, H q = none
  f2 : ∀ q ∈ lrw, H q = none
section
variable {H H' H2 : Hp} {x dx C st le q : Addr} {fs : List (Str × V)} {srw lrw : List Addr} {ss ls : List (List V)}
theorem LB.same (b : LB H H' x dx C st le fs srw lrw ss ls) (e : Same H' H2) : LB H H2 x dx C st le fs srw lrw ss ls :=
  ⟨b.o.then e, e _ _ b.x, e _ _ b.s, e _ _ b.l, rowV_imp (fun q _ o => e q o) b.sr, rowV_imp (fun q _ o => e q o) b.lr⟩
theorem LB.put1 (b : LB H H' x dx C st le fs srw lrw ss ls) (n : LN H st le srw lrw) {i : Nat} (hi : srw[i]? = some q) (s : List V) : LB H (upd H' q (.lst s)) x dx C st le fs srw lrw (ss.set i s) ls := by
  have m := List.mem_of_getElem? hi
  obtain ⟨xs, hq⟩ := rowV_mem b.sr m
  have qx : x ≠ q := fun z => by rw [← z, b.x] at hq; cases hq
  refine ⟨b.o.at (n.f1 q m) _, by rw [upd_ne qx]; exact b.x, by rw [upd_ne (fun z => n.s1 (by rw [z]; exact m))]; exact b.s, by rw [upd_ne (fun z => n.l1 (by rw [z]; exact m))]; exact b.l, rowV_set n.n1 b.sr hi, rowV_imp (fun r hr o ho => ?_) b.lr⟩
  rw [upd_ne (fun z => n.d q m (by rw [← z]; exact hr))]
  exact ho
theorem LB.put2 (b : LB H H' x dx C st le fs srw lrw ss ls) (n : LN H st le srw lrw) {i : Nat} (hi : lrw[i]? = some q) (s : List V) : LB H (upd H' q (.lst s)) x dx C st le fs srw lrw ss (ls.set i s) := by
  have m := List.mem_of_getElem? hi
  obtain ⟨xs, hq⟩ := rowV_mem b.lr m
  have qx : x ≠ q := fun z => by rw [← z, b.x] at hq; cases hq
  refine ⟨b.o.at (n.f2 q m) _, by rw [upd_ne qx]; exact b.x, by rw [upd_ne (fun z => n.s2 (by rw [z]; exact m))]; exact b.s, by rw [upd_ne (fun z => n.l2 (by rw [z]; exact m))]; exact b.l, rowV_imp (fun r hr o ho => ?_) b.sr, rowV_set n.n2 b.lr hi⟩
  rw [upd_ne (fun z => n.d r hr (by rw [z]; exact m))]
  exact ho
end
end Sv


set_option maxHeartbeats 8000000
namespace Sv
open PySem PySem.Spec PyProof.Rows L2
section
variable {P : Program} {w : World} {K : PySem.W.Frag} {mg : Str → Option Value} {base : Heap}
/-! ### Lap.__init__ -/
def nLi : List Str := ["self", "plan", "time", "origins", "carried", "shelves", "step", "exchanges", "lefts", "place", "origin", "_", "shelf", "left", "row"]
theorem scLapInit : FnScope nLi ["self", "plan", "time"] (defScope sLapInit) := ⟨rfl, rfl, rfl, by decide +kernel, rfl, by decide +kernel, by decide +kernel⟩
def spLapInit (K : PySem.W.Frag) (C : Addr) : Sp := fun vs H Q _ => ∃ (x dx p : Addr) (t : Int) (zs : List Int) (rs : List Ro), vs = [.ref x, .ref p, .int t] ∧ H x = some (.ins C dx []) ∧ PlanAt K H p zs rs ∧ Val zs rs ∧
  ∀ H', Ox x H H' → LapAt H' C x zs rs t → Q .non H'
noncomputable abbrev fL1 (rs : List Ro) : List (Str × V) := putF "length" (.int (lc rs : Nat)) []
noncomputable abbrev fL2 (rs : List Ro) (st : Addr) : List (Str × V) := putF "stops" (.ref st) (fL1 rs)
noncomputable abbrev fL3 (rs : List Ro) (st le : Addr) : List (Str × V) := putF "lefts" (.ref le) (fL2 rs st)
noncomputable abbrev fL4 (rs : List Ro) (st le ef : Addr) : List (Str × V) := putF "effect" (.ref ef) (fL3 rs st le)
theorem fl2 (rs : List Ro) (st : Addr) : (fL2 rs st).length ≤ 2 := Nat.le_trans (length_putF _ _ _) (Nat.succ_le_succ (length_putF _ _ _))
theorem fl3 (rs : List Ro) (st le : Addr) : (fL3 rs st le).length ≤ 3 := Nat.le_trans (length_putF _ _ _) (Nat.succ_le_succ (fl2 rs st))
theorem lk3_length (rs : List Ro) (st le : Addr) : (fL3 rs st le).lookup ("length" : Str) = some (.int (lc rs : Nat)) := by
  rw [lk_ne (by decide), lk_ne (by decide), lk_same]
theorem lk3_stops (rs : List Ro) (st le : Addr) : (fL3 rs st le).lookup ("stops" : Str) = some (.ref st) := by
  rw [lk_ne (by decide), lk_same]
theorem lk3_lefts (rs : List Ro) (st le : Addr) : (fL3 rs st le).lookup ("lefts" : Str) = some (.ref le) := lk_same _ _ _
theorem ok_lapInit (T : Bd P K mg) : FnOk P w K mg base CX0 3 T.aLap T.dLap ["self", "plan", "time"] (spLapInit K T.CLap) := by
  have GM : FnOk P w K mg base CX0 2 T.aCommon T.dCommon ["routes"] (spCommon K) := ok_common T
  have GN : FnOk P w K mg base CX0 1 T.aNumPlaces T.dNumPlaces ["plan"] (spNum K) := ok_num T
  have GS : FnOk P w K mg base CX0 1 T.aSplit T.dSplit ["plan", "contents"] (spSplit K) := ok_split T
  have GA : FnOk P w K mg base CX0 2 T.aAfterTick T.dAfterTick ["plan", "number", "carried", "shelves"] (spAfterTick K) := ok_afterTick T
  have GJ : FnOk P w K mg base CX0 1 T.aJoin T.dJoin ["carried", "shelves"] (spJoin K) := ok_join T
  refine T.lap.F.ok scLapInit (fun vs H Q E h => ?_) (fun cdv A outer s H vs Q E hr h => ?_)
  · obtain ⟨x, dx, p, t, zs, rs, rfl, _⟩ := h
    rfl
  · obtain ⟨x, dx, p, t, zs, rs, rfl, hx, hp, hv, q⟩ := h
    have hu := hu_of hr
    refine ⟨_, (pss_cons (ps_fld (pv 0) (pe_call (E := E0) GM hr (by rfl) T.Common.g T.Common.F.kp T.Common.b .nil pass0 (pa_cons (pe_ix ix_tup (pv 1) pe_int (fun _ _ => rfl)) pa_nil)) rfl)
      (pss_cons (ps_set (i := 3) scLapInit.nd rfl (Or.inl rfl) (pe_listRg rfl (by rfl) T.bt.list (prg_1 (by rfl) T.bt.range (pe_call (E := E0) GN (hr.mono (by decide)) (by rfl) T.NumPlaces.g T.NumPlaces.F.kp T.NumPlaces.b .nil pass0 (pa_cons (pv 1) pa_nil)))))
      (pss_cons (ps_fld (pv 0) (pe_lc (own := [("place", 9)]) (g := gName 9) (tt := tYes) (te := tLst (tCons (tVar 9) tNil)) rfl scLapInit.nd (pi_list (pv 3)) (blkOk_by (N := nLi) (sc := defScope sLapInit) (by decide +kernel)) (fun _ _ _ _ _ => pg_name (i := 9) scLapInit.nd rfl (Or.inl rfl)) (fun _ _ _ _ _ => pts_nil) (fun _ _ _ _ _ => pe_lst (pa_cons (pv 9) pa_nil))) rfl)
      (pss_cons (ps_fld (pv 0) (pe_lc (own := [("_", 11)]) (g := gName 11) (tt := tYes) (te := tLst tNil) rfl scLapInit.nd (pi_list (pv 3)) (blkOk_by (N := nLi) (sc := defScope sLapInit) (by decide +kernel)) (fun _ _ _ _ _ => pg_name (i := 11) scLapInit.nd rfl (Or.inl rfl)) (fun _ _ _ _ _ => pts_nil) (fun _ _ _ _ _ => pe_lst pa_nil)) rfl)
      (pss_cons (ps_asg (pe_call (E := E0) GS (hr.mono (by decide)) (by rfl) T.Split.g T.Split.F.kp T.Split.b .nil pass0 (pa_cons (pv 1) (pa_cons (pv 3) pa_nil))) (pg_tup rfl (pgs_cons (pg_name (i := 4) scLapInit.nd rfl (.inl rfl)) (pgs_cons (pg_name (i := 5) scLapInit.nd rfl (.inl rfl)) pgs_nil))))
      (pss_cons (ps_for PassesOwn.never rfl (pi_range1 (by rfl) T.bt.range (pa_cons (pe_fld (pv 0) rfl) pa_nil)) (pg_name (i := 6) scLapInit.nd rfl (Or.inl rfl))
      (pss_cons (ps_asg (pe_call (E := E0) GA hr (by rfl) T.AfterTick.g T.AfterTick.F.kp T.AfterTick.b .nil pass0 (pa_cons (pv 1) (pa_cons (pe_op op_add (pe_op op_add (pv 2) (pv 6)) pe_int) (pa_cons (pv 4) (pa_cons (pv 5) pa_nil))))) (pg_tup rfl (pgs_cons (pg_name (i := 4) scLapInit.nd rfl (.inl rfl)) (pgs_cons (pg_name (i := 5) scLapInit.nd rfl (.inl rfl)) (pgs_cons (pg_name (i := 7) scLapInit.nd rfl (.inl rfl)) pgs_nil)))))
      (pss_cons (ps_setDc (j := 8) (own := [("_", 11), ("shelf", 12), ("left", 13)]) (g := gTup K 4 (gCons (gName 11) (gCons (gName 12) (gCons (gName 13) (gCons (gName 11) gNil))))) (tt := tYes) (tk := tVar 13) (tv := tVar 12) rfl scLapInit.nd rfl rfl (swD_yes rfl rfl rfl (by decide +kernel)) (pi_list (pv 7)) (blkOk_by (N := nLi) (sc := defScope sLapInit) (by decide +kernel)) (fun _ _ _ _ _ => (pg_tup rfl (pgs_cons (pg_name (i := 11) scLapInit.nd rfl (.inl rfl)) (pgs_cons (pg_name (i := 12) scLapInit.nd rfl (.inl rfl)) (pgs_cons (pg_name (i := 13) scLapInit.nd rfl (.inl rfl)) (pgs_cons (pg_name (i := 11) scLapInit.nd rfl (.inl rfl)) pgs_nil)))))) (fun _ _ _ _ _ => pts_nil) (fun _ _ _ _ _ => pv 13) (fun _ _ _ _ _ => pv 12))
      (pss_one (ps_for PassesOwn.never rfl (pi_enum (by rfl) T.bt.enumerate (pa_cons (pe_call (E := E0) GJ (hr.mono (by decide)) (by rfl) T.Join.g T.Join.F.kp T.Join.b .nil pass0 (pa_cons (pv 4) (pa_cons (pv 5) pa_nil))) pa_nil)) (pg_tup rfl (pgs_cons (pg_name (i := 9) scLapInit.nd rfl (.inl rfl)) (pgs_cons (pg_name (i := 10) scLapInit.nd rfl (.inl rfl)) pgs_nil)))
      (pss_cons (ps_expr (pe_bm PySem.F.plainAttrs_list PySem.F.slot_list_append PySem.F.type_list_append mt_append (pe_ix ix_list (pe_fld (pv 0) rfl) (pv 10) (fun _ _ => rfl)) (pa_cons (pv 9) pa_nil)))
      (pss_one (ps_expr (pe_bm PySem.F.plainAttrs_list PySem.F.slot_list_append PySem.F.type_list_append mt_append (pe_ix ix_list (pe_fld (pv 0) rfl) (pv 10) (fun _ _ => rfl)) (pa_cons (pe_dget1 hu (pv 8) (pv 10) ⟨rfl, rfl, rfl, rfl⟩) pa_nil))))))))))
      (pss_one (ps_fld (pv 0) (pe_callTy call_tuple_of (by rfl) T.bt.tuple b_tuple (pa_cons (pe_lc (own := [("row", 14)]) (g := gName 14) (tt := tYes) (te := tOp (rIxL K) (tVar 14) (tUn (rU fun i => .int (-i)) (tC (.int 1)))) rfl scLapInit.nd (pi_list (pe_fld (pv 0) rfl)) (blkOk_by (N := nLi) (sc := defScope sLapInit) (by decide +kernel)) (fun _ _ _ _ _ => pg_name (i := 14) scLapInit.nd rfl (Or.inl rfl)) (fun _ _ _ _ _ => pts_nil) (fun _ _ _ _ _ => pe_ix ix_list (pv 14) (pe_un un_neg pe_int) (fun _ _ => rfl))) pa_nil)) rfl)))))))), ?_⟩
    have hN := hv.num
    have hz12 := hv.z1
    have hr6 := hv.r1
    have b62 : (1000 : Int) < 2 ^ 62 := by decide
    obtain ⟨l1, l60⟩ := lc_le hv.r2
    obtain ⟨a, b, hpt, ha, hb⟩ := hp.ex
    -- length
    refine ⟨.ref p, rfl, p, _, 1, .ref b, rfl, rfl, hpt, rfl, b, rs, rfl, hb, hv.r2, fun H1 sm1 => ?_⟩
    refine ⟨.ref x, rfl, x, T.CLap, dx, _, rfl, sm1 _ _ hx, T.lap.c, T.lap.n1, (by show 0 < 1000; decide), ?_⟩
    have o2 : Ox x H (upd H1 x (.ins T.CLap dx (fL1 rs))) := ((Ox.refl x H).then sm1).put _
    have x2 : (upd H1 x (.ins T.CLap dx (fL1 rs))) x = some (.ins T.CLap dx (fL1 rs)) := upd_same
    generalize upd H1 x (.ins T.CLap dx (fL1 rs)) = H2 at o2 x2 ⊢
    clear sm1
    -- origins
    refine ⟨.ref p, rfl, p, zs, rs, rfl, plan_sq hp (sqT_ox hx o2), fun z hz => (hv.z2 z hz).1, (rs.length + sumN zs : Nat), rfl, ⟨by omega, by omega, by omega, by omega, by omega⟩, fun oc hoc => ?_⟩
    rw [rgV_iN]
    have ocx : oc ≠ x := fun z => by rw [z, x2] at hoc; cases hoc
    have o3 : Ox x H (upd H2 oc (.lst ((iN (List.range (rs.length + sumN zs))).map V.int))) := o2.then (same_upd hoc)
    have x3 : (upd H2 oc (.lst ((iN (List.range (rs.length + sumN zs))).map V.int))) x = some (.ins T.CLap dx (fL1 rs)) := by rw [upd_ne (Ne.symm ocx)]; exact x2
    have k3 : (upd H2 oc (.lst ((iN (List.range (rs.length + sumN zs))).map V.int))) oc = some (.lst ((iN (List.range (rs.length + sumN zs))).map V.int)) := upd_same
    generalize upd H2 oc (.lst ((iN (List.range (rs.length + sumN zs))).map V.int)) = H3 at o3 x3 k3 ⊢
    have il : (iN (List.range (rs.length + sumN zs))).length = rs.length + sumN zs := by unfold iN; rw [List.length_map, List.length_range]
    -- stops
    refine ⟨.ref oc, rfl, oc, rfl, ⟨_, .inl (.inl k3)⟩, fun st hst => lc_list (xs := (iN (List.range (rs.length + sumN zs))).map V.int) (fun i H' => RI H3 H' st ((List.range i).map fun j => [V.int (j : Nat)])) (RI.start hst)
      (fun i H' _ h => .inl (.inl (h.1 _ _ k3))) (fun i y H' hy h => ?_) (fun H4 ⟨sm4, srw, ks, sr, nd1, hsr⟩ => ?_)⟩
    · rw [iN_V] at hy
      obtain ⟨hi, rfl⟩ := vN_lt hy
      rw [List.length_range] at hi
      rw [range_ap hi]
      refine ⟨rfl, yes_go ⟨.int (i : Nat), rfl, (by show 1 ≤ sizeLine; decide), fun l hl => ?_⟩⟩
      obtain ⟨acc, q1, q2, q3⟩ := h.turn (s := [V.int (i : Nat)]) hst hl (by rw [List.length_map, List.length_range]; omega)
      exact ⟨acc, q1, q2, by rw [List.range_succ (n := i), List.map_append]; exact q3⟩
    rw [List.length_map, il] at sr
    have x4 := sm4 _ _ x3
    have k4 := sm4 _ _ k3
    refine ⟨.ref x, rfl, x, T.CLap, dx, _, rfl, x4, T.lap.c, T.lap.n2, (Nat.lt_of_le_of_lt (length_putF _ _ _) (by show 0 + 1 < 1000; decide)), ?_⟩
    have srx : ∀ q ∈ srw, q ≠ x := fun q hq z => by
      have := (hsr q hq).1
      rw [z, x3] at this
      cases this
    have stx : st ≠ x := fun z => by rw [z, x3] at hst; cases hst
    have o5 : Ox x H (upd H4 x (.ins T.CLap dx (fL2 rs st))) := (o3.then sm4).put _
    have x5 : (upd H4 x (.ins T.CLap dx (fL2 rs st))) x = some (.ins T.CLap dx (fL2 rs st)) := upd_same
    have k5 : (upd H4 x (.ins T.CLap dx (fL2 rs st))) oc = some (.lst ((iN (List.range (rs.length + sumN zs))).map V.int)) := by rw [upd_ne ocx]; exact k4
    have s5 : (upd H4 x (.ins T.CLap dx (fL2 rs st))) st = some (.lst (srw.map V.ref)) := by rw [upd_ne stx]; exact ks
    have r5 : RowV (upd H4 x (.ins T.CLap dx (fL2 rs st))) srw ((List.range (rs.length + sumN zs)).map fun j => [V.int (j : Nat)]) := rowV_imp (fun q hq o ho => by rw [upd_ne (srx q hq)]; exact ho) sr
    generalize upd H4 x (.ins T.CLap dx (fL2 rs st)) = H5 at o5 x5 k5 s5 r5 ⊢
    have f1 : ∀ q ∈ srw, H q = none := fun q hq => o3.free x3 (hsr q hq).1
    -- lefts
    refine ⟨.ref oc, rfl, oc, rfl, ⟨_, .inl (.inl k5)⟩, fun le hle => lc_list (xs := (iN (List.range (rs.length + sumN zs))).map V.int) (fun i H' => RI H5 H' le ((List.range i).map fun _ => [])) (RI.start hle)
      (fun i H' _ h => .inl (.inl (h.1 _ _ k5))) (fun i y H' hy h => ?_) (fun H6 ⟨sm6, lrw, kl, lr, nd2, hlr⟩ => ?_)⟩
    · have hi := (List.getElem?_eq_some_iff.mp hy).1
      rw [List.length_map, il] at hi
      refine ⟨rfl, yes_go ⟨Nat.zero_le _, fun l hl => ?_⟩⟩
      obtain ⟨acc, q1, q2, q3⟩ := h.turn (s := []) hle hl (by rw [List.length_map, List.length_range]; omega)
      exact ⟨acc, q1, q2, by rw [List.range_succ (n := i), List.map_append]; exact q3⟩
    rw [List.length_map, il] at lr
    have x6 := sm6 _ _ x5
    refine ⟨.ref x, rfl, x, T.CLap, dx, _, rfl, x6, T.lap.c, T.lap.n3, Nat.lt_of_le_of_lt (fl2 rs st) (by decide), ?_⟩
    have lrx : ∀ q ∈ lrw, q ≠ x := fun q hq z => by
      have := (hlr q hq).1
      rw [z, x5] at this
      cases this
    have lex : le ≠ x := fun z => by rw [z, x5] at hle; cases hle
    have o7 : Ox x H (upd H6 x (.ins T.CLap dx (fL3 rs st le))) := (o5.then sm6).put _
    have b7 : LB H (upd H6 x (.ins T.CLap dx (fL3 rs st le))) x dx T.CLap st le (fL3 rs st le) srw lrw (stopsV rs.length zs rs t 0) (leftsV rs.length zs rs t 0) := by
      refine ⟨o7, upd_same, by rw [upd_ne stx]; exact sm6 _ _ s5, by rw [upd_ne lex]; exact kl, ?_, ?_⟩
      · have e : stopsV rs.length zs rs t 0 = (List.range (rs.length + sumN zs)).map fun j => [V.int (j : Nat)] := by
          unfold stopsV
          refine List.map_congr_left fun o ho => ?_
          show [V.int (ap (fwd rs.length zs rs t 0) o : Nat)] = _
          rw [fwd_zero, range_ap (List.mem_range.mp ho)]
        rw [e]
        exact rowV_imp (fun q hq o ho => by rw [upd_ne (srx q hq)]; exact sm6 _ _ ho) r5
      · exact rowV_imp (fun q hq o ho => by rw [upd_ne (lrx q hq)]; exact ho) lr
    have n7 : LN H st le srw lrw := by
      refine ⟨nd1, nd2, fun q hq hq2 => ?_, fun m => (hsr _ m).2 rfl, fun m => ?_, fun m => ?_, fun m => (hlr _ m).2 rfl, f1, fun q hq => o5.free x5 (hlr q hq).1⟩
      · obtain ⟨xs, e⟩ := rowV_mem r5 hq
        rw [(hlr q hq2).1] at e
        cases e
      · have := (hlr _ m).1
        rw [s5] at this
        cases this
      · obtain ⟨xs, e⟩ := rowV_mem r5 m
        rw [hle] at e
        cases e
    have k7 : (upd H6 x (.ins T.CLap dx (fL3 rs st le))) oc = some (.lst ((iN (List.range (rs.length + sumN zs))).map V.int)) := by rw [upd_ne ocx]; exact sm6 _ _ k5
    generalize upd H6 x (.ins T.CLap dx (fL3 rs st le)) = H7 at b7 k7 o7 ⊢
    -- the layout
    refine ⟨.ref p, rfl, .ref oc, rfl, p, oc, zs, rs, iN (List.range (rs.length + sumN zs)), rfl, plan_sq hp (sqT_ox hx o7), .inl (.inl k7), hv.z2, hv.z1.2, hv.r1.2, by omega, fun H8 tp ca sh sm8 ht lay => ?_⟩
    have el : spl rs.length zs (iN (List.range (rs.length + sumN zs))) = iL (run rs t 0 (idx rs.length zs)) := spl_iN _ _ _
    have lay0 : LayT K H8 ca sh (iL (run rs t 0 (idx rs.length zs))).1 (iL (run rs t 0 (idx rs.length zs))).2 := by
      rw [← el]
      exact lay.t
    refine ⟨tp, [.ref ca, .ref sh], rfl, .inl (.inl ht), rfl, _, _, rfl, _, _, rfl, rfl, ?_⟩
    have b8 := b7.same sm8
    refine ⟨.ref x, rfl, x, T.CLap, dx, _, _, rfl, b8.x, T.lap.c, T.lap.n1, lk3_length rs st le, (lc rs : Nat), rfl, by omega, by omega, ?_⟩
    rw [Int.toNat_natCast]
    refine for_range (lo := 0) (n := lc rs) (fun i σ H' => (∃ ca' sh' y6 y7 y8 y9 y10 y11 y12 y13 y14, σ = [some (.ref x), some (.ref p), some (.int t), some (.ref oc), some (.ref ca'), some (.ref sh'), y6, y7, y8, y9, y10, y11, y12, y13, y14] ∧ LayT K H' ca' sh' (iL (run rs t i (idx rs.length zs))).1 (iL (run rs t i (idx rs.length zs))).2) ∧
        LB H H' x dx T.CLap st le (fL3 rs st le) srw lrw (stopsV rs.length zs rs t i) (leftsV rs.length zs rs t i))
      ⟨⟨_, _, _, _, _, _, _, _, _, _, _, rfl, lay0⟩, b8⟩ (fun i σ H' hi ⟨⟨ca', sh', y6, y7, y8, y9, y10, y11, y12, y13, y14, es, hl⟩, bi⟩ => ?_) (fun σ H9 ⟨⟨ca', sh', y6, y7, y8, y9, y10, y11, y12, y13, y14, es, hl⟩, b9⟩ => ?_)
    · subst es
      have hfi : Fits rs.length zs (iL (run rs t i (idx rs.length zs))) := by
        rw [← run_iL]
        have e0 : iL (idx rs.length zs) = spl rs.length zs (iN (List.range (rs.length + sumN zs))) := (spl_iN _ _ _).symm
        rw [e0]
        exact run_fits _ _ _ (spl_fits il)
      refine ⟨.ref p, rfl, .int t, rfl, .int (0 + (i : Nat)), rfl, t, _, rfl, rfl, _, 1, rfl, rfl, .ref ca', rfl, .ref sh', rfl, p, ca', sh', _, zs, rs, iL (run rs t i (idx rs.length zs)), rfl, plan_sq hp (sqT_ox hx bi.o), hv, hl, hfi, fun H4 tq c' s' xe sm4 ht4 lay4 tl4 hx4 => ?_⟩
      have en : t + (0 + (i : Int)) + 1 - 1 = t + (i : Nat) := by omega
      rw [en] at lay4 tl4
      have es : tickL rs (t + (i : Nat)) (iL (run rs t i (idx rs.length zs))) = iL (run rs t (i + 1) (idx rs.length zs)) := by
        rw [← run_iL, ← run_iL]
        rfl
      rw [es] at lay4
      refine ⟨tq, _, rfl, .inl (.inl ht4), rfl, _, _, rfl, _, _, rfl, _, _, rfl, rfl, ?_⟩
      have b4 := bi.same sm4
      clear bi sm4
      -- who is left where
      obtain ⟨ps, kx, tv⟩ := tl4.ex
      have hpl := tupsV_len tv
      refine ⟨.ref xe, rfl, xe, rfl, ⟨_, .inl (.inl kx)⟩, fun D hD => dc_list (xs := ps.map V.ref) (fun k H' => Same H4 H' ∧ ∃ kvs : List (Key × V), H' D = some (.dK kvs) ∧ kvs.length ≤ k ∧ ∀ z : Int, (valV kvs (Sum.inl z : Key)).getD .non = lefN (vis rs (t + (i : Nat))) (iL (run rs t i (idx rs.length zs))) z k)
        ⟨same_upd hD, [], upd_same, Nat.le_refl _, fun z => rfl⟩ (fun k H' _ h => .inl (.inl (h.1 _ _ kx))) (fun k y H' hy ⟨sm, kvs, kd, kl, kv⟩ => ?_) (fun H5 ⟨sm5, kvs, kd, kl, kv⟩ => ?_)⟩
      · obtain ⟨U, hU, rfl⟩ := refs_lt hy
        obtain ⟨t0, ht0, hUt⟩ := tupsV_at (tupsV_same sm tv) hU
        obtain ⟨pr, hpr, rfl⟩ := exL_at ht0
        have hk := (List.getElem?_eq_some_iff.mp hpr).1
        have hvl := vis_len rs (t + (i : Nat))
        refine ⟨U, _, rfl, .inl (.inl hUt), rfl, _, _, rfl, _, _, rfl, _, _, rfl, _, _, rfl, rfl, ?_⟩
        exact ⟨rfl, yes_go ⟨_, rfl, _, rfl, kvs, Sum.inl _, rfl, kd, small1000 (by omega), same_of sm hD, _, upd_same, Nat.le_trans (length_putK _ _ _) (Nat.succ_le_succ kl), fun z => valV_lefN hpr kv z⟩⟩
      have b5 := b4.same sm5
      have lay5 := lay4.same sm5
      have kv5 : ∀ z : Int, (valV kvs (Sum.inl z : Key)).getD .non = lefV (vis rs (t + (i : Nat))) (iL (run rs t i (idx rs.length zs))) z := fun z => by
        rw [kv z, List.length_map, hpl]
        unfold lefV exL
        rw [exN_full _ _ _ (Nat.le_refl _)]
      clear b4 lay4 kv
      -- the places
      have ol := org_len rs.length zs rs t (i + 1)
      have oe := org_eff rs.length zs rs t (i + 1)
      have ej : (iL (run rs t (i + 1) (idx rs.length zs))).1 ++ (iL (run rs t (i + 1) (idx rs.length zs))).2.flatten = iN (org rs.length zs rs t (i + 1)) := join_map _ _
      refine ⟨.ref c', rfl, .ref s', rfl, c', s', _, _, rfl, lay5, ?_, fun H6 f sm6 hf6 kf6 => ?_⟩
      · rw [← List.length_append, ej]
        unfold iN
        rw [List.length_map, ol]
        omega
      rw [ej, iN_V] at kf6
      have b6 := b5.same sm6
      have lay6 := lay5.same sm6
      have kd6 := sm6 _ _ kd
      have f1' : f ∉ srw := rowV_free b5.sr hf6
      have f2' : f ∉ lrw := rowV_free b5.lr hf6
      generalize hom : org rs.length zs rs t (i + 1) = om at ol oe kf6
      have hfw : fwd rs.length zs rs t (i + 1) = inv om := by
        unfold fwd
        rw [hom]
      clear b5 lay5 kd
      refine ⟨f, vN om, rfl, .inl (.inl kf6), for_enumL (xs := vN om) (fun m σ H' => (∃ y9 y10 y11 y12 y13 y14, σ = [some (.ref x), some (.ref p), some (.int t), some (.ref oc), some (.ref c'), some (.ref s'), some (.int (0 + (i : Nat))), some (.ref xe), some (.ref D), y9, y10, y11, y12, y13, y14]) ∧
          LayT K H' c' s' (iL (run rs t (i + 1) (idx rs.length zs))).1 (iL (run rs t (i + 1) (idx rs.length zs))).2 ∧ H' f = some (.lst (vN om)) ∧ H' D = some (.dK kvs) ∧
          LB H H' x dx T.CLap st le (fL3 rs st le) srw lrw (midV (rs.length + sumN zs) (stopV rs.length zs rs t i) (stopV rs.length zs rs t (i + 1)) (om.take m)) (midV (rs.length + sumN zs) (leftV rs.length zs rs t i) (leftV rs.length zs rs t (i + 1)) (om.take m)))
        ⟨⟨_, _, _, _, _, _, rfl⟩, lay6, kf6, kd6, by rw [List.take_zero, midV_nil, midV_nil]; exact b6⟩ (fun m σ H' _ h => .inl (.inl h.2.2.1)) (fun m y σ H' U hy ⟨⟨y9, y10, y11, y12, y13, y14, es⟩, la, kf, kd, bm⟩ hU => ?_) (fun σ H' ⟨⟨y9, y10, y11, y12, y13, y14, es⟩, la, kf, kd, bm⟩ => ?_)⟩
      · subst es
        obtain ⟨hm, rfl⟩ := vN_lt hy
        have smU : Same H' (upd H' U (.tup [.int (m : Nat), .int (ap om m : Nat)])) := same_upd hU
        refine ⟨U, [.int (m : Nat), .int (ap om m : Nat)], rfl, .inl (.inl upd_same), rfl, _, _, rfl, _, _, rfl, rfl, ?_⟩
        have bu := bm.same smU
        have lu := la.same smU
        have ku := smU _ _ kf
        have du := smU _ _ kd
        generalize upd H' U (.tup [.int (m : Nat), .int (ap om m : Nat)]) = H7 at bu lu ku du ⊢
        clear bm la kf kd smU
        have hsl := rowV_len bu.sr
        have hll := rowV_len bu.lr
        rw [midV_len] at hsl hll
        have ho : ap om m < rs.length + sumN zs := by
          have := ap_lt oe hm
          omega
        have onot : ap om m ∉ om.take m := fun z => by
          obtain ⟨j, hj⟩ := List.mem_iff_getElem?.mp z
          have hjm : j < m := by
            have := (List.getElem?_eq_some_iff.mp hj).1
            rw [List.length_take] at this
            omega
          rw [List.getElem?_take, if_pos hjm, ap_at (by omega)] at hj
          have := ap_inj oe (by omega) hm (Option.some.inj hj)
          omega
        have etk : om.take (m + 1) = om.take m ++ [ap om m] := by
          rw [List.take_add_one, ap_at hm]
          rfl
        have eback : ap (fwd rs.length zs rs t (i + 1)) (ap om m) = m := by
          rw [hfw]
          exact inv_ap oe hm
        have hvl := vis_len rs (t + (i : Nat))
        generalize hoo : ap om m = o at ho onot etk eback ⊢
        -- stops
        obtain ⟨q1, hq1⟩ : ∃ q1, srw[o]? = some q1 := ⟨_, List.getElem?_eq_getElem (by omega)⟩
        obtain ⟨q2, hq2⟩ : ∃ q2, lrw[o]? = some q2 := ⟨_, List.getElem?_eq_getElem (by omega)⟩
        obtain ⟨s1, es1, kq1⟩ := rowV_at bu.sr hq1
        rw [midV_at ho, if_neg onot] at es1
        obtain rfl := Option.some.inj es1
        have hV1 : (srw.map V.ref)[o]? = some (.ref q1) := by rw [List.getElem?_map, hq1]; rfl
        have hV2 : (lrw.map V.ref)[o]? = some (.ref q2) := by rw [List.getElem?_map, hq2]; rfl
        refine ⟨.ref x, rfl, x, T.CLap, dx, _, .ref st, rfl, bu.x, T.lap.c, T.lap.n2, lk3_stops rs st le, .int (o : Nat), rfl, st, _, _, .ref q1, rfl, rfl, .inl (.inl bu.s), atI_nat hV1, .inl ⟨rfl, _, .inl (.inl kq1)⟩, .int (m : Nat), rfl, q1, _, _, rfl, rfl, kq1, small1000 (by rw [stopV_len]; omega), ?_⟩
        have e1 : stopV rs.length zs rs t i o ++ [V.int (m : Nat)] = stopV rs.length zs rs t (i + 1) o := by rw [stopV_succ, eback]
        rw [e1]
        have b8 := bu.put1 n7 hq1 (stopV rs.length zs rs t (i + 1) o)
        rw [midV_set ho, ← etk] at b8
        have l8 := lu.imp (sqT_ul kq1 (.lst (stopV rs.length zs rs t (i + 1) o)))
        have k8 : (upd H7 q1 (.lst (stopV rs.length zs rs t (i + 1) o))) f = some (.lst (vN om)) := by
          rw [upd_ne (fun z => f1' (by rw [z]; exact List.mem_of_getElem? hq1))]
          exact ku
        have d8 : (upd H7 q1 (.lst (stopV rs.length zs rs t (i + 1) o))) D = some (.dK kvs) := by
          rw [upd_ne (fun z => by rw [z, kq1] at du; cases du)]
          exact du
        generalize upd H7 q1 (.lst (stopV rs.length zs rs t (i + 1) o)) = H8 at b8 l8 k8 d8 ⊢
        -- lefts
        obtain ⟨s2, es2, kq2⟩ := rowV_at b8.lr hq2
        rw [midV_at ho, if_neg onot] at es2
        obtain rfl := Option.some.inj es2
        refine ⟨.ref x, rfl, x, T.CLap, dx, _, .ref le, rfl, b8.x, T.lap.c, T.lap.n3, lk3_lefts rs st le, .int (o : Nat), rfl, le, _, _, .ref q2, rfl, rfl, .inl (.inl b8.l), atI_nat hV2, .inl ⟨rfl, _, .inl (.inl kq2)⟩,
          .ref D, rfl, D, rfl, .inl ⟨kvs, .inl d8⟩, .int (o : Nat), rfl, _, DGet.k (k := Sum.inl (o : Int)) d8, q2, _, _, rfl, rfl, kq2, small1000 (by rw [leftV_len]; omega), ?_⟩
        have e2 : leftV rs.length zs rs t i o ++ [(valV kvs (Sum.inl (o : Int) : Key)).getD .non] = leftV rs.length zs rs t (i + 1) o := by rw [leftV_succ, kv5]
        rw [e2]
        have b9 := b8.put2 n7 hq2 (leftV rs.length zs rs t (i + 1) o)
        rw [midV_set ho, ← etk] at b9
        refine ⟨⟨_, _, _, _, _, _, rfl⟩, l8.imp (sqT_ul kq2 _), ?_, ?_, b9⟩
        · rw [upd_ne (fun z => f2' (by rw [z]; exact List.mem_of_getElem? hq2))]
          exact k8
        · rw [upd_ne (fun z => by rw [z, kq2] at d8; cases d8)]
          exact d8
      · subst es
        rw [vN_len, List.take_length, midV_all (fun o ho => eff_all oe (by omega)), midV_all (fun o ho => eff_all oe (by omega))] at bm
        exact ⟨⟨_, _, _, _, _, _, _, _, _, _, _, rfl, la⟩, bm⟩
    · subst es
      have wl := wh_len rs.length zs rs t
      obtain ⟨l', hl'⟩ : ∃ l', lc rs = l' + 1 := ⟨lc rs - 1, by omega⟩
      have hsl := rowV_len b9.sr
      have esl : (stopsV rs.length zs rs t (lc rs)).length = rs.length + sumN zs := by unfold stopsV; rw [List.length_map, List.length_range]
      rw [esl] at hsl
      refine ⟨.ref x, rfl, x, T.CLap, dx, _, .ref st, rfl, b9.x, T.lap.c, T.lap.n2, lk3_stops rs st le, st, rfl, ⟨_, .inl (.inl b9.s)⟩, fun D hD => lc_list (xs := srw.map V.ref) (fun k H' => Same H9 H' ∧ H' D = some (.lst (vN ((wh rs.length zs rs t).take k)))) ⟨same_upd hD, upd_same⟩
        (fun k H' _ h => .inl (.inl (h.1 _ _ b9.s))) (fun k y H' hy ⟨sm, kD⟩ => ?_) (fun H' ⟨sm, kD⟩ => ?_)⟩
      · obtain ⟨q1, hq1, rfl⟩ := refs_lt hy
        obtain ⟨s1, es1, kq1⟩ := rowV_at (rowV_imp (fun q _ o ho => sm _ _ ho) b9.sr) hq1
        have hk := (List.getElem?_eq_some_iff.mp hq1).1
        unfold stopsV at es1
        rw [List.getElem?_map, List.getElem?_range (by omega)] at es1
        obtain rfl := Option.some.inj es1
        have e1 : stopV rs.length zs rs t (lc rs) k = stopV rs.length zs rs t l' k ++ [.int (ap (wh rs.length zs rs t) k : Nat)] := by
          unfold wh
          rw [hl', stopV_succ]
        rw [e1] at kq1
        refine ⟨rfl, yes_go ⟨.ref q1, rfl, 1, rfl, q1, _, _, _, rfl, rfl, .inl (.inl kq1), atI_last _ _, _, kD, ?_, same_of sm hD, ?_⟩⟩
        · rw [vN_len, List.length_take]
          exact small1000 (by omega)
        · rw [upd_same, vN_snoc (by omega)]
      · rw [List.length_map, hsl, ← wl, List.take_length] at kD
        refine ⟨D, _, rfl, .inl ⟨.inl (.inl kD), fun ef hef => ?_⟩⟩
        have bA := b9.same (sm.trans (same_upd (o := .tup (vN (wh rs.length zs rs t))) hef))
        have kE : (upd H' ef (.tup (vN (wh rs.length zs rs t)))) ef = some (.tup (vN (wh rs.length zs rs t))) := upd_same
        generalize upd H' ef (.tup (vN (wh rs.length zs rs t))) = HA at bA kE ⊢
        refine ⟨.ref x, rfl, x, T.CLap, dx, _, rfl, bA.x, T.lap.c, T.lap.n4, Nat.lt_of_le_of_lt (fl3 rs st le) (by decide), ?_⟩
        have nx : ∀ q, (∃ xs, HA q = some (.lst xs)) → q ≠ x := fun q ⟨xs, h⟩ z => by
          rw [z, bA.x] at h
          cases h
        refine q _ (bA.o.put _) ⟨dx, st, le, ef, fL4 rs st le ef, srw, lrw, upd_same, ?_, ?_, ?_, lk_same _ _ _, ?_, ?_, ?_, ?_, ?_⟩
        · rw [lk_ne (by decide)]
          exact lk3_length rs st le
        · rw [lk_ne (by decide)]
          exact lk3_stops rs st le
        · rw [lk_ne (by decide)]
          exact lk3_lefts rs st le
        · rw [upd_ne (nx st ⟨_, bA.s⟩)]
          exact bA.s
        · exact rowV_imp (fun r hr o ho => by rw [upd_ne (nx r (rowV_mem bA.sr hr))]; exact ho) bA.sr
        · rw [upd_ne (nx le ⟨_, bA.l⟩)]
          exact bA.l
        · exact rowV_imp (fun r hr o ho => by rw [upd_ne (nx r (rowV_mem bA.lr hr))]; exact ho) bA.lr
        · rw [upd_ne (fun z => by rw [z, bA.x] at kE; cases kE)]
          exact kE
end
end Sv


set_option maxHeartbeats 4000000
namespace Sv
open PySem PySem.Spec PyProof.Rows L2
section
variable {P : Program} {w : World} {K : PySem.W.Frag} {mg : Str → Option Value} {base : Heap}
/-! ### effect_of_ticks -/
def nEt : List Str := ["plan", "time", "count", "lap", "laps", "rest", "place"]
theorem scEffectTicks : FnScope nEt ["plan", "time", "count"] (defScope sEffectTicks) := ⟨rfl, rfl, rfl, by decide +kernel, rfl, by decide +kernel, by decide +kernel⟩
theorem NewT.imp {H H1 : Hp} {g : List Nat} {Q : VK} (h : NewT H g Q) (e : Same H H1) : NewT H1 g Q := fun H' p sm hp hq => h H' p (e.trans sm) (Same.free e hp) hq
theorem same_make {H H' : Hp} {x dx C : Addr} {fs : List (Str × V)} (n1 : H x = none) (n2 : H dx = none) (o : Ox x (upd (upd H dx (.own x)) x (.ins C dx fs)) H') : Same H H' := fun b u e => by
  have h1 := ne_of_none e n1
  have h2 := ne_of_none e n2
  exact o b u h1 (by rw [upd_ne h1, upd_ne h2]; exact e)
/-- a new effect that is known to have no attributes of its own -/
def NewF (H : Hp) (g : List Nat) (Q : VK) : Prop := ∀ H' p o, Same H H' → H p = none → H' p = some (.frz o (.tup (vN g))) → o.dict = none → Q (.ref p) H'
theorem NewF.imp {H H1 : Hp} {g : List Nat} {Q : VK} (h : NewF H g Q) (e : Same H H1) : NewF H1 g Q := fun H' p o sm hp hq hd => h H' p o (e.trans sm) (Same.free e hp) hq hd
def spEffectTicks (K : PySem.W.Frag) : Sp := fun vs H Q _ => ∃ (p : Addr) (t c : Int) (zs : List Int) (rs : List Ro), vs = [.ref p, .int t, .int c] ∧ PlanAt K H p zs rs ∧ Val zs rs ∧ (NewT H (effT rs.length zs rs t c) Q ∨ NewF H (effT rs.length zs rs t c) Q)
theorem ok_effectTicks (T : Bd P K mg) : FnOk P w K mg base CX0 5 T.aEffectTicks T.dEffectTicks ["plan", "time", "count"] (spEffectTicks K) := by
  have GI : FnOk P w K mg base CX0 3 T.aLap T.dLap ["self", "plan", "time"] (spLapInit K T.CLap) := ok_lapInit T
  have GR : FnOk P w K mg base CX0 3 T.aRepeated T.dRepeated ["effect", "count"] (spRepeated K) := ok_repeated T
  refine T.EffectTicks.F.ok scEffectTicks (fun vs H Q E h => ?_) (fun cdv A outer s H vs Q E hr h => ?_)
  · obtain ⟨p, t, c, zs, rs, rfl, _⟩ := h
    rfl
  · obtain ⟨p, t, c, zs, rs, rfl, hp, hv, q⟩ := h
    refine ⟨_, (pss_cons (ps_set (i := 3) scEffectTicks.nd rfl (Or.inr rfl) (pe_make T.lap.m GI hr (by rfl) T.lap.g T.lap.b .nil pass0 (pa_cons (pv 0) (pa_cons (pv 1) pa_nil))))
      (pss_cons (ps_asg (pe_callB call_divmod (by rfl) T.bt.divmod (by decide +kernel) (pa_cons (pv 2) (pa_cons (pe_fld (pv 3) rfl) pa_nil))) (pg_tup rfl (pgs_cons (pg_name (i := 4) scEffectTicks.nd rfl (.inl rfl)) (pgs_cons (pg_name (i := 5) scEffectTicks.nd rfl (.inr rfl)) pgs_nil))))
      (pss_one (ps_ret (pe_callTy mk_tupF (by rfl) T.bt.tuple b_tuple (pa_cons (pe_lc (own := [("place", 6)]) (g := gName 6) (tt := tYes) (te := tOp (rIxL K) (tOp (rIxL K) (tFld K (tVar 3) "stops") (tVar 6)) (tVar 5)) rfl scEffectTicks.nd (pi_tup (pe_call (E := E0) GR (hr.mono (by decide)) (by rfl) T.Repeated.g T.Repeated.F.kp T.Repeated.b .nil pass0 (pa_cons (pe_fld (pv 3) rfl) (pa_cons (pv 4) pa_nil)))) (blkOk_by (N := nEt) (sc := defScope sEffectTicks) (by decide +kernel)) (fun _ _ _ _ _ => pg_name (i := 6) scEffectTicks.nd rfl (Or.inl rfl)) (fun _ _ _ _ _ => pts_nil) (fun _ _ _ _ _ => pe_ix ix_list (pe_ix ix_list (pe_fld (pv 3) rfl) (pv 6) (fun _ _ => rfl)) (pv 5) (fun _ _ => rfl))) pa_nil)))))), ?_⟩
    have hN := hv.num
    obtain ⟨l1, l60⟩ := lc_le hv.r2
    refine ⟨.ref p, rfl, .int t, rfl, fun la dl n1 n2 ne => ⟨la, dl, p, t, zs, rs, rfl, upd_same, hp.same (same_of (same_upd n2) n1), hv, fun H1 o lap => ⟨rfl, ?_⟩⟩⟩
    have sm1 := same_make n1 n2 o
    obtain ⟨dx, st, le, ef, fs, srw, lrw, h1, h2, h3, h4, h5, h6, h7, h8, h9, h10⟩ := lap.ex
    refine ⟨.int c, rfl, .ref la, rfl, la, T.CLap, dx, fs, _, rfl, h1, T.lap.c, T.lap.n1, h2, c, (lc rs : Nat), rfl, ⟨by omega, by omega⟩, fun tp htp => ?_⟩
    have sm2 : Same H1 (upd H1 tp (.tup [.int (c / (lc rs : Nat)), .int (c % (lc rs : Nat))])) := same_upd htp
    have k3 : (upd H1 tp (.tup [.int (c / (lc rs : Nat)), .int (c % (lc rs : Nat))])) tp = some (.tup [.int (c / (lc rs : Nat)), .int (c % (lc rs : Nat))]) := upd_same
    generalize upd H1 tp (.tup [.int (c / (lc rs : Nat)), .int (c % (lc rs : Nat))]) = H3 at sm2 k3 ⊢
    refine ⟨tp, _, rfl, .inl (.inl k3), rfl, _, _, rfl, _, _, rfl, rfl, ?_⟩
    have wl := wh_len rs.length zs rs t
    have m0 := Int.emod_nonneg c (show ((lc rs : Nat) : Int) ≠ 0 by omega)
    have m1 := Int.emod_lt_of_pos c (show (0 : Int) < ((lc rs : Nat) : Int) by omega)
    obtain ⟨r, hr1⟩ : ∃ r : Nat, c % ((lc rs : Nat) : Int) = (r : Int) := ⟨_, (Int.toNat_of_nonneg m0).symm⟩
    refine ⟨.ref la, rfl, la, T.CLap, dx, fs, _, rfl, sm2 _ _ h1, T.lap.c, T.lap.n4, h5, .int (c / (lc rs : Nat)), rfl, ef, wh rs.length zs rs t, c / (lc rs : Nat), rfl, .inl (.inl (sm2 _ _ h10)), wh_eff .., by omega, fun H4 w1 sm4 nw1 kw1 => ?_⟩
    have smA := sm2.trans sm4
    have ee : effT rs.length zs rs t c = comp (rep (wh rs.length zs rs t) (c / (lc rs : Nat))) (fwd rs.length zs rs t r) := by
      unfold effT
      rw [hr1, Int.toNat_natCast]
    have rl := rep_len (wh rs.length zs rs t) (c / (lc rs : Nat))
    have re := rep_eff (wh_eff rs.length zs rs t) (c / (lc rs : Nat))
    have hsl := rowV_len h7
    have esl : (stopsV rs.length zs rs t (lc rs)).length = rs.length + sumN zs := by unfold stopsV; rw [List.length_map, List.length_range]
    have eln := effT_len rs.length zs rs t c
    rw [hr1]
    refine ⟨w1, rfl, ⟨_, .inl (.inl kw1)⟩, fun D hD => lc_tup (xs := vN (rep (wh rs.length zs rs t) (c / (lc rs : Nat)))) (fun k H' => Same H4 H' ∧ H' D = some (.lst (vN ((effT rs.length zs rs t c).take k)))) ⟨same_upd hD, upd_same⟩
      (fun k H' _ h => .inl (.inl (h.1 _ _ kw1))) (fun k y H' hy ⟨sm, kD⟩ => ?_) (fun H' ⟨sm, kD⟩ => ?_)⟩
    · obtain ⟨hk, rfl⟩ := vN_lt hy
      have ho := ap_lt re hk
      have smB := smA.trans sm
      generalize hoo : ap (rep (wh rs.length zs rs t) (c / (lc rs : Nat))) k = o at ho ⊢
      obtain ⟨q1, hq1⟩ : ∃ q1, srw[o]? = some q1 := ⟨_, List.getElem?_eq_getElem (by omega)⟩
      obtain ⟨s1, es1, kq1⟩ := rowV_at (rowV_imp (fun q _ o ho => smB _ _ ho) h7) hq1
      unfold stopsV at es1
      rw [List.getElem?_map, List.getElem?_range (by omega)] at es1
      obtain rfl := Option.some.inj es1
      have hV : (srw.map V.ref)[o]? = some (.ref q1) := by rw [List.getElem?_map, hq1]; rfl
      have hS : (stopV rs.length zs rs t (lc rs) o)[r]? = some (.int (ap (fwd rs.length zs rs t r) o : Nat)) := by
        unfold stopV
        rw [List.getElem?_map, List.getElem?_range (by omega)]
        rfl
      refine ⟨rfl, yes_go ⟨.ref la, rfl, la, T.CLap, dx, fs, _, rfl, smB _ _ h1, T.lap.c, T.lap.n2, h3, .int (o : Nat), rfl, st, _, _, .ref q1, rfl, rfl, .inl (.inl (smB _ _ h6)), atI_nat hV, .int (r : Nat), rfl, q1, _, _, _, rfl, rfl, .inl (.inl kq1), atI_nat hS, _, kD, ?_, same_of sm hD, ?_⟩⟩
      · rw [vN_len, List.length_take]
        exact small1000 (by omega)
      · have e1 : ap (effT rs.length zs rs t c) k = ap (fwd rs.length zs rs t r) o := by
          rw [ee, comp_ap hk, hoo]
        rw [upd_same, vN_snoc (by omega), e1]
    · rw [vN_len, rl, wl, ← eln, List.take_length] at kD
      refine ⟨D, _, rfl, .inl (.inl kD), ?_⟩
      have smZ := (sm1.trans smA).trans sm
      rcases q with q | q
      · exact .inl fun l hl => q _ l (smZ.trans (same_upd hl)) (Same.free smZ hl) upd_same
      · exact .inr fun l o hl hd => q _ l o (smZ.trans (same_upd hl)) (Same.free smZ hl) upd_same hd
/-! ### effect_of -/
def spEffectOf (K : PySem.W.Frag) (C CC : Addr) : Sp := fun vs H Q E => ∃ (p : Addr) (t c : Int) (zs : List Int) (rs : List Ro), vs = [.ref p, .int t, .int c] ∧ PlanAt K H p zs rs ∧ Small zs rs ∧ (bad zs rs = none → CtOk c → NewT H (effT rs.length zs rs t c) Q) ∧
  BadE C zs rs H E ∧ (bad zs rs = none → ¬ CtOk c → ∀ H', Same H H' → E (.ref CC) none H')
end
end Sv


set_option maxHeartbeats 4000000
/-! zip of a list and a tuple -/
namespace Sv
open PySem PySem.Spec PyProof.Rows L2
section
abbrev zmA (h : Heap) (a : Addr) : Heap := h.push { cls := .type "list_iterator", data := .fields #[.ref a, .int 0 0] }
abbrev zmB (h : Heap) (a b : Addr) : Heap := (zmA h a).push { cls := .type "tuple_iterator", data := .fields #[.ref b, .int 0 0] }
abbrev zmC (h : Heap) (a b : Addr) : Heap := (zmB h a b).push { cls := .type "tuple", data := .seq #[.ref h.objs.size, .ref (zmA h a).objs.size] }
abbrev zmD (h : Heap) (a b : Addr) : Heap := (zmC h a b).push { cls := .type "tuple", data := .seq #[.none, .none] }
abbrev zmE (h : Heap) (a b : Addr) : Heap := (zmD h a b).push { cls := .type "zip", data := .fields #[.none, .bool false, .bool false, .ref (zmB h a b).objs.size, .ref (zmC h a b).objs.size] }
theorem zm_meets (a b : Addr) (xs ys : Array Value) :
    Meets (Builtin.«zip.__new__» ⟨[.type "zip", .ref a, .ref b], []⟩) (fun _ R s => s.heap.IsList a xs ∧ s.heap.IsTuple b ys ∧ R (.ok (.ret (.ref (zmD s.heap a b).objs.size))) { s with heap := zmE s.heap a b }) :=
  .of_wp fun prog w A R s h => by
    obtain ⟨hp, g, d, tk, os⟩ := s
    obtain ⟨ha, hb, h⟩ := h
    have z1 := sub_zip
    have la : Heap.IsList (Shared.heap ⟨hp, g, d, tk, os⟩) a xs := ha
    have lb : Heap.IsTuple (Shared.heap ⟨zmA hp a, g, d, tk, os⟩) b ys := Heap.IsTuple.push hb _
    wp_walk using wpAny_pyIter_list la, wpAny_pyIter_tuple lb
    exact ⟨_, rfl, h⟩
end
section
variable {prog : Program} {w : World} {A : Around} {E : Value → Shared → Prop} {s : Shared}
theorem call_zipM {a b : Addr} {xs ys : Array Value} {Q : Value → Shared → Prop} (ha : s.heap.IsList a xs) (hb : s.heap.IsTuple b ys)
    (q : ∀ h', IsZip h' (s.heap.objs.size + 4) (s.heap.objs.size + 2) (s.heap.objs.size + 3) .none → IsTupOf2 h' (s.heap.objs.size + 2) (.ref s.heap.objs.size) (.ref (s.heap.objs.size + 1)) → IsTupOf2 h' (s.heap.objs.size + 3) .none .none →
      h'.IsListIter s.heap.objs.size a 0 → h'.IsTupleIter (s.heap.objs.size + 1) b 0 → h'.objs.size = s.heap.objs.size + 5 → (∀ c o, s.heap.get? c = some o → h'.get? c = some o) → Q (.ref (s.heap.objs.size + 4)) { s with heap := h' }) :
    wpAny (model prog w) A (call (.type "zip") [.ref a, .ref b]) Q E s := by
  refine callType_new F.called_zip (by decide) (F.typeCall_zip_2 _ _) (F.newCall_zip_2 _ _) (fun obj => F.args_object_init_3 obj _ _) F.entry_zip_new (zm_meets a b xs ys) ⟨ha, hb, ?_⟩
  have n1 : (zmA s.heap a).objs.size = s.heap.objs.size + 1 := Heap.size_push ..
  have n2 : (zmB s.heap a b).objs.size = s.heap.objs.size + 2 := by rw [Heap.size_push, n1]
  have n3 : (zmC s.heap a b).objs.size = s.heap.objs.size + 3 := by rw [Heap.size_push, n2]
  have n4 : (zmD s.heap a b).objs.size = s.heap.objs.size + 4 := by rw [Heap.size_push, n3]
  have n5 : (zmE s.heap a b).objs.size = s.heap.objs.size + 5 := by rw [Heap.size_push, n4]
  have up : ∀ {h : Heap} {c : Addr} {o : Obj} (o2 : Obj), h.get? c = some o → (h.push o2).get? c = some o := fun o2 e => Heap.get?_push_of_some _ e
  have t5 : (zmE s.heap a b).get? (zmD s.heap a b).objs.size = some _ := Heap.get?_push_size _ rfl
  have t4 : (zmE s.heap a b).get? (zmC s.heap a b).objs.size = some _ := up _ (Heap.get?_push_size _ rfl)
  have t3 : (zmE s.heap a b).get? (zmB s.heap a b).objs.size = some _ := up _ (up _ (Heap.get?_push_size _ rfl))
  have t2 : (zmE s.heap a b).get? (zmA s.heap a).objs.size = some _ := up _ (up _ (up _ (Heap.get?_push_size _ rfl)))
  have t1 : (zmE s.heap a b).get? s.heap.objs.size = some _ := up _ (up _ (up _ (up _ (Heap.get?_push_size _ rfl))))
  show _ ∧ _
  rw [n2, n3, n4] at t5
  rw [n1, n2] at t3
  rw [n3] at t4
  rw [n1] at t2
  rw [n4]
  exact ⟨⟨_, t5, rfl⟩, q _ t5 t3 t4 ⟨_, t1, rfl, rfl⟩ ⟨_, t2, rfl, rfl⟩ n5 fun c o e => up _ (up _ (up _ (up _ (up _ e))))⟩
end
/-- the list at a and the tuple at b as they stand at each turn -/
def ItzM (K : PySem.W.Frag) (a b : Addr) : It :=
  ⟨fun i H => ∃ (xs ys : List V) (x y : V), SqL K H a xs ∧ SqT K H b ys ∧ xs[i]? = some x ∧ ys[i]? = some y,
    fun i H v H' => ∃ T x y, v = .ref T ∧ H T = none ∧ H' = upd H T (.tup [x, y]) ∧ (∀ l, SqL K H a l → l[i]? = some x) ∧ ∀ l, SqT K H b l → l[i]? = some y,
    fun i H => ∃ xs ys : List V, SqL K H a xs ∧ SqT K H b ys ∧ i = xs.length ∧ i = ys.length⟩
theorem zm_sep {n a b : Nat} (ha : a < n) (hb : b < n) : ZipSep2 (n + 4) (n + 2) (n + 3) n (n + 1) [n, a] [n + 1, b] := by
  have ne : ∀ {x y : Nat}, x < y ∨ y < x → x ≠ y := fun h e => by omega
  constructor <;> first | (apply ne; omega) | (intro m; simp at m; exact ne (by omega) m) | simp
theorem turn_zipM {P : Program} {w : World} {K : PySem.W.Frag} {elts : List Expr} {kk : Nat} {tpos : Pos} {a b n : Nat} (ha : a < n) (hb : b < n) :
    Turn P w K (.Tuple elts kk tpos) (ItzM K a b) [n + 4, n + 2, n + 3, n, n + 1] (n + 4) (fun i h => IsZip h (n + 4) (n + 2) (n + 3) .none ∧ IsTupOf2 h (n + 2) (.ref n) (.ref (n + 1)) ∧ (∃ x y, IsTupOf2 h (n + 3) x y) ∧ h.IsListIter n a i ∧ h.IsTupleIter (n + 1) b i) where
  mem := by simp
  obj := fun i h st c hc => by
    obtain ⟨u1, u2, ⟨x, y, u3⟩, ⟨o1, u4, _, d1⟩, ⟨o2, u5, _, d2⟩⟩ := st
    have cs : c = n + 4 ∨ c = n + 2 ∨ c = n + 3 ∨ c = n ∨ c = n + 1 := by simpa using hc
    rcases cs with q | q | q | q | q <;> subst q
    · exact ⟨_, u1, fun v q => nomatch q⟩
    · exact ⟨_, u2, fun v q => nomatch q⟩
    · exact ⟨_, u3, fun v q => nomatch q⟩
    · exact ⟨o1, u4, fun v q => by rw [d1] at q; cases q⟩
    · exact ⟨o2, u5, fun v q => by rw [d2] at q; cases q⟩
  keep := fun i h h' st k => by
    obtain ⟨u1, u2, ⟨x, y, u3⟩, u4, u5⟩ := st
    exact ⟨k _ (by simp) _ u1, k _ (by simp) _ u2, ⟨x, y, k _ (by simp) _ u3⟩, u4.at fun o q => k _ (by simp) o q, u5.at fun o q => k _ (by simp) o q⟩
  item := by
    intro X hP hw hK hc i pins s σ H E I hf st hg
    subst hP hw hK
    obtain ⟨u1, u2, ⟨x0, y0, u3⟩, u4, u5⟩ := st
    obtain ⟨xs, ys, x, y, qx, qy, hx, hy⟩ := hg
    obtain ⟨ia, ra, pa, _⟩ := I.list qx
    obtain ⟨ib, rb, pb, _⟩ := I.tuple qy
    obtain ⟨ux, hux, rx⟩ := ra.get hx
    obtain ⟨uy, huy, ry⟩ := rb.get hy
    have la : i < ia.toArray.size := by simpa using (List.getElem?_eq_some_iff.mp hux).1
    have lb : i < ib.toArray.size := by simpa using (List.getElem?_eq_some_iff.mp huy).1
    have hh : X.A.in1.handled = none := by simpa using I.ok.hd hc
    have zl := Heap.lt_size u1
    refine wpAny_pyNext_zipD2_item (zm_sep ha hb) (Draws.list hh n a (Nat.ne_of_lt ha) ia.toArray) (Draws.tuple hh (n + 1) b (Nat.ne_of_lt (Nat.lt_succ_of_lt hb)) ib.toArray) u1 u2 u3 ⟨u4, pa.isList⟩ ⟨u5, pb⟩ la lb fun v1 v2 h' tk e1 e2 b1 b2 d1 d2 hT hsz hk => ?_
    obtain rfl : v1 = ux := by
      have z : ia.toArray[i]? = some v1 := e1
      rw [show ia.toArray[i]? = some ux by simpa using hux] at z
      exact (Option.some.inj z).symm
    obtain rfl : v2 = uy := by
      have z : ib.toArray[i]? = some v2 := e2
      rw [show ib.toArray[i]? = some uy by simpa using huy] at z
      exact (Option.some.inj z).symm
    refine ⟨_, rfl, wpAny_letOwnedTupleGo_zip (s := { s with heap := h', toks := tk }) b1 fun h'' z'' sb => ?_⟩
    have nz : ∀ c, c ≠ n + 4 → h''.get? c = h'.get? c := fun c hc => sb.2 c hc
    have T2 : h''.get? s.heap.objs.size = some { cls := .type "tuple", data := .seq #[v1, v2] } := (nz _ (Nat.ne_of_gt zl)).trans hT
    have new : ObjOk X.prog X.w (upd H s.heap.objs.size (.tup [x, y])) h'' s.heap.objs.size (.tup [x, y]) :=
      ⟨by show 2 ≤ sizeLine; decide, [v1, v2], .cons rx (.cons ry .nil), ⟨_, T2, rfl, _, rfl⟩⟩
    have I1 : Inv X pins σ (upd H s.heap.objs.size (.tup [x, y])) { s with heap := h'', toks := tk } :=
      I.turnedNew (ch := [n + 4, n + 2, n + 3, n, n + 1]) (fun c o hb q => by
        have m1 : c ≠ n + 4 := fun z => hb (by simp [z])
        exact (nz c m1).trans (hk c o m1 (fun z => hb (by simp [z])) (fun z => hb (by simp [z])) (fun z => hb (by simp [z])) q)) hf (Nat.le_refl _) new
    have neq : ∀ {x y : Nat}, x < y ∨ y < x → x ≠ y := fun h e => by omega
    refine ⟨.ref s.heap.objs.size, _, I1, rfl, ⟨_, x, y, rfl, I.hok.fresh (Nat.le_refl _), rfl, fun l hl => by rw [I.list_inj hl qx]; exact hx, fun l hl => by rw [I.tuple_inj hl qy]; exact hy⟩, ⟨z'', ?_, ⟨v1, v2, ?_⟩, ?_, ?_⟩, fun c hcm => ?_⟩
    · exact (nz _ (neq (by omega))).trans (hk _ _ (neq (by omega)) (neq (by omega)) (neq (by omega)) (neq (by omega)) u2)
    · exact (nz _ (neq (by omega))).trans b2
    · exact d1.1.at fun o q => (nz _ (neq (by omega))).trans q
    · exact d2.1.at fun o q => (nz _ (neq (by omega))).trans q
    · have lt : c < s.heap.objs.size := by
        have cs : c = n + 4 ∨ c = n + 2 ∨ c = n + 3 ∨ c = n ∨ c = n + 1 := by simpa using hcm
        have le4 : ∀ k, k ≤ 4 → n + k < s.heap.objs.size := fun k hk => Nat.lt_of_le_of_lt (Nat.add_le_add_left hk n) zl
        rcases cs with q | q | q | q | q <;> subst q
        · exact le4 4 (by decide)
        · exact le4 2 (by decide)
        · exact le4 3 (by decide)
        · exact le4 0 (by decide)
        · exact le4 1 (by decide)
      rw [upd_ne (Nat.ne_of_lt lt)]
      exact (hf c hcm).1
  done := by
    intro X hP hw hK hc i pins s σ H E I hf st hg
    subst hP hw hK
    obtain ⟨u1, u2, ⟨x0, y0, u3⟩, u4, u5⟩ := st
    obtain ⟨xs, ys, qx, qy, e1, e2⟩ := hg
    obtain ⟨ia, ra, pa, _⟩ := I.list qx
    obtain ⟨ib, rb, pb, _⟩ := I.tuple qy
    have l1 := ra.length
    have l2 := rb.length
    have hh : X.A.in1.handled = none := by simpa using I.ok.hd hc
    have s1 : i = ia.toArray.size := by simp; omega
    have s2 : i = ib.toArray.size := by simp; omega
    exact wpAny_pyNext_zipD2_end (zm_sep ha hb) (Draws.list hh n a (Nat.ne_of_lt ha) ia.toArray) (Draws.tuple hh (n + 1) b (Nat.ne_of_lt (Nat.lt_succ_of_lt hb)) ib.toArray) u1 u2 u3 ⟨u4, pa.isList⟩ ⟨u5, pb⟩ (Nat.le_of_eq s1) (Nat.le_of_eq s2) (.inl s1) fun h' tk hk =>
      ⟨rfl, I.turnedL (t' := tk) (ch := [n + 4, n + 2, n + 3, n, n + 1]) (fun c o hb q => hk c o (fun z => hb (by simp [z])) (fun z => hb (by simp [z])) (fun z => hb (by simp [z])) (fun z => hb (by simp [z])) q) hf⟩
  self := fun A i s Q E st h => wpAny_pyIter_zip st.1 h
def iZipM (K : PySem.W.Frag) (ta : TA) : TI := fun σ H R => ta σ H fun vs H1 => ∃ a b xs ys, vs = [.ref a, .ref b] ∧ SqL K H1 a xs ∧ SqT K H1 b ys ∧ R (ItzM K a b) H1
theorem pi_zipM {X : Cx} {e e2 : Expr} {ta : TA} {p pos tpos : Pos} {elts : List Expr} {kk : Nat} (hg : Gl X "zip") (hm : X.mg "zip" = none) (ha : PA X [e, e2] ta)
    (h1 : starEach [e, e2] X.env = (false, eval e X.env) :: starEach [e2] X.env := by rfl) (h2 : (backTo pos (starEach [e2] X.env)).any (·.1) = false := by rfl) : PI X (.Tuple elts kk tpos) (.Call (.Name "zip" p) [e, e2] [] pos) (iZipM X.K ta) := by
  refine ⟨fun pins s σ H R I h => Call_ (ld_blt I hg hm PyProof.Rows.boot_zip (PyProof.Rows.callWith_type1 (thn (ha.run pos pins s σ H _ I h) fun us s1 ⟨vs, H1, I1, r1, a, b, xs, ys, ex, qx, qy, q⟩ => ?_) h1 h2))⟩
  subst ex
  cases r1 with
  | cons r rr =>
  cases rr with
  | cons r' rr =>
  cases rr
  cases r
  cases r'
  obtain ⟨ia, ra, pa, _⟩ := I1.list qx
  obtain ⟨ib, rb, pb, _⟩ := I1.tuple qy
  have lb : b < s1.heap.objs.size := (let ⟨_, z, _⟩ := pb; Heap.lt_size z)
  refine call_zipM pa.isList pb fun h' z1 z2 z3 z4 z5 zs hk => wpAny_pyIter_zip z1 ?_
  have I2 : Inv X pins σ H1 { s1 with heap := h' } := I1.kept (t' := s1.toks) hk
  refine ⟨s1.heap.objs.size + 4, [s1.heap.objs.size + 4, s1.heap.objs.size + 2, s1.heap.objs.size + 3, s1.heap.objs.size, s1.heap.objs.size + 1], _, _, H1, rfl, I2, turn_zipM pa.lt lb, ⟨z1, z2, ⟨_, _, z3⟩, z4, z5⟩, fun c hcm => ?_, q⟩
  have le : s1.heap.objs.size ≤ c := by
    have cs : c = s1.heap.objs.size + 4 ∨ c = s1.heap.objs.size + 2 ∨ c = s1.heap.objs.size + 3 ∨ c = s1.heap.objs.size ∨ c = s1.heap.objs.size + 1 := by simpa using hcm
    rcases cs with z | z | z | z | z <;> rw [z] <;> first | exact Nat.le_refl _ | exact Nat.le_add_right _ _
  exact I1.fpOk le (I1.hok.fresh le)
/-- a loop over zip of a list and a tuple of one length -/
theorem for_zipM {K : PySem.W.Frag} {a b : Addr} {xs ys : List V} {g : TG} {tb : TS} {D : Ends} {σ : L2.St} {H : Hp} (hl : xs.length = ys.length) (Pv : Nat → L2.St → Hp → Prop) (h0 : Pv 0 σ H) (hq : ∀ i σ H, Pv i σ H → SqL K H a xs ∧ SqT K H b ys)
    (turn : ∀ (i : Nat) (x y : V) (T : Addr) (σ : L2.St) (H : Hp), xs[i]? = some x → ys[i]? = some y → Pv i σ H → H T = none → g (.ref T) σ (upd H T (.tup [x, y])) fun σ2 H2 => tb { D with nx := Pv (i + 1), ct := Pv (i + 1), bk := D.nx } σ2 H2) (after : ∀ σ H, Pv xs.length σ H → D.nx σ H) :
    ∃ W : Nat → Nat → L2.St → Hp → Prop, (∃ m, W 0 m σ H) ∧ ∀ i m σ H, W i m σ H →
      ((ItzM K a b).stop i H ∧ D.nx σ H) ∨ ((ItzM K a b).go i H ∧ ∃ N : L2.St → Hp → Prop, (∀ σ' H', N σ' H' → ∃ m', m' < m ∧ W (i + 1) m' σ' H') ∧ ∀ v H', (ItzM K a b).yld i H v H' → g v σ H' fun σ2 H2 => tb { D with nx := N, ct := N, bk := D.nx } σ2 H2) := by
  refine ⟨fun i m σ H => i + m = xs.length ∧ Pv i σ H, ⟨xs.length, Nat.zero_add _, h0⟩, fun i m σ H ⟨em, hP⟩ => ?_⟩
  obtain ⟨qx, qy⟩ := hq i σ H hP
  by_cases hi : i < xs.length
  · have gx : xs[i]? = some xs[i] := List.getElem?_eq_getElem hi
    have gy : ys[i]? = some (ys[i]'(by omega)) := List.getElem?_eq_getElem (by omega)
    refine .inr ⟨⟨xs, ys, _, _, qx, qy, gx, gy⟩, Pv (i + 1), fun σ' H' z => ⟨m - 1, by omega, by omega, z⟩, fun v H' hy => ?_⟩
    obtain ⟨T, x', y', rfl, nT, rfl, f1, f2⟩ := hy
    exact turn i x' y' T σ H (f1 xs qx) (f2 ys qy) hP nT
  · have e : i = xs.length := by omega
    subst e
    exact .inl ⟨⟨xs, ys, qx, qy, rfl, hl⟩, after σ H hP⟩
end Sv


set_option maxHeartbeats 4000000
/-! len(set(xs)), xs a list of ints, also where some stand twice -/
namespace Sv
open PySem PySem.Spec PyProof.Rows L2
theorem range_getD (ns : List Int) : (List.range ns.length).map (fun i => ns.getD i 0) = ns := by
  refine List.ext_getElem? fun i => ?_
  by_cases h : i < ns.length
  · rw [List.getElem?_map, List.getElem?_range h, Option.map_some, List.getD_eq_getElem?_getD, List.getElem?_eq_getElem h]
    rfl
  · rw [List.getElem?_eq_none (by simp; omega), List.getElem?_eq_none (by omega)]
theorem any_mem (ns : List Int) (k : Int) : (ns.any (· == k)) = decide (k ∈ ns) := by
  rw [Bool.eq_iff_iff, List.any_eq_true, decide_eq_true_iff]
  exact ⟨fun ⟨x, hx, e⟩ => by rw [← beq_iff_eq.mp e]; exact hx, fun h => ⟨k, h, beq_self_eq_true k⟩⟩
theorem fm_nodup (val : Nat → Int) : ∀ i, (PyProof.Rows.firstMet val i).Nodup
  | 0 => by rw [PyProof.Rows.firstMet_zero]; exact List.nodup_nil
  | i + 1 => by
    rw [PyProof.Rows.firstMet_succ]
    have ih := fm_nodup val i
    unfold PyProof.Rows.step_dedup
    split
    · exact ih
    · rename_i h
      refine List.nodup_append.mpr ⟨ih, by simp, fun x hx y hy z => h ?_⟩
      rw [List.mem_singleton.mp hy] at z
      exact List.any_eq_true.mpr ⟨x, hx, beq_iff_eq.mpr z⟩
def tLenSetL (K : PySem.W.Frag) (ta : TE) : TE := fun σ H Q => ta σ H fun x H1 => ∃ (l : Addr) (ns : List Int), x = .ref l ∧ SqL K H1 l (ns.map V.int) ∧ ns.length ≤ 4000 ∧ ∀ c : Nat, c ≤ ns.length → (c = ns.length ↔ ns.Nodup) → Q (.int c) H1
theorem pe_lenSetL {X : Cx} {a : Expr} {ta : TE} {p p2 q pos : Pos} (hg : Gl X "len") (hm : X.mg "len" = none) (hg2 : Gl X "set") (hm2 : X.mg "set" = none) (ha : PE X a ta) (hc : X.calm = true := by rfl)
    (na : starEach [a] X.env = (false, eval a X.env) :: starEach [] X.env := by rfl) : PE X (.Call (.Name "len" p) [.Call (.Name "set" p2) [a] [] q] [] pos) (tLenSetL X.K ta) := by
  refine ⟨fun pins s σ H Q I h => Call_ (ld_blt I hg hm boot_len (PyProof.Rows.callWith_builtin1 (PyProof.Rows.args_cons (Call_ (ld_blt I hg2 hm2 boot_set ?_)) rfl) rfl rfl))⟩
  refine PyProof.Rows.callWith_type1 (PyProof.Rows.args_cons (thn (ha.run pins s σ H _ I h) fun v s1 ⟨x, H1, I1, r1, l, ns, ex, hq, hl, q1⟩ => PyProof.Rows.args_nil ?_) na) na rfl
  subst ex
  cases r1
  obtain ⟨its, r, pl, hz⟩ := I1.list hq
  have hlen : its.toArray.size = ns.length := by rw [List.size_toArray, ← r.length, List.length_map]
  refine call_set_list (I1.ok.hd hc) pl.isList (by simpa using RZ.intsAre_vals r) (by rw [hlen]; unfold scanBound; omega) fun h' tk hS hk => PyProof.Rows.args_nil ?_
  have fl := PyProof.Rows.firstMet_length_le (fun i => ns.getD i 0) its.toArray.size
  have fm : ∀ k, k ∈ PyProof.Rows.firstMet (fun i => ns.getD i 0) its.toArray.size ↔ k ∈ ns := fun k => by
    have z := PyProof.Rows.firstMet_any (fun i => ns.getD i 0) its.toArray.size k
    rw [hlen, range_getD, any_mem, any_mem] at z
    rw [hlen]
    simpa using z
  have fn := fm_nodup (fun i => ns.getD i 0) its.toArray.size
  generalize (PyProof.Rows.firstMet (fun i => ns.getD i 0) its.toArray.size) = m at hS fl fm fn
  obtain ⟨o, es, ep, t, ho, hex, hd, _, _, _, hf, hn⟩ := hS
  have I2 : Inv X pins σ H1 { s1 with heap := h', toks := tk } := I1.kept fun b o e => hk b o (Heap.lt_size e) e
  refine call_len_set ho hex hd hf (by rw [hn]; have : (4000 : Nat) < 2 ^ 63 := by decide
                                       omega) ⟨.int m.length, H1, I2.tok _, ⟨_, by rw [hn]⟩, q1 m.length (by omega) ⟨fun e => ?_, fun e => ?_⟩⟩
  · exact nodup_of_len fn (fun x hx => (fm x).mp hx) (by rw [e]; exact Nat.le_refl _)
  · have z := nodup_sub_len e fun x hx => (fm x).mpr hx
    omega
end Sv


set_option maxHeartbeats 4000000
namespace Sv
open PySem PySem.Spec PyProof.Rows L2
/-! ### states -/
abbrev TimeOk (t : Int) : Prop := -1000000000000000000000000000000 ≤ t ∧ t ≤ 1000000000000000000000000000000
def OkP (ns : List Int) : Prop := (∀ x ∈ ns, 1 ≤ x ∧ x ≤ 999) ∧ ns.Nodup
instance (ns : List Int) : Decidable (OkP ns) := by unfold OkP; infer_instance
instance (n : Nat) (zs : List Int) (L : Lay Int) : Decidable (Fits n zs L) := by unfold Fits; infer_instance
structure StOk (zs : List Int) (rs : List Ro) (t : Int) (L : Lay Int) : Prop where
  t : TimeOk t
  f : Fits rs.length zs L
  p : OkP (join L)
instance (zs : List Int) (rs : List Ro) (t : Int) (L : Lay Int) : Decidable (StOk zs rs t L) :=
  if h : TimeOk t ∧ Fits rs.length zs L ∧ OkP (join L) then isTrue ⟨h.1, h.2.1, h.2.2⟩ else isFalse fun z => h ⟨z.t, z.f, z.p⟩
/-- a state in its place -/
structure StateAt (K : PySem.W.Frag) (H : Hp) (s : Addr) (t : Int) (L : Lay Int) : Prop where
  ex : ∃ ca sh : Addr, SqT K H s [.int t, .ref ca, .ref sh] ∧ LayT K H ca sh L.1 L.2
theorem StateAt.imp {K : PySem.W.Frag} {H H' : Hp} {s : Addr} {t : Int} {L : Lay Int} (x : StateAt K H s t L) (e : ∀ a xs, SqT K H a xs → SqT K H' a xs) : StateAt K H' s t L := by
  obtain ⟨ca, sh, h1, h2⟩ := x.ex
  exact ⟨ca, sh, e _ _ h1, h2.imp e⟩
theorem StateAt.same {K : PySem.W.Frag} {H H' : Hp} {s : Addr} {t : Int} {L : Lay Int} (x : StateAt K H s t L) (e : Same H H') : StateAt K H' s t L := x.imp fun _ _ => sqT_same e
/-- not too long to be looked at -/
def LSm (L : Lay Int) : Prop := L.1.length ≤ 1000 ∧ L.2.length ≤ 1000 ∧ ∀ s ∈ L.2, s.length ≤ 1000
section
variable {P : Program} {w : World} {K : PySem.W.Frag} {mg : Str → Option Value} {base : Heap}
theorem scTupOf : FnScope ["row", "length"] ["row", "length"] (defScope sTupOf) := ⟨rfl, rfl, rfl, by decide +kernel, rfl, by decide +kernel, by decide +kernel⟩
def spTupOf (K : PySem.W.Frag) : Sp := fun vs H Q _ => ∃ (a : Addr) (n : Int) (xs : List V), vs = [.ref a, .int n] ∧ SqT K H a xs ∧ Q (.bl (decide ((xs.length : Int) = n))) H
theorem int_eqV (a b : Int) : decide (V.int a = V.int b) = decide (a = b) := by
  by_cases h : a = b
  · rw [decide_eq_true h, decide_eq_true (by rw [h])]
  · rw [decide_eq_false h, decide_eq_false fun z => h (V.int.inj z)]
theorem ok_tupOf (T : Bd P K mg) : FnOk P w K mg base CX0 1 T.aTupOf T.dTupOf ["row", "length"] (spTupOf K) := by
  refine T.TupOf.F.ok scTupOf (fun vs H Q E h => ?_) (fun cdv A outer s H vs Q E hr h => ?_)
  · obtain ⟨a, n, xs, rfl, _⟩ := h
    rfl
  · obtain ⟨a, n, xs, rfl, hA, q⟩ := h
    refine ⟨_, pss_one (ps_ret (pe_and (pe_callB call_isi (by rfl) T.bt.isinstance b_isinstance (pa_cons (pv 0) (pa_cons (pe_ty (by rfl) T.bt.tuple b_tuple) pa_nil)))
      (pe_one (pe_cmpR op_eq (pe_callB call_len_seq (by rfl) T.bt.len b_len (pa_cons (pv 0) pa_nil)) (pv 1) (nomark _))))), ?_⟩
    refine ⟨.ref a, rfl, .ref a, .ty "tuple", _, _, true, rfl, .ty "tuple", tyx_tup hA, kit_ty (by decide +kernel), true, rfl, ?_⟩
    rw [if_pos rfl]
    refine ⟨.ref a, rfl, a, _, rfl, .inr hA, .int n, rfl, rfl, ?_⟩
    show Q (.bl (decide (V.int (xs.length : Nat) = V.int n))) H
    rw [int_eqV]
    exact q
/-! ### are_parcels -/
theorem scParcels : FnScope ["parcels", "parcel"] ["parcels"] (defScope sParcels) := ⟨rfl, rfl, rfl, by decide +kernel, rfl, by decide +kernel, by decide +kernel⟩
def spParcels (K : PySem.W.Frag) : Sp := fun vs H Q _ => ∃ (l : Addr) (ns : List Int), vs = [.ref l] ∧ SqL K H l (ns.map V.int) ∧ ns.length ≤ 2000 ∧ Q (.bl (decide (OkP ns))) H
theorem ok_parcels (T : Bd P K mg) : FnOk P w K mg base CX0 2 T.aParcels T.dParcels ["parcels"] (spParcels K) := by
  have GW : FnOk P w K mg base CX0 1 T.aWithin T.dWithin ["number", "low", "high"] spWithin := ok_within T.Within.F T.bt.isinstance T.bt.bool T.bt.int
  obtain ⟨tl, hlast⟩ := T.lastP
  refine T.Parcels.F.ok scParcels (fun vs H Q E h => ?_) (fun cdv A outer s H vs Q E hr h => ?_)
  · obtain ⟨l, ns, rfl, _⟩ := h
    rfl
  · obtain ⟨l, ns, rfl, hL, hl, q⟩ := h
    refine ⟨_, pss_cons (ps_for PassesOwn.never rfl (pi_list (pv 0)) (pg_name (i := 1) scParcels.nd rfl (Or.inl rfl))
        (pss_one (ps_if (pt_not (pt_val (pe_call GW hr (by rfl) T.Within.g T.Within.F.kp T.Within.b .nil pass0 (pa_cons (pv 1) (pa_cons pe_int (pa_cons (pe_glob (v := .int 999) (by rfl) hlast ⟨_, rfl⟩) pa_nil)))))) (pss_one (ps_ret pe_bl)) pss_nil)))
      (pss_one (ps_ret (pe_cmpR op_eq (pe_lenSetL (by rfl) T.bt.len (by rfl) T.bt.set (pv 0)) (pe_callB call_len_seq (by rfl) T.bt.len b_len (pa_cons (pv 0) pa_nil)) (nomark _)))), ?_⟩
    have hlen : (ns.map V.int).length = ns.length := by rw [List.length_map]
    refine ⟨.ref l, rfl, l, rfl, ⟨_, hL⟩, for_list (xs := ns.map V.int) (fun i σ H' => (∃ y, σ = [some (.ref l), y]) ∧ H' = H ∧ ∀ j x, j < i → ns[j]? = some x → 1 ≤ x ∧ x ≤ 999) ⟨⟨none, rfl⟩, rfl, fun j x hj => by omega⟩ (fun i σ H' _ h => by rw [h.2.1]; exact hL)
      (fun i x σ H' hx ⟨⟨y, es⟩, eH, hok⟩ => ?_) (fun σ H' ⟨⟨y, es⟩, eH, hok⟩ => ?_)⟩
    · subst es
      subst eH
      obtain ⟨n, hn, rfl⟩ := iV_lt hx
      refine ⟨.int n, rfl, n, 1, 999, rfl, _, rfl, ?_⟩
      by_cases h : 1 ≤ n ∧ n ≤ 999
      · rw [decide_eq_true h]
        refine iteF ⟨⟨_, rfl⟩, rfl, fun j x hj e => ?_⟩
        by_cases hji : j = i
        · rw [hji, hn] at e
          rw [← Option.some.inj e]
          exact h
        · exact hok j x (by omega) e
      · rw [decide_eq_false h]
        have e : decide (OkP ns) = false := decide_eq_false fun z => h (z.1 n (List.mem_of_getElem? hn))
        rw [e] at q
        exact iteT q
    · subst es
      subst eH
      rw [hlen] at hok
      refine ⟨.ref l, rfl, l, ns, rfl, hL, by omega, fun c hc hiff => ?_⟩
      refine ⟨.ref l, rfl, l, _, rfl, .inl hL, rfl, ?_⟩
      rw [hlen]
      show Q (.bl (decide (V.int (c : Int) = V.int (ns.length : Nat)))) H'
      rw [int_eqV]
      have h1 : ∀ x ∈ ns, 1 ≤ x ∧ x ≤ 999 := fun x hx => by
        obtain ⟨j, hj⟩ := List.mem_iff_getElem?.mp hx
        exact hok j x (List.getElem?_eq_some_iff.mp hj).1 hj
      have e : decide ((c : Int) = (ns.length : Nat)) = decide (OkP ns) := by
        by_cases h : c = ns.length
        · rw [decide_eq_true (by rw [h]), decide_eq_true ⟨h1, hiff.mp h⟩]
        · rw [decide_eq_false (by omega), decide_eq_false fun z => h (hiff.mpr z.2)]
      rw [e]
      exact q
/-! ### fits_plan -/
def nFi : List Str := ["plan", "carried", "shelves", "sizes", "routes", "size", "shelf"]
theorem scFits : FnScope nFi ["plan", "carried", "shelves"] (defScope sFits) := ⟨rfl, rfl, rfl, by decide +kernel, rfl, by decide +kernel, by decide +kernel⟩
def spFits (K : PySem.W.Frag) : Sp := fun vs H Q _ => ∃ (p ca sh : Addr) (zs : List Int) (rs : List Ro) (L : Lay Int), vs = [.ref p, .ref ca, .ref sh] ∧ PlanAt K H p zs rs ∧ (∀ z ∈ zs, 0 ≤ z) ∧ LayT K H ca sh L.1 L.2 ∧ ∀ H', Same H H' → Q (.bl (decide (Fits rs.length zs L))) H'
theorem fits_no {n : Nat} {zs : List Int} {L : Lay Int} {i : Nat} {z : Int} {s : List Int} (hz : zs[i]? = some z) (h0 : 0 ≤ z) (hs : L.2[i]? = some s) (h : ¬ (s.length : Int) = z) : ¬ Fits n zs L := fun f => by
  have h1 : (L.2.map List.length)[i]? = some s.length := by rw [List.getElem?_map, hs]; rfl
  rw [f.2, List.getElem?_map, hz] at h1
  have := Option.some.inj h1
  omega
theorem ok_fits (T : Bd P K mg) : FnOk P w K mg base CX0 2 T.aFits T.dFits ["plan", "carried", "shelves"] (spFits K) := by
  have GT : FnOk P w K mg base CX0 1 T.aTupOf T.dTupOf ["row", "length"] (spTupOf K) := ok_tupOf T
  refine T.Fits.F.ok scFits (fun vs H Q E h => ?_) (fun cdv A outer s H vs Q E hr h => ?_)
  · obtain ⟨p, ca, sh, zs, rs, L, rfl, _⟩ := h
    rfl
  · obtain ⟨p, ca, sh, zs, rs, L, rfl, hp, hz, hL, q⟩ := h
    obtain ⟨a, b, hp1, ha, hb⟩ := hp.ex
    obtain ⟨rqs, hA, hP⟩ := hb.ex
    have hrl := paired_len hP
    obtain ⟨qs, hs1, hs2⟩ := hL.s
    have hql := segT_len hs2
    refine ⟨_, pss_cons (ps_asg (pv 0) (pg_tup rfl (pgs_cons (pg_name (i := 3) scFits.nd rfl (.inl rfl)) (pgs_cons (pg_name (i := 4) scFits.nd rfl (.inl rfl)) pgs_nil))))
      (pss_cons (ps_if (pw_or (pt_not (pt_val (pe_call (E := E0) GT hr (by rfl) T.TupOf.g T.TupOf.F.kp T.TupOf.b .nil pass0 (pa_cons (pv 1) (pa_cons (pe_callB call_len_seq (by rfl) T.bt.len b_len (pa_cons (pv 4) pa_nil)) pa_nil)))))
          (pw_or1 (pt_not (pt_val (pe_call (E := E0) GT hr (by rfl) T.TupOf.g T.TupOf.F.kp T.TupOf.b .nil pass0 (pa_cons (pv 2) (pa_cons (pe_callB call_len_seq (by rfl) T.bt.len b_len (pa_cons (pv 3) pa_nil)) pa_nil))))))).pt (pss_one (ps_ret pe_bl)) pss_nil)
      (pss_cons (ps_for PassesOwn.never rfl (RZ.pi_zipA (by rfl) T.bt.zip (pa_cons (pv 3) (pa_cons (pv 2) pa_nil))) (pg_tup rfl (pgs_cons (pg_name (i := 5) scFits.nd rfl (.inl rfl)) (pgs_cons (pg_name (i := 6) scFits.nd rfl (.inl rfl)) pgs_nil)))
        (pss_one (ps_if (pt_not (pt_val (pe_call (E := E0) GT hr (by rfl) T.TupOf.g T.TupOf.F.kp T.TupOf.b .nil pass0 (pa_cons (pv 6) (pa_cons (pv 5) pa_nil))))) (pss_one (ps_ret pe_bl)) pss_nil)))
      (pss_one (ps_ret pe_bl)))), ?_⟩
    refine ⟨.ref p, rfl, p, _, rfl, hp1, rfl, _, _, rfl, _, _, rfl, rfl, ?_⟩
    refine ⟨.ref ca, rfl, .ref b, rfl, b, _, rfl, .inr hA, ca, _, _, rfl, hL.c, _, rfl, ?_⟩
    rw [List.length_map, List.length_map, hrl]
    have no : ¬ Fits rs.length zs L → Q (.bl false) H := fun h => by
      have := q H (Same.refl H)
      rwa [decide_eq_false h] at this
    by_cases h1 : ((L.1.length : Nat) : Int) = (rs.length : Nat)
    · rw [decide_eq_true h1]
      refine iteF ⟨.ref sh, rfl, .ref a, rfl, a, _, rfl, .inr ha, sh, _, _, rfl, hs1, _, rfl, ?_⟩
      rw [List.length_map, List.length_map, hql]
      by_cases h2 : ((L.2.length : Nat) : Int) = (zs.length : Nat)
      · rw [decide_eq_true h2]
        refine iteF ⟨.ref a, rfl, .ref sh, rfl, a, sh, zs.map V.int, qs.map V.ref, rfl, .inr ⟨ha, hs1, RZ.for_zipT (by rw [List.length_map, List.length_map]; omega) (fun i σ H' => (∃ y5 y6, σ = [some (.ref p), some (.ref ca), some (.ref sh), some (.ref a), some (.ref b), y5, y6]) ∧ Same H H' ∧ ∀ j z s, j < i → zs[j]? = some z → L.2[j]? = some s → (s.length : Int) = z)
          ⟨⟨_, _, rfl⟩, Same.refl H, fun j z s hj => by omega⟩ (fun i σ H' h => ⟨sqT_same h.2.1 ha, sqT_same h.2.1 hs1⟩) (fun i x y U σ H' hx hy ⟨⟨y5, y6, es⟩, sm, hok⟩ hU => ?_) (fun σ H' ⟨⟨y5, y6, es⟩, sm, hok⟩ => ?_)⟩⟩
        · subst es
          obtain ⟨z, hz1, rfl⟩ := iV_lt hx
          obtain ⟨q1, hq1, rfl⟩ := refs_lt hy
          obtain ⟨s1, hs3, hq2⟩ := segT_at hs2 hq1
          have smU : Same H (upd H' U (.tup [.int z, .ref q1])) := same_of sm (Same.free sm hU)
          refine ⟨U, _, rfl, .inl (.inl upd_same), rfl, _, _, rfl, _, _, rfl, rfl, ?_⟩
          refine ⟨.ref q1, rfl, .int z, rfl, q1, z, _, rfl, sqT_same smU hq2, _, rfl, ?_⟩
          rw [List.length_map]
          by_cases h3 : (s1.length : Int) = z
          · rw [decide_eq_true h3]
            refine iteF ⟨⟨_, _, rfl⟩, smU, fun j z' s' hj e1 e2 => ?_⟩
            by_cases hji : j = i
            · subst hji
              rw [hz1] at e1
              rw [hs3] at e2
              rw [← Option.some.inj e1, ← Option.some.inj e2]
              exact h3
            · exact hok j z' s' (by omega) e1 e2
          · rw [decide_eq_false h3]
            have e : decide (Fits rs.length zs L) = false := decide_eq_false (fits_no hz1 (hz z (List.mem_of_getElem? hz1)) hs3 h3)
            have := q _ smU
            rw [e] at this
            exact iteT this
        · subst es
          rw [List.length_map] at hok
          have f : Fits rs.length zs L := by
            refine ⟨by omega, List.ext_getElem? fun i => ?_⟩
            by_cases hi : i < zs.length
            · have g1 : zs[i]? = some zs[i] := List.getElem?_eq_getElem hi
              have hi2 : i < L.2.length := by omega
              have g2 : L.2[i]? = some L.2[i] := List.getElem?_eq_getElem hi2
              have := hok i _ _ hi g1 g2
              rw [List.getElem?_map, List.getElem?_map, g1, g2]
              show some (L.2[i].length) = some (zs[i].toNat)
              congr 1
              omega
            · rw [List.getElem?_eq_none (by rw [List.length_map]; omega), List.getElem?_eq_none (by rw [List.length_map]; omega)]
          have := q _ sm
          rwa [decide_eq_true f] at this
      · rw [decide_eq_false h2]
        refine iteT (no fun f => h2 ?_)
        have := congrArg List.length f.2
        rw [List.length_map, List.length_map] at this
        omega
    · rw [decide_eq_false h1]
      exact iteT (no fun f => h1 (by rw [f.1]))
end
end Sv


set_option maxHeartbeats 4000000
namespace Sv
open PySem PySem.Spec PyProof.Rows L2
/-- the first k things moved by an effect -/
def mvN (e : List Nat) (cs : List Int) : Nat → List Int
  | 0 => cs
  | k + 1 => (mvN e cs k).set (ap e k) (cs.getD k 0)
theorem mvN_len (e : List Nat) (cs : List Int) : ∀ k, (mvN e cs k).length = cs.length
  | 0 => rfl
  | k + 1 => by
    show ((mvN e cs k).set _ _).length = _
    rw [List.length_set, mvN_len e cs k]
theorem mvN_at {e : List Nat} (E : Eff e) {cs : List Int} (hl : cs.length = e.length) : ∀ k, k ≤ e.length → ∀ i, i < k → (mvN e cs k)[ap e i]? = some (cs.getD i 0)
  | 0, _, i, hi => by omega
  | k + 1, hk, i, hi => by
    show ((mvN e cs k).set (ap e k) (cs.getD k 0))[ap e i]? = _
    by_cases h : i = k
    · subst h
      rw [List.getElem?_set_self (by rw [mvN_len, hl]; exact ap_lt E (by omega))]
    · rw [List.getElem?_set_ne fun q => h (ap_inj E (by omega) (by omega) q).symm]
      exact mvN_at E hl k (by omega) i (by omega)
/-- all things moved -/
def move (e : List Nat) (cs : List Int) : List Int := (inv e).map fun i => cs.getD i 0
theorem move_len (e : List Nat) (cs : List Int) : (move e cs).length = e.length := by unfold move; rw [List.length_map, inv_len]
theorem mvN_move {e : List Nat} (E : Eff e) {cs : List Int} (hl : cs.length = e.length) : mvN e cs e.length = move e cs := by
  refine List.ext_getElem? fun q => ?_
  by_cases hq : q < e.length
  · have h1 : ap (inv e) q < e.length := by
      have := ap_lt (inv_eff E) (x := q) (by rw [inv_len]; exact hq)
      rwa [inv_len] at this
    have h2 := mvN_at E hl e.length (Nat.le_refl _) (ap (inv e) q) h1
    rw [ap_inv E hq] at h2
    rw [h2]
    unfold move
    rw [List.getElem?_map, ap_at (by rw [inv_len]; exact hq)]
    rfl
  · rw [List.getElem?_eq_none (by rw [mvN_len]; omega), List.getElem?_eq_none (by rw [move_len]; omega)]
section
variable {P : Program} {w : World} {K : PySem.W.Frag} {mg : Str → Option Value} {base : Heap}
/-! ### check_state -/
def nCs : List Str := ["plan", "state", "time", "carried", "shelves"]
theorem scCheckState : FnScope nCs ["plan", "state"] (defScope sCheckState) := ⟨rfl, rfl, rfl, by decide +kernel, rfl, by decide +kernel, by decide +kernel⟩
def spCheckState (K : PySem.W.Frag) (CS : Addr) : Sp := fun vs H Q E => ∃ (p s : Addr) (zs : List Int) (rs : List Ro) (t : Int) (L : Lay Int), vs = [.ref p, .ref s] ∧ PlanAt K H p zs rs ∧ Val zs rs ∧ StateAt K H s t L ∧
  (StOk zs rs t L → ∀ H', Same H H' → Q .non H') ∧ (¬ StOk zs rs t L → ∀ H', Same H H' → E (.ref CS) none H')
theorem ok_checkState (T : Bd P K mg) : FnOk P w K mg base (L2.CX P w) 3 T.aCheckState T.dCheckState ["plan", "state"] (spCheckState K T.CS) := by
  have GW : FnOk P w K mg base CX0 1 T.aWithin T.dWithin ["number", "low", "high"] spWithin := ok_within T.Within.F T.bt.isinstance T.bt.bool T.bt.int
  have GF : FnOk P w K mg base CX0 2 T.aFits T.dFits ["plan", "carried", "shelves"] (spFits K) := ok_fits T
  have GJ : FnOk P w K mg base CX0 1 T.aJoin T.dJoin ["carried", "shelves"] (spJoin K) := ok_join T
  have GP : FnOk P w K mg base CX0 2 T.aParcels T.dParcels ["parcels"] (spParcels K) := ok_parcels T
  obtain ⟨tl, hlim⟩ := T.tlim
  refine T.CheckState.F.okX scCheckState (fun vs H Q E h => ?_) (fun cdv A outer s H vs Q E hr h => ?_)
  · obtain ⟨p, s, zs, rs, t, L, rfl, _⟩ := h
    rfl
  · obtain ⟨p, s, zs, rs, t, L, rfl, hp, hv, hs, q1, q2⟩ := h
    obtain ⟨ca, sh, hs1, hL⟩ := hs.ex
    refine ⟨_, pss_cons (ps_if (pw_or (pt_not (pt_val (pe_callB call_isi (by rfl) T.bt.isinstance b_isinstance (pa_cons (pv 1) (pa_cons (pe_ty (by rfl) T.bt.tuple b_tuple) pa_nil)))))
          (pw_or1 (pt_cmpR op_ne (pe_callB call_len_seq (by rfl) T.bt.len b_len (pa_cons (pv 1) pa_nil)) pe_int (nomark _)))).pt
        (pss_one (ps_raise rfl (takes_of rfl rfl rfl rfl) (pmk_own PySem.F.excBase_ValueError T.cs.x T.cs.g T.cs.k (raises_own T.cs.b T.cs.t) rfl))) pss_nil)
      (pss_cons (ps_asg (pv 1) (pg_tup rfl (pgs_cons (pg_name (i := 2) scCheckState.nd rfl (.inl rfl)) (pgs_cons (pg_name (i := 3) scCheckState.nd rfl (.inl rfl)) (pgs_cons (pg_name (i := 4) scCheckState.nd rfl (.inl rfl)) pgs_nil)))))
      (pss_cons (ps_if (pt_not (pt_val (pe_call (E := E0) GW (hr.mono (by decide)) (by rfl) T.Within.g T.Within.F.kp T.Within.b .nil pass0 (pa_cons (pv 2) (pa_cons (pe_un un_neg (pe_glob (v := .int 1000000000000000000000000000000) (by rfl) hlim ⟨_, rfl⟩)) (pa_cons (pe_glob (v := .int 1000000000000000000000000000000) (by rfl) hlim ⟨_, rfl⟩) pa_nil))))))
        (pss_one (ps_raise rfl (takes_of rfl rfl rfl rfl) (pmk_own PySem.F.excBase_ValueError T.cs.x T.cs.g T.cs.k (raises_own T.cs.b T.cs.t) rfl))) pss_nil)
      (pss_cons (ps_if (pt_not (pt_val (pe_call (E := E0) GF hr (by rfl) T.Fits.g T.Fits.F.kp T.Fits.b .nil pass0 (pa_cons (pv 0) (pa_cons (pv 3) (pa_cons (pv 4) pa_nil))))))
        (pss_one (ps_raise rfl (takes_of rfl rfl rfl rfl) (pmk_own PySem.F.excBase_ValueError T.cs.x T.cs.g T.cs.k (raises_own T.cs.b T.cs.t) rfl))) pss_nil)
      (pss_one (ps_if (pt_not (pt_val (pe_call (E := E0) GP hr (by rfl) T.Parcels.g T.Parcels.F.kp T.Parcels.b .nil pass0 (pa_cons (pe_call (E := E0) GJ (hr.mono (by decide)) (by rfl) T.Join.g T.Join.F.kp T.Join.b .nil pass0 (pa_cons (pv 3) (pa_cons (pv 4) pa_nil))) pa_nil))))
        (pss_one (ps_raise rfl (takes_of rfl rfl rfl rfl) (pmk_own PySem.F.excBase_ValueError T.cs.x T.cs.g T.cs.k (raises_own T.cs.b T.cs.t) rfl))) pss_nil))))), ?_⟩
    refine ⟨.ref s, rfl, .ref s, .ty "tuple", _, _, true, rfl, .ty "tuple", tyx_tup hs1, kit_ty (by decide +kernel), true, rfl, iteF ?_⟩
    refine ⟨.ref s, rfl, s, _, rfl, .inr hs1, rfl, _, rfl, iteF ?_⟩
    refine ⟨.ref s, rfl, s, _, rfl, hs1, rfl, _, _, rfl, _, _, rfl, _, _, rfl, rfl, ?_⟩
    refine ⟨.int t, rfl, _, rfl, t, -1000000000000000000000000000000, 1000000000000000000000000000000, rfl, _, rfl, ?_⟩
    by_cases h1 : TimeOk t
    · rw [decide_eq_true h1]
      refine iteF ⟨.ref p, rfl, .ref ca, rfl, .ref sh, rfl, p, ca, sh, zs, rs, L, rfl, hp, fun z hz => (hv.z2 z hz).1, hL, fun H1 sm1 => ⟨_, rfl, ?_⟩⟩
      by_cases h2 : Fits rs.length zs L
      · rw [decide_eq_true h2]
        have jl := join_len h2
        have hn := hv.num
        have jl2 : L.1.length + L.2.flatten.length = rs.length + sumN zs := by
          rw [← jl]
          unfold join
          rw [List.length_append]
        refine iteF ⟨.ref ca, rfl, .ref sh, rfl, ca, sh, L.1, L.2, rfl, hL.same sm1, by omega, fun H2 f sm2 nf kf => ⟨f, L.1 ++ L.2.flatten, rfl, .inl (.inl kf), by rw [List.length_append]; omega, _, rfl, ?_⟩⟩
        by_cases h3 : OkP (L.1 ++ L.2.flatten)
        · rw [decide_eq_true h3]
          exact iteF (q1 ⟨h1, h2, h3⟩ _ (sm1.trans sm2))
        · rw [decide_eq_false h3]
          exact iteT (q2 (fun z => h3 z.p) _ (sm1.trans sm2))
      · rw [decide_eq_false h2]
        exact iteT (q2 (fun z => h2 z.f) _ sm1)
    · rw [decide_eq_false h1]
      exact iteT (q2 (fun z => h1 z.t) _ (Same.refl H))
end
end Sv


set_option maxHeartbeats 4000000
namespace Sv
open PySem PySem.Spec PyProof.Rows L2
section
variable {P : Program} {w : World} {K : PySem.W.Frag} {mg : Str → Option Value} {base : Heap}
/-! ### parcels_in, moved -/
theorem scParcelsIn : FnScope ["state", "_", "carried", "shelves"] ["state"] (defScope sParcelsIn) := ⟨rfl, rfl, rfl, by decide +kernel, rfl, by decide +kernel, by decide +kernel⟩
def spParcelsIn (K : PySem.W.Frag) : Sp := fun vs H Q _ => ∃ (s : Addr) (t : Int) (L : Lay Int), vs = [.ref s] ∧ StateAt K H s t L ∧ (join L).length ≤ 1000 ∧ NewL H (join L) Q
theorem NewL.imp {H H1 : Hp} {l : List Int} {Q : VK} (h : NewL H l Q) (e : Same H H1) : NewL H1 l Q := fun H' f sm hf => h H' f (e.trans sm) (Same.free e hf)
theorem ok_parcelsIn (T : Bd P K mg) : FnOk P w K mg base CX0 2 T.aParcelsIn T.dParcelsIn ["state"] (spParcelsIn K) := by
  have GJ : FnOk P w K mg base CX0 1 T.aJoin T.dJoin ["carried", "shelves"] (spJoin K) := ok_join T
  refine T.ParcelsIn.F.ok scParcelsIn (fun vs H Q E h => ?_) (fun cdv A outer s H vs Q E hr h => ?_)
  · obtain ⟨s, t, L, rfl, _⟩ := h
    rfl
  · obtain ⟨s, t, L, rfl, hst, hl, q⟩ := h
    obtain ⟨ca, sh, hs1, hL⟩ := hst.ex
    exact ⟨_, (pss_cons (ps_asg (pv 0) (pg_tup rfl (pgs_cons (pg_name (i := 1) scParcelsIn.nd rfl (.inl rfl)) (pgs_cons (pg_name (i := 2) scParcelsIn.nd rfl (.inl rfl)) (pgs_cons (pg_name (i := 3) scParcelsIn.nd rfl (.inl rfl)) pgs_nil)))))
      (pss_one (ps_ret (pe_call (E := E0) GJ hr (by rfl) T.Join.g T.Join.F.kp T.Join.b .nil pass0 (pa_cons (pv 2) (pa_cons (pv 3) pa_nil)))))), .ref s, rfl, s, _, rfl, hs1, rfl, _, _, rfl, _, _, rfl, _, _, rfl, rfl, .ref ca, rfl, .ref sh, rfl, ca, sh, L.1, L.2, rfl, hL, by rw [← List.length_append]; exact hl, q⟩
/-- a new state -/
def NewSt (K : PySem.W.Frag) (H : Hp) (t : Int) (L : Lay Int) (Q : VK) : Prop := ∀ H' s, Same H H' → H s = none → StateAt K H' s t L → Q (.ref s) H'
theorem NewSt.imp {K : PySem.W.Frag} {H H1 : Hp} {t : Int} {L : Lay Int} {Q : VK} (h : NewSt K H t L Q) (e : Same H H1) : NewSt K H1 t L Q := fun H' s sm hs => h H' s (e.trans sm) (Same.free e hs)
/-- a state with the same time, its parcels moved -/
def mvL (n : Nat) (zs : List Int) (e : List Nat) (L : Lay Int) : Lay Int := spl n zs (move e (join L))
def spApply (K : PySem.W.Frag) (C CS CE CD : Addr) : Sp := fun vs H Q E => ∃ (p s a : Addr) (zs : List Int) (rs : List Ro) (t : Int) (L : Lay Int) (ns : List Int), vs = [.ref p, .ref s, .ref a] ∧ PlanAt K H p zs rs ∧ Small zs rs ∧ StateAt K H s t L ∧ SqT K H a (ns.map V.int) ∧ ns.length ≤ 1000 ∧
  BadE C zs rs H E ∧ (bad zs rs = none → ¬ StOk zs rs t L → ∀ H', Same H H' → E (.ref CS) none H') ∧ (bad zs rs = none → StOk zs rs t L → ¬ EffI ns → ∀ H', Same H H' → E (.ref CE) none H') ∧
  (bad zs rs = none → StOk zs rs t L → EffI ns → ns.length ≠ rs.length + sumN zs → ∀ H', Same H H' → E (.ref CD) none H') ∧
  (∀ e, bad zs rs = none → StOk zs rs t L → ns = nInts e → Eff e → e.length = rs.length + sumN zs → NewSt K H t (mvL rs.length zs e L) Q)
theorem scStateOf : FnScope ["plan", "time", "parcels", "carried", "shelves"] ["plan", "time", "parcels"] (defScope sStateOf) := ⟨rfl, rfl, rfl, by decide +kernel, rfl, by decide +kernel, by decide +kernel⟩
def spStateOf (K : PySem.W.Frag) : Sp := fun vs H Q _ => ∃ (p l : Addr) (zs : List Int) (rs : List Ro) (t : Int) (cs : List Int), vs = [.ref p, .int t, .ref l] ∧ PlanAt K H p zs rs ∧ Val zs rs ∧ SqL K H l (cs.map V.int) ∧ cs.length ≤ 1000 ∧ NewSt K H t (spl rs.length zs cs) Q
theorem ok_stateOf (T : Bd P K mg) : FnOk P w K mg base CX0 2 T.aStateOf T.dStateOf ["plan", "time", "parcels"] (spStateOf K) := by
  have GL : FnOk P w K mg base CX0 1 T.aSplit T.dSplit ["plan", "contents"] (spSplit K) := ok_split T
  refine T.StateOf.F.ok scStateOf (fun vs H Q E h => ?_) (fun cdv A outer s H vs Q E hr h => ?_)
  · obtain ⟨p, l, zs, rs, t, cs, rfl, _⟩ := h
    rfl
  · obtain ⟨p, l, zs, rs, t, cs, rfl, hp, hv, hl, hc, q⟩ := h
    refine ⟨_, (pss_cons (ps_asg (pe_call (E := E0) GL (hr.mono (by decide)) (by rfl) T.Split.g T.Split.F.kp T.Split.b .nil pass0 (pa_cons (pv 0) (pa_cons (pv 2) pa_nil))) (pg_tup rfl (pgs_cons (pg_name (i := 3) scStateOf.nd rfl (.inl rfl)) (pgs_cons (pg_name (i := 4) scStateOf.nd rfl (.inl rfl)) pgs_nil))))
      (pss_one (ps_ret (pe_tup (pa_cons (pv 1) (pa_cons (pv 3) (pa_cons (pv 4) pa_nil))))))), ?_⟩
    refine ⟨.ref p, rfl, .ref l, rfl, p, l, zs, rs, cs, rfl, hp, hl, hv.z2, hv.z1.2, hv.r1.2, hc, fun H5 tp c2 s2 sm5 ht lay => ?_⟩
    refine ⟨tp, _, rfl, .inl (.inl ht), rfl, _, _, rfl, _, _, rfl, rfl, ?_⟩
    refine ⟨.int t, rfl, .ref c2, rfl, .ref s2, rfl, (by show 3 ≤ sizeLine; decide), fun t2 ht2 => ?_⟩
    have sm6 := same_upd (o := .tup [.int t, .ref c2, .ref s2]) ht2
    exact q _ t2 (sm5.trans sm6) (Same.free sm5 ht2) ⟨c2, s2, .inl (.inl upd_same), (lay.same sm6).t⟩
def nMv : List Str := ["plan", "state", "effect", "before", "after", "parcel", "target"]
theorem scMoved : FnScope nMv ["plan", "state", "effect"] (defScope sMoved) := ⟨rfl, rfl, rfl, by decide +kernel, rfl, by decide +kernel, by decide +kernel⟩
def spMoved (K : PySem.W.Frag) : Sp := fun vs H Q _ => ∃ (p s a : Addr) (zs : List Int) (rs : List Ro) (t : Int) (L : Lay Int) (e : List Nat), vs = [.ref p, .ref s, .ref a] ∧ PlanAt K H p zs rs ∧ Val zs rs ∧ StateAt K H s t L ∧ Fits rs.length zs L ∧ SqT K H a (vN e) ∧ Eff e ∧ e.length = rs.length + sumN zs ∧ NewSt K H t (mvL rs.length zs e L) Q
theorem ok_moved (T : Bd P K mg) : FnOk P w K mg base CX0 3 T.aMoved T.dMoved ["plan", "state", "effect"] (spMoved K) := by
  have GJ : FnOk P w K mg base CX0 2 T.aParcelsIn T.dParcelsIn ["state"] (spParcelsIn K) := ok_parcelsIn T
  have GL : FnOk P w K mg base CX0 2 T.aStateOf T.dStateOf ["plan", "time", "parcels"] (spStateOf K) := ok_stateOf T
  refine T.Moved.F.ok scMoved (fun vs H Q E h => ?_) (fun cdv A outer s H vs Q E hr h => ?_)
  · obtain ⟨p, s, a, zs, rs, t, L, e, rfl, _⟩ := h
    rfl
  · obtain ⟨p, s, a, zs, rs, t, L, e, rfl, hp, hv, hst, hf, hA, hE, hlen, q⟩ := h
    refine ⟨_, (pss_cons (ps_set (i := 3) scMoved.nd rfl (Or.inl rfl) (pe_call (E := E0) GJ (hr.mono (by decide)) (by rfl) T.ParcelsIn.g T.ParcelsIn.F.kp T.ParcelsIn.b .nil pass0 (pa_cons (pv 1) pa_nil)))
      (pss_cons (ps_set (i := 4) scMoved.nd rfl (Or.inl rfl) (pe_callTy call_list_of (by rfl) T.bt.list b_list (pa_cons (pv 3) pa_nil)))
      (pss_cons (ps_for PassesOwn.never rfl (pi_zipM (by rfl) T.bt.zip (pa_cons (pv 3) (pa_cons (pv 2) pa_nil))) (pg_tup rfl (pgs_cons (pg_name (i := 5) scMoved.nd rfl (.inl rfl)) (pgs_cons (pg_name (i := 6) scMoved.nd rfl (.inl rfl)) pgs_nil))) (pss_one (ps_asg (pv 5) (pg_sub (pv 4) (pv 6) set_list))))
      (pss_one (ps_ret (pe_call (E := E0) GL (hr.mono (by decide)) (by rfl) T.StateOf.g T.StateOf.F.kp T.StateOf.b .nil pass0 (pa_cons (pv 0) (pa_cons (pe_ix ix_tup (pv 1) pe_int (fun _ _ => rfl)) (pa_cons (pv 4) pa_nil))))))))), ?_⟩
    have hn := hv.num
    have jl := join_len hf
    refine ⟨.ref s, rfl, s, t, L, rfl, hst, by omega, fun H3 f smB nf kf => ?_⟩
    refine ⟨.ref f, rfl, f, _, rfl, .inl (.inl (.inl kf)), fun g hg => ?_⟩
    have fg : f ≠ g := ne_of_none kf hg
    have kf2 : (upd H3 g (.lst ((join L).map V.int))) f = some (.lst ((join L).map V.int)) := by rw [upd_ne fg]; exact kf
    have smC : Same H (upd H3 g (.lst ((join L).map V.int))) := smB.trans (same_upd hg)
    have kg : (upd H3 g (.lst ((join L).map V.int))) g = some (.lst ((mvN e (join L) 0).map V.int)) := upd_same
    have ng : H g = none := Same.free smB hg
    generalize upd H3 g (.lst ((join L).map V.int)) = H4 at kf2 smC kg ⊢
    have hA4 := sqT_same smC hA
    refine ⟨.ref f, rfl, .ref a, rfl, f, a, (join L).map V.int, vN e, rfl, .inl (.inl kf2), hA4, for_zipM (by rw [List.length_map, vN_len]; omega) (fun i σ H' => (∃ y5 y6, σ = [some (.ref p), some (.ref s), some (.ref a), some (.ref f), some (.ref g), y5, y6]) ∧ Same H H' ∧ H' f = some (.lst ((join L).map V.int)) ∧ H' g = some (.lst ((mvN e (join L) i).map V.int)))
      ⟨⟨_, _, rfl⟩, smC, kf2, kg⟩ (fun i σ H' h => ⟨.inl (.inl h.2.2.1), sqT_same h.2.1 hA⟩) (fun i x y U σ H' hx hy ⟨⟨y5, y6, es⟩, sm, k1, k2⟩ hU => ?_) (fun σ H' ⟨⟨y5, y6, es⟩, sm, k1, k2⟩ => ?_)⟩
    · subst es
      obtain ⟨z, hz1, rfl⟩ := iV_lt hx
      obtain ⟨hi, rfl⟩ := vN_lt hy
      have smU : Same H (upd H' U (.tup [.int z, .int (ap e i : Nat)])) := same_of sm (Same.free sm hU)
      have gU : g ≠ U := ne_of_none k2 hU
      have fU : f ≠ U := ne_of_none k1 hU
      refine ⟨U, _, rfl, .inl (.inl upd_same), rfl, _, _, rfl, _, _, rfl, rfl, ?_⟩
      refine ⟨.int z, rfl, .ref g, rfl, .int (ap e i : Nat), rfl, g, _, _, ap e i, rfl, rfl, by rw [upd_ne gU]; exact k2, ?_, ⟨_, _, rfl⟩, same_of smU ng, ?_, ?_⟩
      · rw [List.length_map, mvN_len, jl, ← hlen]
        exact ixN_nat (ap_lt hE hi)
      · rw [upd_ne fg, upd_ne fU]
        exact k1
      · rw [upd_same, ← List.map_set]
        have ez : (join L).getD i 0 = z := by rw [List.getD_eq_getElem?_getD, hz1]; rfl
        show some (HO.lst (((mvN e (join L) i).set (ap e i) z).map V.int)) = some (HO.lst (((mvN e (join L) i).set (ap e i) ((join L).getD i 0)).map V.int))
        rw [ez]
    · subst es
      rw [List.length_map, jl, ← hlen, mvN_move hE (by omega)] at k2
      have ml := move_len e (join L)
      obtain ⟨ca, sh, hs1, hL⟩ := (hst.same sm).ex
      refine ⟨.ref p, rfl, .ref s, rfl, s, _, 0, .int t, rfl, rfl, hs1, rfl, .ref g, rfl, p, g, zs, rs, t, move e (join L), rfl, hp.same sm, hv, .inl (.inl k2), by omega, q.imp sm⟩
/-! ### apply_effect -/
end
end Sv


set_option maxHeartbeats 4000000
namespace Sv
open PySem PySem.Spec PyProof.Rows L2
section
variable {P : Program} {w : World} {K : PySem.W.Frag} {mg : Str → Option Value} {base : Heap}
def spPlanG (K : PySem.W.Frag) : Sp := fun vs H Q _ => ∃ (h l : Addr) (ns nc : Int), vs = [.ref h, .int ns, .int nc] ∧ LawH H h l ∧ (1 ≤ ns ∧ ns ≤ 12) ∧ (1 ≤ nc ∧ nc ≤ 6) ∧ ∀ H' p zs rs, St h l H H' → PlanAt K H' p zs rs → Val zs rs → (zs.length : Int) ≤ ns → (rs.length : Int) ≤ nc → Q (.ref p) H'
end
end Sv


set_option maxHeartbeats 4000000
namespace Sv
open PySem PySem.Spec PyProof.Rows L2
/-! ### drawn states -/
theorem cop997 : ∀ s : Fin 997, s = 0 ∨ Nat.gcd 997 s = 1 := by decide +kernel
theorem far997 {s d : Nat} (h1 : 1 ≤ s) (h2 : s ≤ 996) (d1 : 1 ≤ d) (d2 : d < 997) : (s * d) % 997 ≠ 0 := fun z => by
  have c : Nat.Coprime 997 s := by
    rcases cop997 ⟨s, by omega⟩ with q | q
    · have := congrArg Fin.val q
      simp at this
      omega
    · exact q
  have := Nat.le_of_dvd d1 (c.dvd_of_dvd_mul_left (Nat.dvd_of_mod_eq_zero z))
  omega
/-- the parcel with the number k -/
def prcl (a s : Nat) (k : Nat) : Int := 1 + (((a + s * k) % 997 : Nat) : Int)
def prcls (a s n : Nat) : List Int := (List.range n).map (prcl a s)
theorem prcls_len (a s n : Nat) : (prcls a s n).length = n := by unfold prcls; simp
theorem prcls_succ (a s n : Nat) : prcls a s (n + 1) = prcls a s n ++ [prcl a s n] := by
  unfold prcls
  rw [List.range_succ, List.map_append]
  rfl
theorem prcl_ne {a s i j : Nat} (h1 : 1 ≤ s) (h2 : s ≤ 996) (hij : i < j) (hj : j < 997) : prcl a s i ≠ prcl a s j := fun e => by
  unfold prcl at e
  have e2 : (a + s * i) % 997 = (a + s * j) % 997 := by omega
  have e3 : s * j = s * i + s * (j - i) := by rw [← Nat.mul_add]; congr 1; omega
  rw [e3] at e2
  exact far997 (s := s) (d := j - i) h1 h2 (by omega) (by omega) (by omega)
theorem prcls_ok {a s n : Nat} (h1 : 1 ≤ s) (h2 : s ≤ 996) (hn : n ≤ 997) : OkP (prcls a s n) := by
  refine ⟨fun x hx => ?_, ?_⟩
  · obtain ⟨k, _, rfl⟩ := List.mem_map.mp hx
    unfold prcl
    have := Nat.mod_lt (a + s * k) (by decide : 0 < 997)
    omega
  · refine List.pairwise_iff_getElem.mpr fun i j hi hj hij => ?_
    simp only [prcls, List.getElem_map, List.getElem_range]
    rw [prcls_len] at hj
    exact prcl_ne h1 h2 hij (by omega)
section
variable {P : Program} {w : World} {K : PySem.W.Frag} {mg : Str → Option Value} {base : Heap}
def nLs : List Str := ["_law_h", "_law_plan_here", "_law_start", "_law_step_here", "_law_parcels", "_law_time", "_law_carried", "_law_shelves", "_law_spot", "_law_size", "_law_k"]
def spState (K : PySem.W.Frag) : Sp := fun vs H Q _ => ∃ (h l p : Addr) (zs : List Int) (rs : List Ro), vs = [.ref h, .ref p] ∧ LawH H h l ∧ PlanAt K H p zs rs ∧ Val zs rs ∧
  ∀ H' s t L, St h l H H' → StateAt K H' s t L → StOk zs rs t L → (-50 ≤ t ∧ t ≤ 1000000000000000) → Q (.ref s) H'
end
end Sv


set_option maxHeartbeats 4000000
namespace Sv
open PySem PySem.Spec PyProof.Rows L2
/-! ### places by parcels -/
def spKV (ks : List Int) (ps : List Addr) : List (Key × V) := (ks.zip ps).map fun x => (Sum.inl x.1, V.ref x.2)
theorem spKV_snoc {ks : List Int} {ps : List Addr} (h : ks.length = ps.length) (k : Int) (p : Addr) : spKV (ks ++ [k]) (ps ++ [p]) = spKV ks ps ++ [(Sum.inl k, V.ref p)] := by
  unfold spKV
  rw [List.zip_append h, List.map_append]
  rfl
theorem spKV_len {ks : List Int} {ps : List Addr} (h : ks.length = ps.length) : (spKV ks ps).length = ks.length := by
  unfold spKV
  rw [List.length_map, List.length_zip]
  omega
theorem spKV_new {ks : List Int} {ps : List Addr} {k : Int} {v : V} (h : k ∉ ks) : putK (spKV ks ps) (Sum.inl k) v = spKV ks ps ++ [(Sum.inl k, v)] := by
  unfold putK
  rw [if_neg]
  intro z
  obtain ⟨kv, hkv, e⟩ := List.any_eq_true.mp z
  unfold spKV at hkv
  obtain ⟨⟨a, b⟩, hab, rfl⟩ := List.mem_map.mp hkv
  have e1 : (Sum.inl a : Key) = Sum.inl k := of_decide_eq_true e
  have e2 : a = k := Sum.inl.inj e1
  exact h (by rw [← e2]; exact (List.of_mem_zip hab).1)
/-- at d the places ts by the parcels ks -/
structure SpotsAt (H : Hp) (d : Addr) (ks : List Int) (ts : List (List V)) : Prop where
  ex : ∃ ps : List Addr, H d = some (.dK (spKV ks ps)) ∧ TupsV H ps ts ∧ ks.length = ps.length
theorem SpotsAt.same {H H' : Hp} {d : Addr} {ks : List Int} {ts : List (List V)} (x : SpotsAt H d ks ts) (e : Same H H') : SpotsAt H' d ks ts := by
  obtain ⟨ps, h1, h2, h3⟩ := x.ex
  exact ⟨ps, e _ _ h1, tupsV_same e h2, h3⟩
theorem SpotsAt.push {H : Hp} {d p : Addr} {ks : List Int} {ts : List (List V)} {k : Int} {t : List V} {kvs : List (Key × V)} (x : SpotsAt H d ks ts) (hd : H d = some (.dK kvs)) (hp : H p = some (.tup t)) (hk : k ∉ ks) :
    SpotsAt (upd H d (.dK (putK kvs (Sum.inl k) (.ref p)))) d (ks ++ [k]) (ts ++ [t]) := by
  obtain ⟨ps, h1, h2, h3⟩ := x.ex
  rw [hd] at h1
  obtain rfl : kvs = spKV ks ps := by injection Option.some.inj h1
  refine ⟨ps ++ [p], by rw [upd_same, spKV_new hk, spKV_snoc h3], tupsV_imp (fun b xs q => ?_) (tupsV_snoc h2 hp), by rw [List.length_append, List.length_append, h3]; rfl⟩
  rw [upd_ne (fun z => by rw [z, hd] at q; cases q)]
  exact q
theorem nodup_take {l : List Int} {i : Nat} {x : Int} (nd : l.Nodup) (h : l[i]? = some x) : x ∉ l.take i := fun m => by
  obtain ⟨j, hj⟩ := List.mem_iff_getElem?.mp m
  have hlt := (List.getElem?_eq_some_iff.mp hj).1
  rw [List.length_take] at hlt
  rw [List.getElem?_take_of_lt (by omega)] at hj
  obtain ⟨h1, e1⟩ := List.getElem?_eq_some_iff.mp h
  obtain ⟨h2, e2⟩ := List.getElem?_eq_some_iff.mp hj
  have := (List.getElem_inj nd).mp (e1.trans e2.symm)
  omega
section
variable {P : Program} {w : World} {K : PySem.W.Frag} {mg : Str → Option Value} {base : Heap}
def nSp : List Str := ["_law_state_here", "_law_found", "_law_carrier", "_law_shelf", "_law_position"]
def spSpots (K : PySem.W.Frag) : Sp := fun vs H Q _ => ∃ (s : Addr) (t : Int) (zs : List Int) (n : Nat) (L : Lay Int), vs = [.ref s] ∧ StateAt K H s t L ∧ Fits n zs L ∧ (join L).Nodup ∧ n ≤ 6 ∧ zs.length ≤ 12 ∧ (∀ z ∈ zs, 0 ≤ z ∧ z ≤ 9) ∧
  ∀ H' d, Same H H' → H d = none → SpotsAt H' d (join L) (placesV zs n) → Q (.ref d) H'
end
end Sv


set_option maxHeartbeats 4000000
namespace Sv
open PySem PySem.Spec PyProof.Rows L2
/-! ### a world of lists -/
def wKV (t : Int) (hc hs : Addr) : List (Key × V) := [(Sum.inr "time", .int t), (Sum.inr "carried", .ref hc), (Sum.inr "shelves", .ref hs)]
theorem wKV_t (t : Int) (hc hs : Addr) : valV (wKV t hc hs) (Sum.inr ("time" : Str)) = some (.int t) := rfl
theorem wKV_c (t : Int) (hc hs : Addr) : valV (wKV t hc hs) (Sum.inr ("carried" : Str)) = some (.ref hc) := rfl
theorem wKV_s (t : Int) (hc hs : Addr) : valV (wKV t hc hs) (Sum.inr ("shelves" : Str)) = some (.ref hs) := rfl
theorem wKV_put (t u : Int) (hc hs : Addr) : putK (wKV t hc hs) (Sum.inr ("time" : Str)) (.int u) = wKV u hc hs := rfl
/-- at w time, carried and shelves as they are now -/
structure W3 (H : Hp) (wa hc hs : Addr) (rw : List Addr) (t : Int) (L : Lay Int) : Prop where
  w : H wa = some (.dK (wKV t hc hs))
  c : H hc = some (.lst (L.1.map V.int))
  s : H hs = some (.lst (rw.map V.ref))
  r : RowL H rw L.2
  nd : rw.Nodup
  hcr : hc ∉ rw
  hsr : hs ∉ rw
  hcs : hc ≠ hs
theorem W3.wc {H : Hp} {wa hc hs : Addr} {rw : List Addr} {t : Int} {L : Lay Int} (x : W3 H wa hc hs rw t L) : wa ≠ hc ∧ wa ≠ hs ∧ wa ∉ rw := by
  refine ⟨fun z => ?_, fun z => ?_, fun m => ?_⟩
  · have := x.c
    rw [← z, x.w] at this
    cases this
  · have := x.s
    rw [← z, x.w] at this
    cases this
  · obtain ⟨xs, e⟩ := rowL_mem x.r m
    rw [x.w] at e
    cases e
theorem W3.same {H H' : Hp} {wa hc hs : Addr} {rw : List Addr} {t : Int} {L : Lay Int} (x : W3 H wa hc hs rw t L) (e : Same H H') : W3 H' wa hc hs rw t L :=
  ⟨e _ _ x.w, e _ _ x.c, e _ _ x.s, rowL_imp (fun q _ o ho => e _ _ ho) x.r, x.nd, x.hcr, x.hsr, x.hcs⟩
/-- all but F stays -/
def Off (F : List Addr) (H H' : Hp) : Prop := ∀ b o, b ∉ F → H b = some o → H' b = some o
theorem Off.refl (F : List Addr) (H : Hp) : Off F H H := fun _ _ _ h => h
theorem Off.trans {F : List Addr} {H H1 H2 : Hp} (a : Off F H H1) (b : Off F H1 H2) : Off F H H2 := fun c o n h => b c o n (a c o n h)
theorem Off.of {F : List Addr} {H H' : Hp} (e : Same H H') : Off F H H' := fun b o _ h => e b o h
theorem Off.upd {F : List Addr} {H : Hp} {p : Addr} {o : HO} (h : p ∈ F) : Off F H (L2.upd H p o) := fun b u n e => by
  rw [upd_ne (fun z : b = p => n (by rw [z]; exact h))]
  exact e
abbrev foot (wa hc : Addr) (rw : List Addr) : List Addr := wa :: hc :: rw
theorem W3.not_tup {H : Hp} {wa hc hs : Addr} {rw : List Addr} {t : Int} {L : Lay Int} (x : W3 H wa hc hs rw t L) {b : Addr} {o : HO} (h : H b = some o) (hl : ∀ xs, o ≠ .lst xs) (hd : ∀ kvs, o ≠ .dK kvs) : b ∉ foot wa hc rw := fun m => by
  rcases List.mem_cons.mp m with z | m
  · rw [z, x.w] at h
    exact hd _ (Option.some.inj h).symm
  rcases List.mem_cons.mp m with z | m
  · rw [z, x.c] at h
    exact hl _ (Option.some.inj h).symm
  · obtain ⟨xs, e⟩ := rowL_mem x.r m
    rw [e] at h
    exact hl _ (Option.some.inj h).symm
theorem sqT_off {K : PySem.W.Frag} {H H' : Hp} {wa hc hs a : Addr} {rw : List Addr} {t : Int} {L : Lay Int} {xs : List V} (x : W3 H wa hc hs rw t L) (e : Off (foot wa hc rw) H H') (s : SqT K H a xs) : SqT K H' a xs := by
  rcases s with (s | ⟨o, s⟩) | s
  · exact .inl (.inl (e _ _ (x.not_tup s (fun _ z => by cases z) (fun _ z => by cases z)) s))
  · exact .inl (.inr ⟨o, e _ _ (x.not_tup s (fun _ z => by cases z) (fun _ z => by cases z)) s⟩)
  · exact .inr s
/-! ### visits one by one -/
def visN (rs : List Ro) (t : Int) (i : Nat) : List (Nat × Nat) := (prs rs t i).map fun p => (p.1, p.2.toNat)
theorem visN_none {rs : List Ro} {t : Int} {i : Nat} {r : Ro} (h : rs[i]? = some r) (e : ent r t = none) : visN rs t (i + 1) = visN rs t i := by
  unfold visN
  conv => lhs; unfold prs
  rw [h]
  simp only [e, List.append_nil]
theorem visN_some {rs : List Ro} {t : Int} {i : Nat} {r : Ro} {z : Int} (h : rs[i]? = some r) (e : ent r t = some z) : visN rs t (i + 1) = visN rs t i ++ [(i, z.toNat)] := by
  unfold visN
  conv => lhs; unfold prs
  rw [h]
  simp only [e, List.map_append]
  rfl
theorem exN_app (ps : List (Nat × Nat)) (p : Nat × Nat) (L : Lay Int) : ∀ k, k ≤ ps.length → exN (ps ++ [p]) L k = exN ps L k
  | 0, _ => rfl
  | k + 1, hk => by
    unfold exN
    rw [exN_app ps p L k (by omega), List.getElem?_append_left (by omega), List.take_append_of_le_length (by omega)]
theorem exL_snoc (ps : List (Nat × Nat)) (p : Nat × Nat) (L : Lay Int) : exL (ps ++ [p]) L = exL ps L ++ [exch (steps ps L) p] := by
  unfold exL
  rw [List.length_append]
  show exN (ps ++ [p]) L (ps.length + 1) = _
  rw [exN_succ (p := p) (by rw [List.getElem?_append_right (Nat.le_refl _), Nat.sub_self]; rfl), exN_app _ _ _ _ (Nat.le_refl _), List.take_append_of_le_length (Nat.le_refl _), List.take_length]
theorem exL_len (ps : List (Nat × Nat)) (L : Lay Int) : (exL ps L).length ≤ ps.length := exN_len _ _ _
theorem visN_len (rs : List Ro) (t : Int) (i : Nat) : (visN rs t i).length ≤ i := by
  unfold visN
  rw [List.length_map]
  have := meetN_len rs t i
  rw [prs_meet, List.length_map] at this
  exact this
section
variable {P : Program} {w : World} {K : PySem.W.Frag} {mg : Str → Option Value} {base : Heap}
/-! ### _law_begun -/
def nBe : List Str := ["_law_state_here", "_law_shelf"]
def spBegun (K : PySem.W.Frag) : Sp := fun vs H Q _ => ∃ (s : Addr) (t : Int) (L : Lay Int), vs = [.ref s] ∧ StateAt K H s t L ∧ L.2.length ≤ 1000 ∧
  ∀ H' wa hc hs rw, Same H H' → W3 H' wa hc hs rw t L → (∀ b ∈ wa :: hc :: hs :: rw, H b = none) → Q (.ref wa) H'
/-! ### _law_seen -/
def nSe : List Str := ["_law_w", "_law_shelf"]
def spSeen (K : PySem.W.Frag) : Sp := fun vs H Q _ => ∃ (wa hc hs : Addr) (rw : List Addr) (t : Int) (L : Lay Int), vs = [.ref wa] ∧ W3 H wa hc hs rw t L ∧ L.2.length ≤ 1000 ∧ NewSt K H t L Q
end
end Sv


set_option maxHeartbeats 4000000
namespace Sv
open PySem PySem.Spec PyProof.Rows L2
section
variable {P : Program} {w : World} {K : PySem.W.Frag} {mg : Str → Option Value} {base : Heap}
/-! ### _law_step -/
def nSt : List Str := ["_law_plan_here", "_law_w", "_law_found", "_law_carrier", "_law_route", "_law_shelf", "_law_parcel"]
def spStep (K : PySem.W.Frag) : Sp := fun vs H Q _ => ∃ (p wa hc hs : Addr) (rw : List Addr) (zs : List Int) (rs : List Ro) (t : Int) (L : Lay Int), vs = [.ref p, .ref wa] ∧ PlanAt K H p zs rs ∧ Val zs rs ∧ W3 H wa hc hs rw t L ∧ Fits rs.length zs L ∧
  ∀ H' x, Off (foot wa hc rw) H H' → W3 H' wa hc hs rw (t + 1) (tickL rs t L) → H x = none → TL H' x (exL (vis rs t) L) → Q (.ref x) H'
end
end Sv


set_option maxHeartbeats 4000000
namespace Sv
open PySem PySem.Spec PyProof.Rows L2
/-! ### states as data -/
def dTi (l : List Int) : PyData := .tuple (l.map PyData.int)
def dSt (t : Int) (L : Lay Int) : PyData := .tuple [.int t, dTi L.1, .tuple (L.2.map dTi)]
theorem dpAll_int {K : PySem.W.Frag} {H : Hp} : ∀ l : List Int, DpAll K H (l.map V.int) (l.map PyData.int)
  | [] => .nil
  | i :: l => .cons (.int i) (dpAll_int l)
theorem dp_ti {K : PySem.W.Frag} {H : Hp} {a : Addr} {l : List Int} (h : SqT K H a (l.map V.int)) : Dp K H (.ref a) (dTi l) := .tup h (dpAll_int l)
theorem dpAll_ti {K : PySem.W.Frag} {H : Hp} : ∀ {qs : List Addr} {ss : List (List Int)}, Paired (fun q s => SqT K H q (s.map V.int)) qs ss → DpAll K H (qs.map V.ref) (ss.map dTi)
  | _, _, .nil => .nil
  | _, _, .cons h t => .cons (dp_ti h) (dpAll_ti t)
theorem dp_state {K : PySem.W.Frag} {H : Hp} {s : Addr} {t : Int} {L : Lay Int} (x : StateAt K H s t L) : Dp K H (.ref s) (dSt t L) := by
  obtain ⟨ca, sh, h1, h2⟩ := x.ex
  obtain ⟨qs, h3, h4⟩ := h2.s
  exact .tup h1 (.cons (.int t) (.cons (dp_ti h2.c) (.cons (.tup h3 (dpAll_ti h4)) .nil)))
theorem okD_i (n : Nat) (i : Int) : okD n (.int i) = true := by cases n <;> rfl
theorem okDs_int (n : Nat) : ∀ l : List Int, okDs n (l.map PyData.int) = true
  | [] => by unfold okDs; rfl
  | i :: l => by
    rw [List.map_cons]
    unfold okDs
    rw [okDs_int n l, Bool.and_true]
    exact okD_i n i
theorem okD_ti {n : Nat} {l : List Int} (h : l.length ≤ 1000) : okD (n + 1) (dTi l) = true := by
  unfold dTi okD
  rw [okDs_int, List.length_map, decide_eq_true h]
  rfl
theorem okDs_ti {n : Nat} : ∀ {ss : List (List Int)}, (∀ s ∈ ss, s.length ≤ 1000) → okDs (n + 1) (ss.map dTi) = true
  | [], _ => by unfold okDs; rfl
  | s :: ss, h => by
    rw [List.map_cons]
    unfold okDs
    rw [okD_ti (h s (List.mem_cons_self ..)), okDs_ti fun x hx => h x (List.mem_cons_of_mem _ hx)]
    rfl
theorem okD_st {n : Nat} {t : Int} {L : Lay Int} (h1 : L.1.length ≤ 1000) (h2 : L.2.length ≤ 1000) (h3 : ∀ s ∈ L.2, s.length ≤ 1000) : okD (n + 3) (dSt t L) = true := by
  have e1 : okD (n + 2) (PyData.int t) = true := okD_i _ t
  have e2 : okD (n + 2) (dTi L.1) = true := okD_ti h1
  have e3 : okD (n + 2) (.tuple (L.2.map dTi)) = true := by
    unfold okD
    rw [okDs_ti h3, List.length_map, decide_eq_true h2]
    rfl
  unfold dSt okD
  have : okDs (n + 2) [PyData.int t, dTi L.1, .tuple (L.2.map dTi)] = true := by
    simp only [okDs, e1, e2, e3]
    rfl
  rw [this]
  rfl
end Sv


set_option maxHeartbeats 4000000
/-! sorted(d), d a dict of ints, any number of them -/
namespace Sv
open PySem PySem.Spec PyProof.Rows L2
def rSortDN : List V → Hp → VK → Prop := fun xs H Q => ∃ (a : Addr) (kvs : List (Key × V)) (ks : List Int), xs = [.ref a] ∧ Rd H a (.dK kvs) ∧ kvs.map (·.1) = ks.map Sum.inl ∧
  ∀ (ys : List Int) (p : Addr), ys.Perm ks → ys.Pairwise (· ≤ ·) → H p = none → Q (.ref p) (upd H p (.lst (ys.map V.int)))
theorem call_sortedDN {X : Cx} (hcalm : X.calm = true) : CallR X (.builtin "sorted") rSortDN := by
  intro pins s σ H xs us Q I r ⟨a, kvs, ks, ex, hd, hks, q⟩
  subst ex
  obtain ⟨u, eu, rx⟩ := vals1 r
  subst eu
  cases rx
  obtain ⟨z, lo, vs, rel, dd⟩ := dk_rd I.hok hd
  obtain ⟨ep, hat⟩ := dd.dictAt
  have hk : vs.map (·.1) = ks.map Sum.inl := rel.keys.symm.trans hks
  have hl : vs.length = ks.length := by simpa using congrArg List.length hk
  have hz : vs.length ≤ sizeLine := by rw [← rel.length]; exact z
  refine Calls.call_function_entry PyProof.Rows.kind_sorted PyProof.Rows.plain_sorted PyProof.Rows.entry_sorted (PyProof.Rows.args_sorted1 _) ?_
  unfold Builtin.«sorted»
  refine wpAny_bind (m := checkCount "sorted" 1 1 _) (wpAny_pure (wpAny_bind (PySem.W.kdu_collect (A := X.A.in1) (PySem.W.kdl_dict (knd := mixKind X.prog X.w) (kvs := vs) (ep := ep) lo) (I.ok.hd hcalm) hat hz fun h' tk acc kp hacc => ?_)))
  have al : acc.toList.length = ks.length := by rw [Array.length_toList, hacc.1, hl]
  have hI : IntsAre acc.toList ks := ints_each al fun j v e => by
    obtain ⟨k, x, e1, e2⟩ := hacc.2 j v (by rw [← Array.getElem?_toList]; exact e)
    have e3 : (vs.map (·.1))[j]? = some k := by rw [List.getElem?_map, e1]; rfl
    rw [hk, List.getElem?_map] at e3
    cases e4 : ks[j]? with
    | none => rw [e4] at e3; cases e3
    | some y =>
      rw [e4] at e3
      obtain rfl : Sum.inl y = k := Option.some.inj e3
      rcases keyIs_shape (show keyIs (Sum.inl y) v = true from e2) with ⟨i, t, ek, ev⟩ | ⟨z, t, ek, ev⟩
      · cases ek
        exact ⟨y, t, rfl, ev⟩
      · cases ek
  have I1 : Inv X pins σ H { s with heap := h', toks := tk } := I.kept kp
  refine wpAny_bind (wpAny_newList ?_ (by rw [al, ← hl]; exact hz))
  have hoL : (h'.push (seqObj "list" acc.toList.toArray 0)).get? h'.objs.size = some (seqObj "list" acc.toList.toArray 0) := Heap.get?_push_size _ rfl
  show wpAny _ _ _ _ _ { s with heap := h'.push (seqObj "list" acc.toList.toArray 0), toks := tk }
  refine wpAny_bind (wpAny_holding (wpAny_call_entry PyProof.Rows.slot_list_sort ⟨_, hoL, rfl⟩ PyProof.Rows.entry_list_sort
    (SrtO.list_sort_ord SrtO.swo_int hoL (by rw [al, ← hl]; exact hz) (fun h2 => SrtO.ints_sortable hI h2) fun out g1 g2 => ⟨_, rfl, ?_⟩) (PyProof.Rows.args_list_sort _)))
  obtain ⟨k1, k2, k3⟩ := SrtO.ints_out hI g1 g2
  obtain ⟨e', he'⟩ := PyProof.Rows.sortedHeap_at (vs := acc.toList) (out := out.toArray) hoL
  have hlen : ((out.map SrtO.iv).map V.int).length ≤ sizeLine := by
    rw [List.length_map, k2.length_eq, ← hl]
    exact hz
  refine wpAny_pure ⟨_, rfl, .ref h'.objs.size, upd H h'.objs.size (.lst ((out.map SrtO.iv).map V.int)), I1.laid (t' := tk) (fun b u e => ?_) (Nat.le_refl _) (show ObjOk X.prog X.w _ _ _ (.lst ((out.map SrtO.iv).map V.int)) from ⟨hlen, out, e', vals_of_ints k1, he'⟩), rfl, q _ _ k2 k3 (I1.hok.fresh (Nat.le_refl _))⟩
  have hb : b < h'.objs.size := Heap.lt_size e
  rw [PyProof.Rows.sortedHeap_old (Nat.ne_of_lt hb) (by rw [size_push']; exact Nat.lt_succ_of_lt hb)]
  exact Heap.get?_push_of_some _ e
end Sv


set_option maxHeartbeats 1000000
/-! layouts after any number of ticks, the mathematics alone -/
namespace Sv
/-- all things moved -/
def moveA {α : Type} (d : α) (e : List Nat) (cs : List α) : List α := (inv e).map fun i => cs.getD i d
theorem moveA_len {α : Type} (d : α) (e : List Nat) (cs : List α) : (moveA d e cs).length = e.length := by unfold moveA; rw [List.length_map, inv_len]
theorem getD_map {α : Type} (d : α) (f : Nat → α) {l : List Nat} {i : Nat} (h : i < l.length) : (l.map f).getD i d = f (ap l i) := by
  rw [List.getD_eq_getElem?_getD, List.getElem?_map, ap_at h]
  rfl
theorem moveA_at {α : Type} (d : α) {e : List Nat} (E : Eff e) {cs : List α} (hl : cs.length = e.length) {i : Nat} (hi : i < e.length) : (moveA d e cs)[ap e i]? = cs[i]? := by
  unfold moveA
  rw [List.getElem?_map, ap_at (by rw [inv_len]; exact ap_lt E hi), inv_ap E hi, Option.map_some, List.getD_eq_getElem?_getD, List.getElem?_eq_getElem (by omega)]
  rfl
theorem moveA_comp {α : Type} (d : α) {a b : List Nat} (A : Eff a) (B : Eff b) (hl : a.length = b.length) (cs : List α) : moveA d b (moveA d a cs) = moveA d (comp a b) cs := by
  unfold moveA
  rw [inv_comp A B hl]
  unfold comp
  rw [List.map_map]
  refine List.map_congr_left fun q hq => ?_
  have h1 : q < (inv a).length := by
    rw [inv_len, hl]
    have := (inv_eff B).1 q hq
    rwa [inv_len] at this
  exact getD_map d _ h1
theorem moveA_range {α : Type} (d : α) (cs : List α) : moveA d (List.range cs.length) cs = cs := by
  unfold moveA
  rw [inv_range, map_getD]
section
variable {α : Type} (d : α) (zs : List Int) (rs : List Ro)
/-- a layout of the time t after c ticks -/
noncomputable def advA (t c : Int) (L : Lay α) : Lay α := spl rs.length zs (moveA d (effT rs.length zs rs t c) (join L))
theorem advA_fits (t c : Int) (L : Lay α) : Fits rs.length zs (advA d zs rs t c L) := spl_fits (by rw [moveA_len, effT_len])
theorem join_advA (t c : Int) (L : Lay α) : join (advA d zs rs t c L) = moveA d (effT rs.length zs rs t c) (join L) := join_spl (by rw [moveA_len, effT_len])
variable {rs}
variable (h : ∀ r ∈ rs, r ≠ []) (hp : 1 ≤ lc rs)
include h hp
theorem advA_add (t a b : Int) (L : Lay α) : advA d zs rs (t + a) b (advA d zs rs t a L) = advA d zs rs t (a + b) L := by
  unfold advA
  have e1 := join_advA d zs rs t a L
  unfold advA at e1
  rw [e1, moveA_comp d (effT_eff ..) (effT_eff ..) (by rw [effT_len, effT_len]), effT_add rs.length zs h hp]
theorem advA_zero (t : Int) {L : Lay α} (hf : Fits rs.length zs L) : advA d zs rs t 0 L = L := by
  unfold advA
  rw [effT_zero rs.length zs h hp, ← join_len hf, moveA_range, spl_join hf]
theorem advA_nat (t : Int) (k : Nat) {L : Lay α} (hf : Fits rs.length zs L) : advA d zs rs t (k : Nat) L = run rs t k L := by
  unfold advA
  rw [effT_nat rs.length zs h hp]
  unfold fwd moveA
  rw [inv_inv (org_eff ..), ← run_org d hf, spl_join (run_fits rs t k hf)]
theorem advA_one (t : Int) {L : Lay α} (hf : Fits rs.length zs L) : advA d zs rs t 1 L = tickL rs t L := by
  have := advA_nat d zs h hp t 1 hf
  rw [show ((1 : Nat) : Int) = 1 from rfl] at this
  rw [this]
  show tickL rs (t + ((0 : Nat) : Int)) L = _
  congr 1
  omega
/-- from one of the states of a run to another -/
theorem advA_run (t : Int) (i j : Nat) {L : Lay α} (hf : Fits rs.length zs L) : advA d zs rs (t + (i : Nat)) ((j : Int) - (i : Nat)) (run rs t i L) = run rs t j L := by
  rw [← advA_nat d zs h hp t i hf, advA_add d zs h hp, ← advA_nat d zs h hp t j hf]
  congr 1
  omega
end
end Sv


set_option maxHeartbeats 4000000
namespace Sv
open PySem PySem.Spec PyProof.Rows L2
/-! ### what the program's functions of movement do where all is valid -/
/-- a valid plan, one of its states -/
structure PS0 (K : PySem.W.Frag) (H : Hp) (p s : Addr) (zs : List Int) (rs : List Ro) (t : Int) (L : Lay Int) : Prop where
  p : PlanAt K H p zs rs
  v : Val zs rs
  s : StateAt K H s t L
  o : StOk zs rs t L
theorem PS0.imp {K : PySem.W.Frag} {H H' : Hp} {p s : Addr} {zs : List Int} {rs : List Ro} {t : Int} {L : Lay Int} (x : PS0 K H p s zs rs t L) (e : ∀ a xs, SqT K H a xs → SqT K H' a xs) : PS0 K H' p s zs rs t L := by
  obtain ⟨a, b, h1, h2, h3⟩ := x.p.ex
  obtain ⟨qs, h4, h5⟩ := h3.ex
  exact ⟨⟨a, b, e _ _ h1, e _ _ h2, qs, e _ _ h4, paired_imp (K := K) e h5⟩, x.v, x.s.imp e, x.o⟩
theorem plan_imp {K : PySem.W.Frag} {H H' : Hp} {p : Addr} {zs : List Int} {rs : List Ro} (x : PlanAt K H p zs rs) (e : ∀ a xs, SqT K H a xs → SqT K H' a xs) : PlanAt K H' p zs rs := by
  obtain ⟨a, b, h1, h2, h3⟩ := x.ex
  obtain ⟨qs, h4, h5⟩ := h3.ex
  exact ⟨a, b, e _ _ h1, e _ _ h2, qs, e _ _ h4, paired_imp (K := K) e h5⟩
def vAdvance (K : PySem.W.Frag) : Sp := fun vs H Q _ => ∃ (p s : Addr) (zs : List Int) (rs : List Ro) (t c : Int) (L : Lay Int), vs = [.ref p, .ref s, .int c] ∧ PS0 K H p s zs rs t L ∧ CtOk c ∧
  ∀ H' s', Same H H' → StateAt K H' s' (t + c) (advA 0 zs rs t c L) → Q (.ref s') H'
def vLocate (K : PySem.W.Frag) : Sp := fun vs H Q _ => ∃ (p s : Addr) (zs : List Int) (rs : List Ro) (t x c : Int) (L : Lay Int), vs = [.ref p, .ref s, .int x, .int c] ∧ PS0 K H p s zs rs t L ∧ x ∈ join L ∧ CtOk c ∧
  ∀ H' u (i : Nat) pl, Same H H' → (join (advA 0 zs rs t c L))[i]? = some x → (placesV zs rs.length)[i]? = some pl → SqT K H' u pl → Q (.ref u) H'
def vParcelAt (K : PySem.W.Frag) : Sp := fun vs H Q _ => ∃ (p s u : Addr) (zs : List Int) (rs : List Ro) (t c : Int) (L : Lay Int) (i : Nat) (pl : List V), vs = [.ref p, .ref s, .ref u, .int c] ∧ PS0 K H p s zs rs t L ∧ SqT K H u pl ∧ (placesV zs rs.length)[i]? = some pl ∧ CtOk c ∧
  ∀ H' x, Same H H' → (join (advA 0 zs rs t c L))[i]? = some x → Q (.int x) H'
/-! ### short ways into the law's own defs -/
@[irreducible] def qPlanG (K : PySem.W.Frag) : Sp := spPlanG K
@[irreducible] def qState (K : PySem.W.Frag) : Sp := spState K
@[irreducible] def qBegun (K : PySem.W.Frag) : Sp := spBegun K
@[irreducible] def qSeen (K : PySem.W.Frag) : Sp := spSeen K
@[irreducible] def qStep (K : PySem.W.Frag) : Sp := spStep K
@[irreducible] def qSpots (K : PySem.W.Frag) : Sp := spSpots K
@[irreducible] def qAlike (K : PySem.W.Frag) : Sp := spAlike K 6
@[irreducible] def qAdvance (K : PySem.W.Frag) : Sp := vAdvance K
@[irreducible] def qLocate (K : PySem.W.Frag) : Sp := vLocate K
@[irreducible] def qParcelAt (K : PySem.W.Frag) : Sp := vParcelAt K
section
variable {K : PySem.W.Frag} {H : Hp} {Q : VK} {E : XK}
theorem go_planG {h l : Addr} {ns nc : Int} (L : LawH H h l) (h1 : 1 ≤ ns ∧ ns ≤ 12) (h2 : 1 ≤ nc ∧ nc ≤ 6) (q : ∀ H' p zs rs, St h l H H' → PlanAt K H' p zs rs → Val zs rs → (zs.length : Int) ≤ ns → (rs.length : Int) ≤ nc → Q (.ref p) H') : qPlanG K [.ref h, .int ns, .int nc] H Q E := by
  unfold qPlanG
  exact ⟨h, l, ns, nc, rfl, L, h1, h2, q⟩
theorem go_state {h l p : Addr} {zs : List Int} {rs : List Ro} (L : LawH H h l) (hp : PlanAt K H p zs rs) (hv : Val zs rs) (q : ∀ H' s t L, St h l H H' → StateAt K H' s t L → StOk zs rs t L → (-50 ≤ t ∧ t ≤ 1000000000000000) → Q (.ref s) H') : qState K [.ref h, .ref p] H Q E := by
  unfold qState
  exact ⟨h, l, p, zs, rs, rfl, L, hp, hv, q⟩
theorem go_begun {s : Addr} {t : Int} {L : Lay Int} (hs : StateAt K H s t L) (hl : L.2.length ≤ 1000) (q : ∀ H' wa hc hs rw, Same H H' → W3 H' wa hc hs rw t L → (∀ b ∈ wa :: hc :: hs :: rw, H b = none) → Q (.ref wa) H') : qBegun K [.ref s] H Q E := by
  unfold qBegun
  exact ⟨s, t, L, rfl, hs, hl, q⟩
theorem go_seen {wa hc hs : Addr} {rw : List Addr} {t : Int} {L : Lay Int} (W : W3 H wa hc hs rw t L) (hl : L.2.length ≤ 1000) (q : NewSt K H t L Q) : qSeen K [.ref wa] H Q E := by
  unfold qSeen
  exact ⟨wa, hc, hs, rw, t, L, rfl, W, hl, q⟩
theorem go_step {p wa hc hs : Addr} {rw : List Addr} {zs : List Int} {rs : List Ro} {t : Int} {L : Lay Int} (hp : PlanAt K H p zs rs) (hv : Val zs rs) (W : W3 H wa hc hs rw t L) (hf : Fits rs.length zs L)
    (q : ∀ H' x, Off (foot wa hc rw) H H' → W3 H' wa hc hs rw (t + 1) (tickL rs t L) → H x = none → TL H' x (exL (vis rs t) L) → Q (.ref x) H') : qStep K [.ref p, .ref wa] H Q E := by
  unfold qStep
  exact ⟨p, wa, hc, hs, rw, zs, rs, t, L, rfl, hp, hv, W, hf, q⟩
theorem go_spots {s : Addr} {t : Int} {zs : List Int} {rs : List Ro} {L : Lay Int} (hs : StateAt K H s t L) (hv : Val zs rs) (hf : Fits rs.length zs L) (nd : (join L).Nodup) (q : ∀ H' d, Same H H' → H d = none → SpotsAt H' d (join L) (placesV zs rs.length) → Q (.ref d) H') : qSpots K [.ref s] H Q E := by
  unfold qSpots
  exact ⟨s, t, zs, rs.length, L, rfl, hs, hf, nd, hv.r1.2, hv.z1.2, hv.z2, q⟩
theorem go_alike {x y : V} {d : PyData} (h1 : Dp K H x d) (h2 : Dp K H y d) (o : okD 6 d = true) (q : ∀ H', Same H H' → Q (.bl true) H') : qAlike K [x, y] H Q E := by
  unfold qAlike
  exact ⟨x, y, d, rfl, h1, h2, o, q⟩
theorem go_advance {p s : Addr} {zs : List Int} {rs : List Ro} {t c : Int} {L : Lay Int} (x : PS0 K H p s zs rs t L) (hc : CtOk c) (q : ∀ H' s', Same H H' → StateAt K H' s' (t + c) (advA 0 zs rs t c L) → Q (.ref s') H') : qAdvance K [.ref p, .ref s, .int c] H Q E := by
  unfold qAdvance
  exact ⟨p, s, zs, rs, t, c, L, rfl, x, hc, q⟩
theorem go_locate {p s : Addr} {zs : List Int} {rs : List Ro} {t x c : Int} {L : Lay Int} (y : PS0 K H p s zs rs t L) (hx : x ∈ join L) (hc : CtOk c)
    (q : ∀ H' u (i : Nat) pl, Same H H' → (join (advA 0 zs rs t c L))[i]? = some x → (placesV zs rs.length)[i]? = some pl → SqT K H' u pl → Q (.ref u) H') : qLocate K [.ref p, .ref s, .int x, .int c] H Q E := by
  unfold qLocate
  exact ⟨p, s, zs, rs, t, x, c, L, rfl, y, hx, hc, q⟩
theorem go_parcelAt {p s u : Addr} {zs : List Int} {rs : List Ro} {t c : Int} {L : Lay Int} {i : Nat} {pl : List V} (y : PS0 K H p s zs rs t L) (hu : SqT K H u pl) (hi : (placesV zs rs.length)[i]? = some pl) (hc : CtOk c)
    (q : ∀ H' x, Same H H' → (join (advA 0 zs rs t c L))[i]? = some x → Q (.int x) H') : qParcelAt K [.ref p, .ref s, .ref u, .int c] H Q E := by
  unfold qParcelAt
  exact ⟨p, s, u, zs, rs, t, c, L, i, pl, rfl, y, hu, hi, hc, q⟩
end
/-! ### what the source's owner keeps in mind -/
theorem sqT_st {K : PySem.W.Frag} {h l : Addr} {H H' : Hp} (L : LawH H h l) (S : St h l H H') : ∀ a xs, SqT K H a xs → SqT K H' a xs := fun a xs s => sqT_x L S.k s
theorem sqT_s {K : PySem.W.Frag} {H H' : Hp} (e : Same H H') : ∀ a xs, SqT K H a xs → SqT K H' a xs := fun _ _ => sqT_same e
/-- states behind ticks are valid, too -/
theorem moveA_mem {d : Int} {e : List Nat} (E : Eff e) {cs : List Int} (hl : cs.length = e.length) : (moveA d e cs).Perm cs := by
  have p1 : (inv e).Perm (List.range cs.length) := by
    have I := inv_eff E
    have il := inv_len e
    refine (List.perm_ext_iff_of_nodup I.2 List.nodup_range).mpr fun x => ⟨fun hx => ?_, fun hx => ?_⟩
    · have := I.1 x hx
      exact List.mem_range.mpr (by omega)
    · have hx' := List.mem_range.mp hx
      have h1 := ap_at (e := inv e) (x := ap e x) (by rw [il]; exact ap_lt E (by omega))
      rw [inv_ap E (by omega)] at h1
      exact List.mem_of_getElem? h1
  have := p1.map fun i => cs.getD i d
  rw [map_getD d cs] at this
  exact this
theorem okP_perm {a b : List Int} (p : a.Perm b) (h : OkP b) : OkP a := ⟨fun x hx => h.1 x (p.mem_iff.mp hx), p.nodup_iff.mpr h.2⟩
theorem advA_perm {zs : List Int} {rs : List Ro} (t c : Int) {L : Lay Int} (hf : Fits rs.length zs L) : (join (advA 0 zs rs t c L)).Perm (join L) := by
  rw [join_advA]
  exact moveA_mem (effT_eff ..) (by rw [join_len hf, effT_len])
theorem advA_ok {zs : List Int} {rs : List Ro} {t c : Int} {L : Lay Int} (o : StOk zs rs t L) (h : TimeOk (t + c)) : StOk zs rs (t + c) (advA 0 zs rs t c L) :=
  ⟨h, advA_fits .., okP_perm (advA_perm t c o.f) o.p⟩
theorem Val.rne {zs : List Int} {rs : List Ro} (v : Val zs rs) : ∀ r ∈ rs, r ≠ [] := fun r hr => (v.ne r hr).1
theorem Val.lc1 {zs : List Int} {rs : List Ro} (v : Val zs rs) : 1 ≤ lc rs := (lc_le v.r2).1
theorem run_ok {zs : List Int} {rs : List Ro} {t : Int} {L : Lay Int} (v : Val zs rs) (o : StOk zs rs t L) (k : Nat) (h : TimeOk (t + (k : Nat))) : StOk zs rs (t + (k : Nat)) (run rs t k L) := by
  rw [← advA_nat 0 zs v.rne v.lc1 t k o.f]
  exact advA_ok o h
theorem placesV_len (zs : List Int) (n : Nat) (h : ∀ z ∈ zs, 0 ≤ z) : (placesV zs n).length = n + sumN zs := by
  unfold placesV
  rw [List.length_append, carV_len]
  congr 1
  have : ∀ k, k ≤ zs.length → (shN zs k).length = sumN (zs.take k) := by
    intro k
    induction k with
    | zero => intro _; rfl
    | succ k ih =>
      intro hk
      unfold shN
      rw [List.length_append, ih (by omega), posV_len]
      have g : zs[k]? = some zs[k] := List.getElem?_eq_getElem (by omega)
      rw [List.take_add_one, g, List.getD_eq_getElem?_getD, g]
      show sumN (zs.take k) + zs[k].toNat = sumN (zs.take k ++ [zs[k]])
      rw [sumN_snoc]
  have := this zs.length (Nat.le_refl _)
  rw [List.take_length] at this
  exact this
end Sv


set_option maxHeartbeats 4000000
namespace Sv
open PySem PySem.Spec PyProof.Rows L2
theorem LawH.off {h l : Addr} {F : List Addr} {H H' : Hp} (L : LawH H h l) (hh : h ∉ F) (hl : l ∉ F) (e : Off F H H') : LawH H' h l := by
  obtain ⟨m, i, cs, e1, e2, e3⟩ := L.ex
  exact ⟨m, i, cs, e _ _ hh e1, e _ _ hl e2, e3⟩
theorem LawH.nn {h l b : Addr} {H : Hp} (L : LawH H h l) (hb : H b = none) : h ≠ b ∧ l ≠ b := by
  obtain ⟨m, i, cs, e1, e2, e3⟩ := L.ex
  exact ⟨ne_of_none e1 hb, ne_of_none e2 hb⟩
/-- another list of ours is changed -/
theorem W3.upd {H : Hp} {wa hc hs f : Addr} {rw : List Addr} {t : Int} {L : Lay Int} {o : HO} (x : W3 H wa hc hs rw t L) (h1 : f ∉ foot wa hc rw) (h2 : f ≠ hs) : W3 (L2.upd H f o) wa hc hs rw t L := by
  have n1 : wa ≠ f := fun z => h1 (by rw [← z]; exact List.mem_cons_self ..)
  have n2 : hc ≠ f := fun z => h1 (by rw [← z]; exact List.mem_cons_of_mem _ (List.mem_cons_self ..))
  have n3 : ∀ q ∈ rw, q ≠ f := fun q hq z => h1 (by rw [← z]; exact List.mem_cons_of_mem _ (List.mem_cons_of_mem _ hq))
  exact ⟨by rw [upd_ne n1]; exact x.w, by rw [upd_ne n2]; exact x.c, by rw [upd_ne (Ne.symm h2)]; exact x.s, rowL_imp (fun q hq o ho => by rw [upd_ne (n3 q hq)]; exact ho) x.r, x.nd, x.hcr, x.hsr, x.hcs⟩
theorem W3.new {H : Hp} {wa hc hs f : Addr} {rw : List Addr} {t : Int} {L : Lay Int} (x : W3 H wa hc hs rw t L) (h : H f = none) : f ∉ foot wa hc rw ∧ f ≠ hs := by
  refine ⟨fun m => ?_, fun z => by rw [z, x.s] at h; cases h⟩
  rcases List.mem_cons.mp m with z | m
  · rw [z, x.w] at h
    cases h
  rcases List.mem_cons.mp m with z | m
  · rw [z, x.c] at h
    cases h
  · exact rowL_free x.r h m
/-! ### exchanges as data -/
def exI (L : Lay Int) (p : Nat × Nat) : List Int := [(p.1 : Nat), (p.2 : Nat), L.1.getD p.1 0, (L.2.getD p.2 []).headD (L.1.getD p.1 0)]
theorem exch_I (L : Lay Int) (p : Nat × Nat) : exch L p = (exI L p).map V.int := rfl
theorem exN_I (ps : List (Nat × Nat)) (L : Lay Int) : ∀ k, ∃ is : List (List Int), exN ps L k = is.map (List.map V.int) ∧ (∀ r ∈ is, r.length = 4) ∧ is.length ≤ k
  | 0 => ⟨[], rfl, fun r hr => (List.not_mem_nil hr).elim, Nat.le_refl _⟩
  | k + 1 => by
    obtain ⟨is, e1, e2, e3⟩ := exN_I ps L k
    unfold exN
    cases ps[k]? with
    | none => exact ⟨is, by rw [e1]; simp, e2, by omega⟩
    | some p =>
      refine ⟨is ++ [exI (steps (ps.take k) L) p], by rw [e1, List.map_append]; rfl, fun r hr => ?_, by rw [List.length_append]; simp; omega⟩
      rcases List.mem_append.mp hr with hr | hr
      · exact e2 r hr
      · rw [List.mem_singleton.mp hr]
        rfl
theorem dp_tl {K : PySem.W.Frag} {H : Hp} {x : Addr} {is : List (List Int)} (h : TL H x (is.map (List.map V.int))) : Dp K H (.ref x) (.list (is.map dTi)) := by
  obtain ⟨ps, h1, h2⟩ := h.ex
  refine .lst (.inl (.inl h1)) ?_
  have key : ∀ (ps : List Addr) (is : List (List Int)), TupsV H ps (is.map (List.map V.int)) → DpAll K H (ps.map V.ref) (is.map dTi) := by
    intro ps
    induction ps with
    | nil =>
      intro is h
      cases is with
      | nil => exact .nil
      | cons => cases h
    | cons p ps ih =>
      intro is h
      cases is with
      | nil => cases h
      | cons i is =>
        cases h with
        | cons a b => exact .cons (dp_ti (.inl (.inl a))) (ih is b)
  exact key ps is h2
theorem okD_l {n : Nat} {ds : List PyData} (h : ds.length ≤ 1000) (o : okDs n ds = true) : okD (n + 1) (.list ds) = true := by
  unfold okD
  rw [o, decide_eq_true h]
  rfl
theorem okD_t {n : Nat} {ds : List PyData} (h : ds.length ≤ 1000) (o : okDs n ds = true) : okD (n + 1) (.tuple ds) = true := by
  unfold okD
  rw [o, decide_eq_true h]
  rfl
theorem okDs_2 {n : Nat} {a b : PyData} (h1 : okD n a = true) (h2 : okD n b = true) : okDs n [a, b] = true := by
  simp only [okDs, h1, h2]
  rfl
/-! ### places as data -/
def vD : V → PyData
  | .int i => .int i
  | .str x => .str x
  | .bl b => .bool b
  | _ => .none
def flI : V → Bool
  | .int _ => true
  | .str _ => true
  | _ => false
theorem dpAll_fl {K : PySem.W.Frag} {H : Hp} : ∀ {pl : List V}, (∀ v ∈ pl, flI v = true) → DpAll K H pl (pl.map vD)
  | [], _ => .nil
  | v :: pl, h => by
    have h1 := h v (List.mem_cons_self ..)
    have h2 := dpAll_fl (K := K) (H := H) fun x hx => h x (List.mem_cons_of_mem v hx)
    cases v with
    | int i => exact .cons (.int i) h2
    | str x => exact .cons (.str x) h2
    | _ => cases h1
theorem okDs_fl {n : Nat} : ∀ {pl : List V}, okDs n (pl.map vD) = true
  | [] => by unfold okDs; rfl
  | v :: pl => by
    rw [List.map_cons]
    unfold okDs
    rw [okDs_fl, Bool.and_true]
    cases v <;> cases n <;> rfl
theorem placesV_fl {zs : List Int} {n : Nat} : ∀ pl ∈ placesV zs n, (∀ v ∈ pl, flI v = true) ∧ pl.length ≤ 3 := by
  intro pl h
  unfold placesV at h
  rcases List.mem_append.mp h with h | h
  · unfold carV at h
    obtain ⟨c, _, rfl⟩ := List.mem_map.mp h
    exact ⟨fun v hv => by
      rcases List.mem_cons.mp hv with z | hv
      · rw [z]; rfl
      · rw [List.mem_singleton.mp hv]; rfl, by show 2 ≤ 3; decide⟩
  · have key : ∀ k, ∀ pl ∈ shN zs k, (∀ v ∈ pl, flI v = true) ∧ pl.length ≤ 3 := by
      intro k
      induction k with
      | zero => intro pl h; cases h
      | succ k ih =>
        intro pl h
        unfold shN at h
        rcases List.mem_append.mp h with h | h
        · exact ih pl h
        · unfold posV at h
          obtain ⟨c, _, rfl⟩ := List.mem_map.mp h
          exact ⟨fun v hv => by
            rcases List.mem_cons.mp hv with z | hv
            · rw [z]; rfl
            rcases List.mem_cons.mp hv with z | hv
            · rw [z]; rfl
            · rw [List.mem_singleton.mp hv]; rfl, by show 3 ≤ 3; decide⟩
    exact key _ pl h
theorem dp_place {K : PySem.W.Frag} {H : Hp} {u : Addr} {zs : List Int} {n i : Nat} {pl : List V} (h : SqT K H u pl) (e : (placesV zs n)[i]? = some pl) : Dp K H (.ref u) (.tuple (pl.map vD)) := .tup h (dpAll_fl (placesV_fl pl (List.mem_of_getElem? e)).1)
theorem okD_place {zs : List Int} {n i m : Nat} {pl : List V} (e : (placesV zs n)[i]? = some pl) : okD (m + 1) (.tuple (pl.map vD)) = true := by
  have := (placesV_fl pl (List.mem_of_getElem? e)).2
  exact okD_t (by rw [List.length_map]; omega) okDs_fl
/-! ### the place of a parcel in a dict -/
theorem spKV_get : ∀ {ks : List Int} {ps : List Addr} {i : Nat} {x : Int} {u : Addr}, ks.Nodup → ks[i]? = some x → ps[i]? = some u → valV (spKV ks ps) (Sum.inl x) = some (.ref u)
  | [], _, i, _, _, _, e, _ => by simp at e
  | _ :: _, [], i, _, _, _, _, e => by simp at e
  | k :: ks, p :: ps, 0, x, u, nd, e1, e2 => by
    obtain rfl := Option.some.inj e1
    obtain rfl := Option.some.inj e2
    exact valV_pos rfl
  | k :: ks, p :: ps, i + 1, x, u, nd, e1, e2 => by
    have e1' : ks[i]? = some x := by simpa using e1
    have hne : ¬ (Sum.inl k : Key) = Sum.inl x := fun z => by
      have z := Sum.inl.inj z
      exact (List.nodup_cons.mp nd).1 (by rw [z]; exact List.mem_of_getElem? e1')
    show valV ((Sum.inl k, V.ref p) :: spKV ks ps) (Sum.inl x) = _
    rw [valV_neg (p := (Sum.inl k, V.ref p)) hne]
    exact spKV_get (List.nodup_cons.mp nd).2 e1' (by simpa using e2)
theorem spKV_keys {ks : List Int} {ps : List Addr} (h : ks.length = ps.length) : (spKV ks ps).map (·.1) = ks.map Sum.inl := by
  unfold spKV
  rw [List.map_map]
  show (ks.zip ps).map (Sum.inl ∘ Prod.fst) = _
  rw [← List.map_map, List.map_fst_zip (by omega)]
theorem nodup_ix {l : List Int} {i j : Nat} {x : Int} (nd : l.Nodup) (h1 : l[i]? = some x) (h2 : l[j]? = some x) : i = j := by
  obtain ⟨a, e1⟩ := List.getElem?_eq_some_iff.mp h1
  obtain ⟨b, e2⟩ := List.getElem?_eq_some_iff.mp h2
  exact (List.getElem_inj nd).mp (e1.trans e2.symm)
end Sv


set_option maxHeartbeats 4000000
namespace Sv
open PySem PySem.Spec PyProof.Rows L2
/-! ### data that is equal just where it is the same -/
mutual
/-- no bools, no dicts; texts that can lie anywhere -/
def pld : PyData → Bool
  | .none => true
  | .int _ => true
  | .str x => PyData.canLay0 (.str x)
  | .list xs => pldAll xs
  | .tuple xs => pldAll xs
  | _ => false
def pldAll : List PyData → Bool
  | [] => true
  | d :: ds => pld d && pldAll ds
end
mutual
theorem eqv_pld : ∀ a b : PyData, pld a = true → pld b = true → (PyData.eqv a b = true ↔ a = b)
  | .none, .none, _, _ => by simp [PyData.eqv]
  | .none, .int _, _, _ => by simp [PyData.eqv]
  | .none, .str _, _, _ => by simp [PyData.eqv]
  | .none, .list _, _, _ => by simp [PyData.eqv]
  | .none, .tuple _, _, _ => by simp [PyData.eqv]
  | .int i, .none, _, _ => by simp [PyData.eqv]
  | .int i, .int j, _, _ => by simp [PyData.eqv]
  | .int i, .str _, _, _ => by simp [PyData.eqv]
  | .int i, .list _, _, _ => by simp [PyData.eqv]
  | .int i, .tuple _, _, _ => by simp [PyData.eqv]
  | .str x, .none, _, _ => by simp [PyData.eqv]
  | .str x, .int _, _, _ => by simp [PyData.eqv]
  | .str x, .str y, _, _ => by simp [PyData.eqv]
  | .str x, .list _, _, _ => by simp [PyData.eqv]
  | .str x, .tuple _, _, _ => by simp [PyData.eqv]
  | .list x, .none, _, _ => by simp [PyData.eqv]
  | .list x, .int _, _, _ => by simp [PyData.eqv]
  | .list x, .str _, _, _ => by simp [PyData.eqv]
  | .list x, .tuple _, _, _ => by simp [PyData.eqv]
  | .list x, .list y, h1, h2 => by
    unfold pld at h1 h2
    rw [PyData.eqv, eqv_pldAll x y h1 h2]
    exact ⟨fun e => by rw [e], fun e => by injection e⟩
  | .tuple x, .none, _, _ => by simp [PyData.eqv]
  | .tuple x, .int _, _, _ => by simp [PyData.eqv]
  | .tuple x, .str _, _, _ => by simp [PyData.eqv]
  | .tuple x, .list _, _, _ => by simp [PyData.eqv]
  | .tuple x, .tuple y, h1, h2 => by
    unfold pld at h1 h2
    rw [PyData.eqv, eqv_pldAll x y h1 h2]
    exact ⟨fun e => by rw [e], fun e => by injection e⟩
  | .bool _, _, h, _ => by simp [pld] at h
  | .dict _, _, h, _ => by simp [pld] at h
  | .none, .bool _, _, h => by simp [pld] at h
  | .none, .dict _, _, h => by simp [pld] at h
  | .int _, .bool _, _, h => by simp [pld] at h
  | .int _, .dict _, _, h => by simp [pld] at h
  | .str _, .bool _, _, h => by simp [pld] at h
  | .str _, .dict _, _, h => by simp [pld] at h
  | .list _, .bool _, _, h => by simp [pld] at h
  | .list _, .dict _, _, h => by simp [pld] at h
  | .tuple _, .bool _, _, h => by simp [pld] at h
  | .tuple _, .dict _, _, h => by simp [pld] at h
theorem eqv_pldAll : ∀ a b : List PyData, pldAll a = true → pldAll b = true → (PyData.eqvAll a b = true ↔ a = b)
  | [], [], _, _ => by simp [PyData.eqvAll]
  | [], _ :: _, _, _ => by simp [PyData.eqvAll]
  | _ :: _, [], _, _ => by simp [PyData.eqvAll]
  | x :: a, y :: b, h1, h2 => by
    unfold pldAll at h1 h2
    rw [Bool.and_eq_true] at h1 h2
    rw [PyData.eqvAll, Bool.and_eq_true, eqv_pld x y h1.1 h2.1, eqv_pldAll a b h1.2 h2.2, List.cons.injEq]
end
mutual
theorem can_pld : ∀ a : PyData, pld a = true → PyData.canLay0 a = true
  | .none, _ => by simp [PyData.canLay0]
  | .int _, _ => by simp [PyData.canLay0]
  | .str x, h => by unfold pld at h; exact h
  | .list x, h => by
    unfold pld at h
    rw [PyData.canLay0]
    exact can_pldAll x h
  | .tuple x, h => by
    unfold pld at h
    rw [PyData.canLay0]
    exact can_pldAll x h
  | .bool _, h => by simp [pld] at h
  | .dict _, h => by simp [pld] at h
theorem can_pldAll : ∀ a : List PyData, pldAll a = true → PyData.canLayAll0 a = true
  | [], _ => by simp [PyData.canLayAll0]
  | x :: a, h => by
    unfold pldAll at h
    rw [Bool.and_eq_true] at h
    rw [PyData.canLayAll0, can_pld x h.1, can_pldAll a h.2]
    rfl
end
mutual
theorem dep_okD : ∀ (n : Nat) (a : PyData), okD n a = true → PyData.depth a ≤ n
  | _, .none, _ => by simp [PyData.depth]
  | _, .int _, _ => by simp [PyData.depth]
  | _, .str _, _ => by simp [PyData.depth]
  | _, .bool _, _ => by simp [PyData.depth]
  | 0, .list _, h => by simp [okD] at h
  | 0, .tuple _, h => by simp [okD] at h
  | n + 1, .list x, h => by
    unfold okD at h
    rw [Bool.and_eq_true] at h
    rw [PyData.depth]
    have := dep_okDs n x h.2
    omega
  | n + 1, .tuple x, h => by
    unfold okD at h
    rw [Bool.and_eq_true] at h
    rw [PyData.depth]
    have := dep_okDs n x h.2
    omega
  | 0, .dict _, h => by simp [okD] at h
  | n + 1, .dict _, h => by simp [okD] at h
theorem dep_okDs : ∀ (n : Nat) (a : List PyData), okDs n a = true → PyData.depthAll a ≤ n
  | _, [], _ => by simp [PyData.depthAll]
  | n, x :: a, h => by
    unfold okDs at h
    rw [Bool.and_eq_true] at h
    rw [PyData.depthAll]
    have h1 := dep_okD n x h.1
    have h2 := dep_okDs n a h.2
    omega
end
theorem shaped_of {a : PyData} {n : Nat} (h : pld a = true) (o : okD n a = true) (hn : n ≤ 64) : SeqAt.shaped a = true := by
  unfold SeqAt.shaped
  rw [can_pld a h, decide_eq_true (Nat.le_trans (dep_okD n a o) hn)]
  rfl
open Classical in
theorem ne_go {K : PySem.W.Frag} {H : Hp} {x y : V} {a b : PyData} {Q : VK} {n m : Nat} (h1 : Dp K H x a) (h2 : Dp K H y b) (p1 : pld a = true) (p2 : pld b = true) (o1 : okD n a = true) (o2 : okD m b = true) (hn : n ≤ 64) (hm : m ≤ 64) (q : Q (.bl (!decide (a = b))) H) : qNe K x y H Q := by
  unfold qNe
  refine ⟨a, b, h1, h2, shaped_of p1 o1 hn, shaped_of p2 o2 hm, ?_⟩
  have e : PyData.eqv a b = decide (a = b) := by
    rw [Bool.eq_iff_iff, eqv_pld a b p1 p2, decide_eq_true_iff]
  rw [e]
  exact q
open Classical in
theorem eq_go {K : PySem.W.Frag} {H : Hp} {x y : V} {a b : PyData} {Q : VK} {n m : Nat} (h1 : Dp K H x a) (h2 : Dp K H y b) (p1 : pld a = true) (p2 : pld b = true) (o1 : okD n a = true) (o2 : okD m b = true) (hn : n ≤ 64) (hm : m ≤ 64) (q : Q (.bl (decide (a = b))) H) : qEq K x y H Q := by
  unfold qEq
  refine ⟨a, b, h1, h2, shaped_of p1 o1 hn, shaped_of p2 o2 hm, ?_⟩
  have e : PyData.eqv a b = decide (a = b) := by
    rw [Bool.eq_iff_iff, eqv_pld a b p1 p2, decide_eq_true_iff]
  rw [e]
  exact q
section
open Classical
variable {K : PySem.W.Frag} {H : Hp} {x y : V} {a b : PyData} {Q : VK} {n m : Nat}
theorem ne_same (h1 : Dp K H x a) (h2 : Dp K H y a) (p : pld a = true) (o : okD n a = true) (hn : n ≤ 64) (q : Q (.bl false) H) : qNe K x y H Q :=
  ne_go h1 h2 p p o o hn hn (by rw [decide_eq_true rfl]; exact q)
theorem ne_diff (h1 : Dp K H x a) (h2 : Dp K H y b) (p1 : pld a = true) (p2 : pld b = true) (o1 : okD n a = true) (o2 : okD m b = true) (hn : n ≤ 64) (hm : m ≤ 64) (d : a ≠ b) (q : Q (.bl true) H) : qNe K x y H Q :=
  ne_go h1 h2 p1 p2 o1 o2 hn hm (by rw [decide_eq_false d]; exact q)
theorem eq_same (h1 : Dp K H x a) (h2 : Dp K H y a) (p : pld a = true) (o : okD n a = true) (hn : n ≤ 64) (q : Q (.bl true) H) : qEq K x y H Q :=
  eq_go h1 h2 p p o o hn hn (by rw [decide_eq_true rfl]; exact q)
theorem eq_diff (h1 : Dp K H x a) (h2 : Dp K H y b) (p1 : pld a = true) (p2 : pld b = true) (o1 : okD n a = true) (o2 : okD m b = true) (hn : n ≤ 64) (hm : m ≤ 64) (d : a ≠ b) (q : Q (.bl false) H) : qEq K x y H Q :=
  eq_go h1 h2 p1 p2 o1 o2 hn hm (by rw [decide_eq_false d]; exact q)
end
/-! ### which data is so -/
theorem pldAll_int : ∀ l : List Int, pldAll (l.map PyData.int) = true
  | [] => by unfold pldAll; rfl
  | i :: l => by
    rw [List.map_cons]
    unfold pldAll
    rw [pldAll_int l, Bool.and_true]
    unfold pld
    rfl
theorem pld_ti (l : List Int) : pld (dTi l) = true := by
  unfold dTi pld
  exact pldAll_int l
theorem pldAll_ti : ∀ ss : List (List Int), pldAll (ss.map dTi) = true
  | [] => by unfold pldAll; rfl
  | s :: ss => by
    rw [List.map_cons]
    unfold pldAll
    rw [pld_ti, pldAll_ti ss]
    rfl
/-- what is carried and on the shelves -/
def dTl (L : Lay Int) : PyData := .tuple [dTi L.1, .tuple (L.2.map dTi)]
theorem pld_tl (L : Lay Int) : pld (dTl L) = true := by
  unfold dTl
  simp only [pld, pldAll, pld_ti, pldAll_ti]
  rfl
theorem map_int_inj {a b : List Int} (h : a.map PyData.int = b.map PyData.int) : a = b := by
  have := congrArg (List.map fun d => match d with | .int i => i | _ => (0 : Int)) h
  rwa [List.map_map, List.map_map, show ((fun d => match d with | .int i => i | _ => (0 : Int)) ∘ PyData.int) = id from rfl, List.map_id, List.map_id] at this
theorem dTi_inj {a b : List Int} (h : dTi a = dTi b) : a = b := by
  unfold dTi at h
  injection h with h
  exact map_int_inj h
theorem map_ti_inj : ∀ {a b : List (List Int)}, a.map dTi = b.map dTi → a = b
  | [], [], _ => rfl
  | [], _ :: _, h => by cases h
  | _ :: _, [], h => by cases h
  | x :: a, y :: b, h => by
    rw [List.map_cons, List.map_cons] at h
    injection h with h1 h2
    rw [dTi_inj h1, map_ti_inj h2]
theorem dTl_inj {L M : Lay Int} (h : dTl L = dTl M) : L = M := by
  unfold dTl at h
  injection h with h
  injection h with h1 h2
  injection h2 with h2 _
  injection h2 with h2
  exact Prod.ext (dTi_inj h1) (map_ti_inj h2)
theorem okD_tl {n : Nat} {L : Lay Int} (h1 : L.1.length ≤ 1000) (h2 : L.2.length ≤ 1000) (h3 : ∀ s ∈ L.2, s.length ≤ 1000) : okD (n + 3) (dTl L) = true :=
  okD_t (by show 2 ≤ 1000; decide) (okDs_2 (okD_ti h1) (okD_t (by rw [List.length_map]; exact h2) (okDs_ti h3)))
theorem can_car : PyData.canLay0 (.str ("carrier" : Str)) = true := by decide +kernel
theorem can_she : PyData.canLay0 (.str ("shelf" : Str)) = true := by decide +kernel
theorem pld_car (c : Nat) : pld (.tuple ([V.str "carrier", V.int (c : Nat)].map vD)) = true := by
  simp only [List.map_cons, List.map_nil, vD, pld, pldAll, can_car]
  rfl
theorem pld_pos (s p : Nat) : pld (.tuple ([V.str "shelf", V.int (s : Nat), V.int (p : Nat)].map vD)) = true := by
  simp only [List.map_cons, List.map_nil, vD, pld, pldAll, can_she]
  rfl
/-- the places, told apart -/
inductive IsPl : List V → Prop
  | car (c : Nat) : IsPl [V.str "carrier", V.int (c : Nat)]
  | pos (s p : Nat) : IsPl [V.str "shelf", V.int (s : Nat), V.int (p : Nat)]
theorem isPl_pld {pl : List V} (h : IsPl pl) : pld (.tuple (pl.map vD)) = true := by
  cases h with
  | car c => exact pld_car c
  | pos s p => exact pld_pos s p
theorem isPl_inj {a b : List V} (ha : IsPl a) (hb : IsPl b) (h : PyData.tuple (a.map vD) = .tuple (b.map vD)) : a = b := by
  injection h with h
  cases ha with
  | car c =>
    cases hb with
    | car d =>
      simp only [List.map_cons, List.map_nil, vD, List.cons.injEq, PyData.int.injEq, and_true, true_and] at h
      rw [h]
    | pos s p => simp [vD] at h
  | pos s p =>
    cases hb with
    | car d => simp [vD] at h
    | pos t q =>
      simp only [List.map_cons, List.map_nil, vD, List.cons.injEq, PyData.int.injEq, and_true, true_and] at h
      rw [h.1, h.2]
theorem placesV_is {zs : List Int} {n : Nat} : ∀ pl ∈ placesV zs n, IsPl pl := by
  intro pl h
  unfold placesV at h
  rcases List.mem_append.mp h with h | h
  · unfold carV at h
    obtain ⟨c, _, rfl⟩ := List.mem_map.mp h
    exact .car c
  · have key : ∀ k, ∀ pl ∈ shN zs k, IsPl pl := by
      intro k
      induction k with
      | zero => intro pl h; cases h
      | succ k ih =>
        intro pl h
        unfold shN at h
        rcases List.mem_append.mp h with h | h
        · exact ih pl h
        · unfold posV at h
          obtain ⟨c, _, rfl⟩ := List.mem_map.mp h
          exact .pos k c
    exact key _ pl h
theorem shN_lt {zs : List Int} : ∀ k, ∀ pl ∈ shN zs k, ∃ s p : Nat, s < k ∧ pl = [V.str "shelf", V.int (s : Nat), V.int (p : Nat)]
  | 0, pl, h => by cases h
  | k + 1, pl, h => by
    unfold shN at h
    rcases List.mem_append.mp h with h | h
    · obtain ⟨s, p, hs, e⟩ := shN_lt k pl h
      exact ⟨s, p, by omega, e⟩
    · unfold posV at h
      obtain ⟨c, _, rfl⟩ := List.mem_map.mp h
      exact ⟨k, c, by omega, rfl⟩
theorem V_int_nat {a b : Nat} (h : V.int (a : Int) = V.int (b : Int)) : a = b := by
  have := V.int.inj h
  omega
theorem shN_nodup {zs : List Int} : ∀ k, (shN zs k).Nodup
  | 0 => List.nodup_nil
  | k + 1 => by
    unfold shN
    refine List.nodup_append.mpr ⟨shN_nodup k, ?_, fun a ha b hb e => ?_⟩
    · unfold posV
      refine List.pairwise_map.mpr (List.nodup_range.imp fun {a b} h e => h ?_)
      simp only [List.cons.injEq, and_true, true_and] at e
      exact V_int_nat e
    · obtain ⟨s, p, hs, ea⟩ := shN_lt k a ha
      unfold posV at hb
      obtain ⟨c, _, rfl⟩ := List.mem_map.mp hb
      rw [ea] at e
      simp only [List.cons.injEq, and_true, true_and] at e
      have := V_int_nat e.1
      omega
theorem placesV_nodup (zs : List Int) (n : Nat) : (placesV zs n).Nodup := by
  unfold placesV
  refine List.nodup_append.mpr ⟨?_, shN_nodup _, fun a ha b hb e => ?_⟩
  · unfold carV
    refine List.pairwise_map.mpr (List.nodup_range.imp fun {a b} h e => h ?_)
    simp only [List.cons.injEq, and_true, true_and] at e
    exact V_int_nat e
  · unfold carV at ha
    obtain ⟨c, _, rfl⟩ := List.mem_map.mp ha
    obtain ⟨s, p, _, eb⟩ := shN_lt _ b hb
    rw [eb] at e
    simp at e
theorem places_ix {zs : List Int} {n i j : Nat} {pl : List V} (h1 : (placesV zs n)[i]? = some pl) (h2 : (placesV zs n)[j]? = some pl) : i = j := by
  obtain ⟨a, e1⟩ := List.getElem?_eq_some_iff.mp h1
  obtain ⟨b, e2⟩ := List.getElem?_eq_some_iff.mp h2
  exact (List.getElem_inj (placesV_nodup zs n)).mp (e1.trans e2.symm)
theorem pld_int (i : Int) : pld (.int i) = true := by unfold pld; rfl
end Sv


set_option maxHeartbeats 4000000
namespace Sv
open PySem PySem.Spec PyProof.Rows L2
section
variable {P : Program} {w : World} {K : PySem.W.Frag} {mg : Str → Option Value} {base : Heap}
/-! ### tick -/
def nTi : List Str := ["plan", "state", "time", "carried", "shelves", "exchanges"]
def spTick (K : PySem.W.Frag) (C CS : Addr) : Sp := fun vs H Q E => ∃ (p s : Addr) (zs : List Int) (rs : List Ro) (t : Int) (L : Lay Int), vs = [.ref p, .ref s] ∧ PlanAt K H p zs rs ∧ Small zs rs ∧ StateAt K H s t L ∧ BadE C zs rs H E ∧
  (bad zs rs = none → ¬ StOk zs rs t L → ∀ H', Same H H' → E (.ref CS) none H') ∧
  (bad zs rs = none → StOk zs rs t L → ∀ H' u s' x, Same H H' → H u = none → H' u = some (.tup [.ref s', .ref x]) → StateAt K H' s' (t + 1) (tickL rs t L) → TL H' x (exL (vis rs t) L) → H x = none → Q (.ref u) H')
end
end Sv


set_option maxHeartbeats 4000000
namespace Sv
open PySem PySem.Spec PyProof.Rows L2
section
variable {P : Program} {w : World} {K : PySem.W.Frag} {mg : Str → Option Value} {base : Heap}
/-! ### parcels -/
theorem scCheckParcel : FnScope ["parcels", "parcel"] ["parcels", "parcel"] (defScope sCheckParcel) := ⟨rfl, rfl, rfl, by decide +kernel, rfl, by decide +kernel, by decide +kernel⟩
theorem scPlaceOfParcel : FnScope ["state", "parcel", "parcels"] ["state", "parcel"] (defScope sPlaceOfParcel) := ⟨rfl, rfl, rfl, by decide +kernel, rfl, by decide +kernel, by decide +kernel⟩
theorem scStartOf : FnScope ["plan", "state", "parcel"] ["plan", "state", "parcel"] (defScope sStartOf) := ⟨rfl, rfl, rfl, by decide +kernel, rfl, by decide +kernel, by decide +kernel⟩
theorem room65 {A : Around} {k : Nat} (hr : Room k A) : A.units + 65 < cLine := by
  have := hr.un
  omega
theorem flat_ints (ns : List Int) : (ns.map V.int).all flatV = true := by
  rw [List.all_map]
  exact List.all_eq_true.mpr fun _ _ => rfl
theorem eqV_int (a b : Int) : eqV (.int a) (.int b) = decide (a = b) := by
  show (a == b) = _
  by_cases h : a = b <;> simp [h]
theorem inV_ints (x : Int) (ns : List Int) : inV (.int x) (ns.map V.int) = decide (x ∈ ns) := by
  unfold inV
  rw [List.any_map]
  by_cases h : x ∈ ns
  · rw [decide_eq_true h]
    exact List.any_eq_true.mpr ⟨x, h, by show eqV (.int x) (.int x) = true; rw [eqV_int]; simp⟩
  · rw [decide_eq_false h]
    refine List.any_eq_false.mpr fun y hy => ?_
    show ¬ eqV (.int y) (.int x) = true
    rw [eqV_int]
    simp only [decide_eq_true_eq]
    exact fun e => h (by rw [← e]; exact hy)
def spCheckParcel (K : PySem.W.Frag) (CU : Addr) : Sp := fun vs H Q E => ∃ (l : Addr) (ns : List Int) (x : Int), vs = [.ref l, .int x] ∧ (SqL K H l (ns.map V.int) ∨ SqT K H l (ns.map V.int)) ∧ (∀ y ∈ ns, 1 ≤ y ∧ y ≤ 999) ∧ (x ∈ ns → Q .non H) ∧ (x ∉ ns → E (.ref CU) none H)
theorem ok_checkParcel (T : Bd P K mg) : FnOk P w K mg base (L2.CX P w) 2 T.aCheckParcel T.dCheckParcel ["parcels", "parcel"] (spCheckParcel K T.CUr) := by
  have GW : FnOk P w K mg base CX0 1 T.aWithin T.dWithin ["number", "low", "high"] spWithin := ok_within T.Within.F T.bt.isinstance T.bt.bool T.bt.int
  obtain ⟨tl, hlast⟩ := T.lastP
  refine T.CheckParcel.F.okX scCheckParcel (fun vs H Q E h => ?_) (fun cdv A outer s H vs Q E hr h => ?_)
  · obtain ⟨l, ns, x, rfl, _⟩ := h
    rfl
  · obtain ⟨l, ns, x, rfl, hS, hb, q1, q2⟩ := h
    refine ⟨_, (pss_one (ps_if (pw_or (pt_not (pt_val (pe_call (E := E0) GW hr (by rfl) T.Within.g T.Within.F.kp T.Within.b .nil pass0 (pa_cons (pv 1) (pa_cons pe_int (pa_cons (pe_glob (v := .int 999) (by rfl) hlast ⟨_, rfl⟩) pa_nil)))))) (pw_or1 (pt_cmpR op_notIn_seq (pv 1) (pv 0) (by rfl)))).pt (pss_one (ps_raise rfl (takes_of rfl rfl rfl rfl) (pmk_own PySem.F.excBase_ValueError T.cur.x T.cur.g T.cur.k (raises_own T.cur.b T.cur.t) rfl))) pss_nil)), ?_⟩
    refine ⟨.int x, rfl, x, 1, 999, rfl, _, rfl, ?_⟩
    by_cases hx : 1 ≤ x ∧ x ≤ 999
    · rw [decide_eq_true hx]
      refine iteF ⟨.int x, rfl, .ref l, rfl, l, _, rfl, hS, rfl, flat_ints _, _, rfl, ?_⟩
      rw [inV_ints]
      by_cases hm : x ∈ ns
      · rw [decide_eq_true hm]
        exact iteF (q1 hm)
      · rw [decide_eq_false hm]
        exact iteT (q2 hm)
    · rw [decide_eq_false hx]
      exact iteT (q2 fun z => hx (hb x z))
def spPlaceOfParcel (K : PySem.W.Frag) (CU : Addr) : Sp := fun vs H Q E => ∃ (s : Addr) (x t : Int) (L : Lay Int), vs = [.ref s, .int x] ∧ StateAt K H s t L ∧ (join L).length ≤ 1000 ∧ OkP (join L) ∧
  (∀ i : Nat, (join L)[i]? = some x → ∀ H', Same H H' → Q (.int (i : Nat)) H') ∧ (x ∉ join L → ∀ H', Same H H' → E (.ref CU) none H')
theorem ok_placeOfParcel (T : Bd P K mg) : FnOk P w K mg base (L2.CX P w) 3 T.aPlaceOfParcel T.dPlaceOfParcel ["state", "parcel"] (spPlaceOfParcel K T.CUr) := by
  have GI : FnOk P w K mg base CX0 2 T.aParcelsIn T.dParcelsIn ["state"] (spParcelsIn K) := ok_parcelsIn T
  have GK : FnOk P w K mg base (L2.CX P w) 2 T.aCheckParcel T.dCheckParcel ["parcels", "parcel"] (spCheckParcel K T.CUr) := ok_checkParcel T
  refine T.PlaceOfParcel.F.okX scPlaceOfParcel (fun vs H Q E h => ?_) (fun cdv A outer s H vs Q E hr h => ?_)
  · obtain ⟨s, x, t, L, rfl, _⟩ := h
    rfl
  · obtain ⟨s, x, t, L, rfl, hst, hl, ok, q1, q2⟩ := h
    refine ⟨_, (pss_cons (ps_set (i := 2) scPlaceOfParcel.nd rfl (Or.inl rfl) (pe_call (E := E0) GI (hr.mono (by decide)) (by rfl) T.ParcelsIn.g T.ParcelsIn.F.kp T.ParcelsIn.b .nil pass0 (pa_cons (pv 0) pa_nil)))
      (pss_cons (ps_expr (pe_call (E := E) GK (hr.mono (by decide)) (by rfl) T.CheckParcel.g T.CheckParcel.F.kp T.CheckParcel.b .nil (passes_call (takes_of rfl rfl rfl rfl) fun _ _ _ _ h => h) (pa_cons (pv 2) (pa_cons (pv 1) pa_nil))))
      (pss_one (ps_ret (pe_bm PySem.F.plainAttrs_list PySem.F.slot_list_index PySem.F.type_list_index mt_index (pv 2) (pa_cons (pv 1) pa_nil)))))), ?_⟩
    refine ⟨.ref s, rfl, s, t, L, rfl, hst, hl, fun H1 f sm1 nf kf => ?_⟩
    refine ⟨.ref f, rfl, .int x, rfl, f, join L, x, rfl, .inl (.inl (.inl kf)), ok.1, fun hm => ?_, fun hm => q2 hm H1 sm1⟩
    obtain ⟨i, hi⟩ := List.mem_iff_getElem?.mp hm
    refine ⟨.ref f, rfl, .inl ⟨rfl, _, .inl (.inl kf)⟩, .int x, rfl, f, _, .int x, i, .int x, rfl, rfl, .inl (.inl kf), rfl, flat_ints _, by rw [List.getElem?_map, hi]; rfl, by rw [eqV_int]; simp, fun m z hm hz => ?_, q1 i hi H1 sm1⟩
    obtain ⟨y, hy, rfl⟩ := iV_lt hz
    rw [eqV_int]
    refine decide_eq_false fun e => ?_
    rw [e] at hy
    obtain ⟨a, e1⟩ := List.getElem?_eq_some_iff.mp hi
    obtain ⟨b, e2⟩ := List.getElem?_eq_some_iff.mp hy
    have := (List.getElem_inj ok.2).mp (e1.trans e2.symm)
    omega
def spStart (K : PySem.W.Frag) (C CS CU : Addr) : Sp := fun vs H Q E => ∃ (p s : Addr) (zs : List Int) (rs : List Ro) (t x : Int) (L : Lay Int), vs = [.ref p, .ref s, .int x] ∧ PlanAt K H p zs rs ∧ Small zs rs ∧ StateAt K H s t L ∧ BadE C zs rs H E ∧
  (bad zs rs = none → ¬ StOk zs rs t L → ∀ H', Same H H' → E (.ref CS) none H') ∧
  (bad zs rs = none → StOk zs rs t L → ∀ i : Nat, (join L)[i]? = some x → ∀ H', Same H H' → Q (.int (i : Nat)) H') ∧
  (bad zs rs = none → StOk zs rs t L → x ∉ join L → ∀ H', Same H H' → E (.ref CU) none H')
theorem ok_startOf (T : Bd P K mg) : FnOk P w K mg base (L2.CX P w) 5 T.aStartOf T.dStartOf ["plan", "state", "parcel"] (spStart K T.C T.CS T.CUr) := by
  have GP : FnOk P w K mg base (L2.CX P w) 4 T.aCheckPlan T.dCheckPlan ["plan"] (spCheckPlan K T.C) := ok_checkPlan T
  have GS : FnOk P w K mg base (L2.CX P w) 3 T.aCheckState T.dCheckState ["plan", "state"] (spCheckState K T.CS) := ok_checkState T
  have GO : FnOk P w K mg base (L2.CX P w) 3 T.aPlaceOfParcel T.dPlaceOfParcel ["state", "parcel"] (spPlaceOfParcel K T.CUr) := ok_placeOfParcel T
  refine T.StartOf.F.okX scStartOf (fun vs H Q E h => ?_) (fun cdv A outer s H vs Q E hr h => ?_)
  · obtain ⟨p, s, zs, rs, t, x, L, rfl, _⟩ := h
    rfl
  · obtain ⟨p, s, zs, rs, t, x, L, rfl, hp, hs, hst, q1, q2, q3, q4⟩ := h
    refine ⟨_, (pss_cons (ps_expr (pe_call (E := E) GP (hr.mono (by decide)) (by rfl) T.CheckPlan.g T.CheckPlan.F.kp T.CheckPlan.b .nil (passes_call (takes_of rfl rfl rfl rfl) fun _ _ _ _ h => h) (pa_cons (pv 0) pa_nil)))
      (pss_cons (ps_expr (pe_call (E := E) GS (hr.mono (by decide)) (by rfl) T.CheckState.g T.CheckState.F.kp T.CheckState.b .nil (passes_call (takes_of rfl rfl rfl rfl) fun _ _ _ _ h => h) (pa_cons (pv 0) (pa_cons (pv 1) pa_nil))))
      (pss_one (ps_ret (pe_call (E := E) GO (hr.mono (by decide)) (by rfl) T.PlaceOfParcel.g T.PlaceOfParcel.F.kp T.PlaceOfParcel.b .nil (passes_call (takes_of rfl rfl rfl rfl) fun _ _ _ _ h => h) (pa_cons (pv 1) (pa_cons (pv 2) pa_nil))))))), ?_⟩
    refine ⟨.ref p, rfl, p, zs, rs, rfl, hp, hs, fun e1 H1 sm1 => ?_, q1⟩
    have hv := val_of e1
    have hn := hv.num
    refine ⟨.ref p, rfl, .ref s, rfl, p, s, zs, rs, t, L, rfl, hp.same sm1, hv, hst.same sm1, fun hok H2 sm2 => ?_, fun hno H2 sm2 => q2 e1 hno H2 (sm1.trans sm2)⟩
    have smA := sm1.trans sm2
    have jl := join_len hok.f
    exact ⟨.ref s, rfl, .int x, rfl, s, x, t, L, rfl, hst.same smA, by omega, hok.p, fun i hi H3 sm3 => q3 e1 hok i hi H3 (smA.trans sm3), fun hno H3 sm3 => q4 e1 hok hno H3 (smA.trans sm3)⟩
/-! ### places -/
def spTruths (K : PySem.W.Frag) : Sp := fun vs H Q _ => ∃ (u : Addr) (pl : List V), vs = [.ref u] ∧ SqT K H u pl ∧ (∀ v ∈ pl, flI v = true) ∧ Q (.bl false) H
def dPl (pl : List V) : PyData := .tuple (pl.map vD)
theorem dpAll_tups {H : Hp} : ∀ {ps : List Addr} {ts : List (List V)}, (∀ t ∈ ts, ∀ v ∈ t, flI v = true) → TupsV H ps ts → DpAll K H (ps.map V.ref) (ts.map dPl)
  | _, _, _, .nil => .nil
  | _, _, f, .cons h t => .cons (.tup (.inl (.inl h)) (dpAll_fl (f _ (List.mem_cons_self ..)))) (dpAll_tups (fun x hx => f x (List.mem_cons_of_mem _ hx)) t)
theorem pldAll_places : ∀ {ts : List (List V)}, (∀ t ∈ ts, IsPl t) → pldAll (ts.map dPl) = true
  | [], _ => by unfold pldAll; rfl
  | t :: ts, h => by
    rw [List.map_cons]
    unfold pldAll
    rw [pldAll_places fun x hx => h x (List.mem_cons_of_mem _ hx), Bool.and_true]
    exact isPl_pld (h t (List.mem_cons_self ..))
theorem okDs_places : ∀ {ts : List (List V)}, (∀ t ∈ ts, t.length ≤ 3) → okDs 1 (ts.map dPl) = true
  | [], _ => by unfold okDs; rfl
  | t :: ts, h => by
    rw [List.map_cons]
    unfold okDs
    rw [okDs_places fun x hx => h x (List.mem_cons_of_mem _ hx), Bool.and_true]
    have := h t (List.mem_cons_self ..)
    exact okD_t (by rw [List.length_map]; omega) okDs_fl
/-- a flat tuple of numbers and texts, as a caller may pass for a place -/
structure FlP (pl : List V) : Prop where
  f : ∀ v ∈ pl, flI v = true
  d : ∀ v ∈ pl, pld (vD v) = true
  l : pl.length ≤ 8
theorem isPl_flP {pl : List V} (h : IsPl pl) : FlP pl := by
  cases h with
  | car c => exact ⟨by simp [flI], by intro v hv; simp only [List.mem_cons, List.not_mem_nil, or_false] at hv; rcases hv with rfl | rfl; exact can_car; rfl, by show 2 ≤ 8; decide⟩
  | pos s p => exact ⟨by simp [flI], by intro v hv; simp only [List.mem_cons, List.not_mem_nil, or_false] at hv; rcases hv with rfl | rfl | rfl; exact can_she; rfl; rfl, by show 3 ≤ 8; decide⟩
theorem pldAll_flP : ∀ {pl : List V}, (∀ v ∈ pl, pld (vD v) = true) → pldAll (pl.map vD) = true
  | [], _ => by unfold pldAll; rfl
  | v :: pl, h => by
    rw [List.map_cons]
    unfold pldAll
    rw [pldAll_flP fun x hx => h x (List.mem_cons_of_mem _ hx), Bool.and_true]
    exact h v (List.mem_cons_self ..)
theorem FlP.pld {pl : List V} (h : FlP pl) : pld (dPl pl) = true := by
  unfold dPl Sv.pld
  exact pldAll_flP h.d
theorem vD_inj : ∀ {a b : List V}, (∀ v ∈ a, flI v = true) → (∀ v ∈ b, flI v = true) → a.map vD = b.map vD → a = b
  | [], [], _, _, _ => rfl
  | [], _ :: _, _, _, h => by simp at h
  | _ :: _, [], _, _, h => by simp at h
  | x :: a, y :: b, h1, h2, h => by
    rw [List.map_cons, List.map_cons] at h
    injection h with e1 e2
    have f1 := h1 x (List.mem_cons_self ..)
    have f2 := h2 y (List.mem_cons_self ..)
    have e3 := vD_inj (fun v hv => h1 v (List.mem_cons_of_mem _ hv)) (fun v hv => h2 v (List.mem_cons_of_mem _ hv)) e2
    rw [e3]
    cases x <;> cases y <;> simp_all [flI, vD]
theorem FlP.inj {a b : List V} (ha : FlP a) (hb : FlP b) (h : dPl a = dPl b) : a = b := by
  unfold dPl at h
  injection h with h
  exact vD_inj ha.f hb.f h
theorem FlP.eqv {a b : List V} (ha : FlP a) (hb : FlP b) : PyData.eqv (dPl a) (dPl b) = true ↔ a = b :=
  (eqv_pld _ _ ha.pld hb.pld).trans ⟨ha.inj hb, fun e => by rw [e]⟩
theorem FlP.okd {pl : List V} (h : FlP pl) (m : Nat) : okD (m + 1) (dPl pl) = true := okD_t (by rw [List.length_map]; have := h.l; omega) okDs_fl
theorem FlP.sh {pl : List V} (h : FlP pl) : SeqAt.shaped (dPl pl) = true := shaped_of (n := 1) h.pld (h.okd 0) (by decide)
theorem pldAll_flPs : ∀ {ts : List (List V)}, (∀ t ∈ ts, FlP t) → pldAll (ts.map dPl) = true
  | [], _ => by unfold pldAll; rfl
  | t :: ts, h => by
    rw [List.map_cons]
    unfold pldAll
    rw [pldAll_flPs fun x hx => h x (List.mem_cons_of_mem _ hx), Bool.and_true]
    exact (h t (List.mem_cons_self ..)).pld
theorem okDs_flPs : ∀ {ts : List (List V)}, (∀ t ∈ ts, FlP t) → okDs 1 (ts.map dPl) = true
  | [], _ => by unfold okDs; rfl
  | t :: ts, h => by
    rw [List.map_cons]
    unfold okDs
    rw [okDs_flPs fun x hx => h x (List.mem_cons_of_mem _ hx), Bool.and_true]
    exact (h t (List.mem_cons_self ..)).okd 0
theorem flPs_sh {ts : List (List V)} (h : ∀ t ∈ ts, FlP t) (hl : ts.length ≤ 1000) : SeqAt.shaped (.list (ts.map dPl)) = true := shaped_of (n := 2) (by unfold pld; exact pldAll_flPs h) (okD_l (by rw [List.length_map]; omega) (okDs_flPs h)) (by decide)
theorem flPs_any {ts : List (List V)} (h : ∀ t ∈ ts, FlP t) {pl : List V} (hp : FlP pl) : ((ts.map dPl).any fun z => PyData.eqv z (dPl pl)) = decide (pl ∈ ts) := by
  rw [List.any_map]
  by_cases hm : pl ∈ ts
  · rw [decide_eq_true hm]
    exact List.any_eq_true.mpr ⟨pl, hm, (FlP.eqv hp hp).mpr rfl⟩
  · rw [decide_eq_false hm]
    refine List.any_eq_false.mpr fun y hy => ?_
    show ¬ PyData.eqv (dPl y) (dPl pl) = true
    rw [FlP.eqv (h y hy) hp]
    exact fun e => hm (by rw [← e]; exact hy)
theorem placesV_flP {zs : List Int} {n : Nat} : ∀ t ∈ placesV zs n, FlP t := fun t ht => isPl_flP (placesV_is t ht)
/-- a list of places -/
def PlsAt (H : Hp) (f : Addr) (ts : List (List V)) : Prop := ∃ ps : List Addr, H f = some (.lst (ps.map V.ref)) ∧ TupsV H ps ts
theorem PlsAt.same {H H' : Hp} {f : Addr} {ts : List (List V)} (h : PlsAt H f ts) (e : Same H H') : PlsAt H' f ts := by
  obtain ⟨ps, h1, h2⟩ := h
  exact ⟨ps, e _ _ h1, tupsV_same e h2⟩
def spIsPlace (K : PySem.W.Frag) : Sp := fun vs H Q _ => ∃ (f u : Addr) (ts : List (List V)) (pl : List V), vs = [.ref f, .ref u] ∧ PlsAt H f ts ∧ (∀ t ∈ ts, FlP t) ∧ ts.length ≤ 1000 ∧ SqT K H u pl ∧ FlP pl ∧ Q (.bl (decide (pl ∈ ts))) H
def spNumPl (K : PySem.W.Frag) (CU : Addr) : Sp := fun vs H Q E => ∃ (p u : Addr) (zs : List Int) (rs : List Ro) (pl : List V), vs = [.ref p, .ref u] ∧ PlanAt K H p zs rs ∧ Val zs rs ∧ SqT K H u pl ∧ FlP pl ∧
  (∀ i : Nat, (placesV zs rs.length)[i]? = some pl → ∀ H', Same H H' → Q (.int (i : Nat)) H') ∧ (pl ∉ placesV zs rs.length → ∀ H', Same H H' → E (.ref CU) none H')
def spNumberOfPlace (K : PySem.W.Frag) : Sp := fun vs H Q _ => ∃ (p u : Addr) (zs : List Int) (rs : List Ro) (i : Nat) (pl : List V), vs = [.ref p, .ref u] ∧ PlanAt K H p zs rs ∧ Val zs rs ∧ SqT K H u pl ∧ (placesV zs rs.length)[i]? = some pl ∧ ∀ H', Same H H' → Q (.int (i : Nat)) H'
end
end Sv


set_option maxHeartbeats 4000000
namespace Sv
open PySem PySem.Spec PyProof.Rows L2
section
variable {P : Program} {w : World} {K : PySem.W.Frag} {mg : Str → Option Value} {base : Heap}
/-! ### advance, locate, parcel_at -/
theorem scAdvance : FnScope ["plan", "state", "count", "time", "carried", "shelves"] ["plan", "state", "count"] (defScope sAdvance) := ⟨rfl, rfl, rfl, by decide +kernel, rfl, by decide +kernel, by decide +kernel⟩
theorem scLocate : FnScope ["plan", "state", "parcel", "count", "start"] ["plan", "state", "parcel", "count"] (defScope sLocate) := ⟨rfl, rfl, rfl, by decide +kernel, rfl, by decide +kernel, by decide +kernel⟩
theorem PS0.bad {H : Hp} {p s : Addr} {zs : List Int} {rs : List Ro} {t : Int} {L : Lay Int} (x : PS0 K H p s zs rs t L) : bad zs rs = none := x.v.bad
def spAdvance (K : PySem.W.Frag) (C CS CC : Addr) : Sp := fun vs H Q E => ∃ (p s : Addr) (zs : List Int) (rs : List Ro) (t c : Int) (L : Lay Int), vs = [.ref p, .ref s, .int c] ∧ PlanAt K H p zs rs ∧ Small zs rs ∧ StateAt K H s t L ∧ BadE C zs rs H E ∧
  (bad zs rs = none → ¬ StOk zs rs t L → ∀ H', Same H H' → E (.ref CS) none H') ∧ (bad zs rs = none → StOk zs rs t L → ¬ CtOk c → ∀ H', Same H H' → E (.ref CC) none H') ∧
  (bad zs rs = none → StOk zs rs t L → CtOk c → NewSt K H (t + c) (advA 0 zs rs t c L) Q)
theorem ok_advance (T : Bd P K mg) : FnOk P w K mg base (L2.CX P w) 6 T.aAdvance T.dAdvance ["plan", "state", "count"] (spAdvance K T.C T.CS T.CC) := by
  have GP : FnOk P w K mg base (L2.CX P w) 4 T.aCheckPlan T.dCheckPlan ["plan"] (spCheckPlan K T.C) := ok_checkPlan T
  have GS : FnOk P w K mg base (L2.CX P w) 3 T.aCheckState T.dCheckState ["plan", "state"] (spCheckState K T.CS) := ok_checkState T
  have GC : FnOk P w K mg base (L2.CX P w) 3 T.aCheckCount T.dCheckCount ["count"] (spCheckCount T.CC) := ok_checkCount T
  have GF : FnOk P w K mg base CX0 5 T.aEffectTicks T.dEffectTicks ["plan", "time", "count"] (spEffectTicks K) := ok_effectTicks T
  have GM : FnOk P w K mg base CX0 3 T.aMoved T.dMoved ["plan", "state", "effect"] (spMoved K) := ok_moved T
  refine T.Advance.F.okX scAdvance (fun vs H Q E h => ?_) (fun cdv A outer s H vs Q E hr h => ?_)
  · obtain ⟨p, s, zs, rs, t, c, L, rfl, _⟩ := h
    rfl
  · obtain ⟨p, s, zs, rs, t, c, L, rfl, hp, hs, hst, q1, q2, q3, q4⟩ := h
    refine ⟨_, (pss_cons (ps_expr (pe_call (E := E) GP (hr.mono (by decide)) (by rfl) T.CheckPlan.g T.CheckPlan.F.kp T.CheckPlan.b .nil (passes_call (takes_of rfl rfl rfl rfl) fun _ _ _ _ h => h) (pa_cons (pv 0) pa_nil)))
      (pss_cons (ps_expr (pe_call (E := E) GS (hr.mono (by decide)) (by rfl) T.CheckState.g T.CheckState.F.kp T.CheckState.b .nil (passes_call (takes_of rfl rfl rfl rfl) fun _ _ _ _ h => h) (pa_cons (pv 0) (pa_cons (pv 1) pa_nil))))
      (pss_cons (ps_expr (pe_call (E := E) GC (hr.mono (by decide)) (by rfl) T.CheckCount.g T.CheckCount.F.kp T.CheckCount.b .nil (passes_call (takes_of rfl rfl rfl rfl) fun _ _ _ _ h => h) (pa_cons (pv 2) pa_nil)))
      (pss_cons (ps_asg (pe_call (E := E0) GM (hr.mono (by decide)) (by rfl) T.Moved.g T.Moved.F.kp T.Moved.b .nil pass0 (pa_cons (pv 0) (pa_cons (pv 1) (pa_cons (pe_call (E := E0) GF (hr.mono (by decide)) (by rfl) T.EffectTicks.g T.EffectTicks.F.kp T.EffectTicks.b .nil pass0 (pa_cons (pv 0) (pa_cons (pe_ix ix_tup (pv 1) pe_int (fun _ _ => rfl)) (pa_cons (pv 2) pa_nil)))) pa_nil)))) (pg_tup rfl (pgs_cons (pg_name (i := 3) scAdvance.nd rfl (.inl rfl)) (pgs_cons (pg_name (i := 4) scAdvance.nd rfl (.inl rfl)) (pgs_cons (pg_name (i := 5) scAdvance.nd rfl (.inl rfl)) pgs_nil)))))
      (pss_one (ps_ret (pe_tup (pa_cons (pe_op op_add (pv 3) (pv 2)) (pa_cons (pv 4) (pa_cons (pv 5) pa_nil)))))))))), ?_⟩
    refine ⟨.ref p, rfl, p, zs, rs, rfl, hp, hs, fun e1 H1 sm1 => ?_, q1⟩
    have hv := val_of e1
    refine ⟨.ref p, rfl, .ref s, rfl, p, s, zs, rs, t, L, rfl, hp.same sm1, hv, hst.same sm1, fun hok H2 sm2 => ?_, fun hno H2 sm2 => q2 e1 hno H2 (sm1.trans sm2)⟩
    have smA := sm1.trans sm2
    refine ⟨.int c, rfl, c, rfl, fun hc => ?_, fun hc => q3 e1 hok hc H2 smA⟩
    obtain ⟨ca, sh, hs1, hL⟩ := (hst.same smA).ex
    refine ⟨.ref p, rfl, .ref s, rfl, .ref p, rfl, .ref s, rfl, s, _, 0, .int t, rfl, rfl, hs1, rfl, .int c, rfl, p, t, c, zs, rs, rfl, hp.same smA, hv, .inl fun H3 a sm3 na ka => ?_⟩
    have smB := smA.trans sm3
    refine ⟨p, s, a, zs, rs, t, L, effT rs.length zs rs t c, rfl, hp.same smB, hv, hst.same smB, hok.f, .inl (.inl ka), effT_eff .., effT_len .., fun H4 s' sm4 ns st4 => ?_⟩
    obtain ⟨c2, s2, hs2, hL2⟩ := st4.ex
    refine ⟨s', _, rfl, hs2, rfl, _, _, rfl, _, _, rfl, _, _, rfl, rfl, ?_⟩
    refine ⟨.int t, rfl, .int c, rfl, t, c, rfl, rfl, .ref c2, rfl, .ref s2, rfl, (by show 3 ≤ sizeLine; decide), fun y hy => ?_⟩
    have smy := same_upd (o := .tup [.int (t + c), .ref c2, .ref s2]) hy
    exact q4 e1 hok hc _ y ((smB.trans sm4).trans smy) (Same.free (smB.trans sm4) hy) ⟨c2, s2, .inl (.inl upd_same), hL2.same smy⟩
theorem adv_ok (T : Bd P K mg) : FnOk P w K mg base (L2.CX P w) 12 T.aAdvance T.dAdvance ["plan", "state", "count"] (qAdvance K) := by
  unfold qAdvance
  refine ((ok_advance T).mono (by decide)).imp fun vs H Q E h => ?_
  obtain ⟨p, s, zs, rs, t, c, L, rfl, x, hc, q⟩ := h
  have hb := x.bad
  exact ⟨p, s, zs, rs, t, c, L, rfl, x.p, x.v.small, x.s, (fun part i e => by rw [hb] at e; cases e), fun _ h => absurd x.o h, fun _ _ h => absurd hc h, fun _ _ _ H' s' sm _ st => q H' s' sm st⟩
/-- the place at which something is that was at place i -/
theorem loc_at {zs : List Int} {rs : List Ro} {t c x : Int} {L : Lay Int} {i : Nat} (hf : Fits rs.length zs L) (hi : (join L)[i]? = some x) : (join (advA 0 zs rs t c L))[ap (effT rs.length zs rs t c) i]? = some x := by
  have jl := join_len hf
  have il := (List.getElem?_eq_some_iff.mp hi).1
  rw [join_advA, moveA_at 0 (effT_eff ..) (by rw [effT_len, jl]) (by rw [effT_len]; omega)]
  exact hi
def spLocate (K : PySem.W.Frag) (C CS CC CU : Addr) : Sp := fun vs H Q E => ∃ (p s : Addr) (zs : List Int) (rs : List Ro) (t x c : Int) (L : Lay Int), vs = [.ref p, .ref s, .int x, .int c] ∧ PlanAt K H p zs rs ∧ Small zs rs ∧ StateAt K H s t L ∧ BadE C zs rs H E ∧
  (bad zs rs = none → ¬ StOk zs rs t L → ∀ H', Same H H' → E (.ref CS) none H') ∧ (bad zs rs = none → StOk zs rs t L → x ∉ join L → ∀ H', Same H H' → E (.ref CU) none H') ∧
  (bad zs rs = none → StOk zs rs t L → x ∈ join L → ¬ CtOk c → ∀ H', Same H H' → E (.ref CC) none H') ∧
  (bad zs rs = none → StOk zs rs t L → CtOk c → ∀ H' u (i : Nat) pl, Same H H' → (join (advA 0 zs rs t c L))[i]? = some x → (placesV zs rs.length)[i]? = some pl → SqT K H' u pl → Q (.ref u) H')
theorem ok_locate (T : Bd P K mg) : FnOk P w K mg base (L2.CX P w) 6 T.aLocate T.dLocate ["plan", "state", "parcel", "count"] (spLocate K T.C T.CS T.CC T.CUr) := by
  have GC : FnOk P w K mg base (L2.CX P w) 3 T.aCheckCount T.dCheckCount ["count"] (spCheckCount T.CC) := ok_checkCount T
  have GF : FnOk P w K mg base CX0 5 T.aEffectTicks T.dEffectTicks ["plan", "time", "count"] (spEffectTicks K) := ok_effectTicks T
  have GO : FnOk P w K mg base (L2.CX P w) 5 T.aStartOf T.dStartOf ["plan", "state", "parcel"] (spStart K T.C T.CS T.CUr) := ok_startOf T
  have GL : FnOk P w K mg base CX0 1 T.aPlacesOf T.dPlacesOf ["plan"] (spPlacesOf K) := ok_placesOf T
  refine T.Locate.F.okX scLocate (fun vs H Q E h => ?_) (fun cdv A outer s H vs Q E hr h => ?_)
  · obtain ⟨p, s, zs, rs, t, x, c, L, rfl, _⟩ := h
    rfl
  · obtain ⟨p, s, zs, rs, t, x, c, L, rfl, hp, hs, hst, q1, q2, q3, q4, q5⟩ := h
    refine ⟨_, (pss_cons (ps_set (i := 4) scLocate.nd rfl (Or.inl rfl) (pe_call (E := E) GO (hr.mono (by decide)) (by rfl) T.StartOf.g T.StartOf.F.kp T.StartOf.b .nil (passes_call (takes_of rfl rfl rfl rfl) fun _ _ _ _ h => h) (pa_cons (pv 0) (pa_cons (pv 1) (pa_cons (pv 2) pa_nil)))))
      (pss_cons (ps_expr (pe_call (E := E) GC (hr.mono (by decide)) (by rfl) T.CheckCount.g T.CheckCount.F.kp T.CheckCount.b .nil (passes_call (takes_of rfl rfl rfl rfl) fun _ _ _ _ h => h) (pa_cons (pv 3) pa_nil)))
      (pss_one (ps_ret (pe_ix ix_list (pe_call (E := E0) GL (hr.mono (by decide)) (by rfl) T.PlacesOf.g T.PlacesOf.F.kp T.PlacesOf.b .nil pass0 (pa_cons (pv 0) pa_nil)) (pe_ix ix_tup (pe_call (E := E0) GF (hr.mono (by decide)) (by rfl) T.EffectTicks.g T.EffectTicks.F.kp T.EffectTicks.b .nil pass0 (pa_cons (pv 0) (pa_cons (pe_ix ix_tup (pv 1) pe_int (fun _ _ => rfl)) (pa_cons (pv 3) pa_nil)))) (pv 4) (fun _ _ => rfl)) (fun _ _ => rfl)))))), ?_⟩
    refine ⟨.ref p, rfl, .ref s, rfl, .int x, rfl, p, s, zs, rs, t, x, L, rfl, hp, hs, hst, q1, q2, fun e1 hok i hi H1 sm1 => ?_, q3⟩
    have hv := val_of e1
    refine ⟨.int c, rfl, c, rfl, fun hc => ?_, fun hc => q4 e1 hok (List.mem_of_getElem? hi) hc H1 sm1⟩
    have jl := join_len hok.f
    have il := (List.getElem?_eq_some_iff.mp hi).1
    refine ⟨.ref p, rfl, p, zs, rs, rfl, hp.same sm1, hv.toGood, fun H2 f sm2 nf tl => ?_⟩
    have smA := sm1.trans sm2
    obtain ⟨ca, sh, hs1, hL⟩ := (hst.same smA).ex
    refine ⟨.ref p, rfl, .ref s, rfl, s, _, 0, .int t, rfl, rfl, hs1, rfl, .int c, rfl, p, t, c, zs, rs, rfl, hp.same smA, hv, .inl fun H3 a sm3 na ka => ?_⟩
    have el := effT_len rs.length zs rs t c
    have hlt := ap_lt (effT_eff rs.length zs rs t c) (x := i) (by omega)
    refine ⟨.int (i : Nat), rfl, a, _, (i : Nat), _, rfl, rfl, .inl (.inl ka), atI_nat (vN_get (by omega)), ?_⟩
    obtain ⟨ps, kf, tv⟩ := tl.same sm3 |>.ex
    have hpl := tupsV_len tv
    have pln := placesV_len zs rs.length fun z hz => (hv.z2 z hz).1
    obtain ⟨u, hu⟩ : ∃ u, ps[ap (effT rs.length zs rs t c) i]? = some u := ⟨_, List.getElem?_eq_getElem (by omega)⟩
    obtain ⟨pl, hpl2, hut⟩ := tupsV_at tv hu
    exact ⟨f, _, _, .ref u, rfl, rfl, .inl (.inl kf), atI_nat (by rw [List.getElem?_map, hu]; rfl), q5 e1 hok hc H3 u _ pl (smA.trans sm3) (loc_at hok.f hi) hpl2 (.inl (.inl hut))⟩
theorem loc_ok (T : Bd P K mg) : FnOk P w K mg base (L2.CX P w) 12 T.aLocate T.dLocate ["plan", "state", "parcel", "count"] (qLocate K) := by
  unfold qLocate
  refine ((ok_locate T).mono (by decide)).imp fun vs H Q E h => ?_
  obtain ⟨p, s, zs, rs, t, x, c, L, rfl, y, hx, hc, q⟩ := h
  have hb := y.bad
  exact ⟨p, s, zs, rs, t, x, c, L, rfl, y.p, y.v.small, y.s, (fun part i e => by rw [hb] at e; cases e), fun _ h => absurd y.o h, fun _ _ h => absurd hx h, fun _ _ _ h => absurd hc h, fun _ _ _ => q⟩
def spParcelAt (K : PySem.W.Frag) (C CS CC : Addr) : Sp := fun vs H Q E => ∃ (p s u : Addr) (zs : List Int) (rs : List Ro) (t c : Int) (L : Lay Int) (i : Nat) (pl : List V), vs = [.ref p, .ref s, .ref u, .int c] ∧ PlanAt K H p zs rs ∧ Small zs rs ∧ StateAt K H s t L ∧ SqT K H u pl ∧ BadE C zs rs H E ∧
  (bad zs rs = none → ¬ StOk zs rs t L → ∀ H', Same H H' → E (.ref CS) none H') ∧ (placesV zs rs.length)[i]? = some pl ∧ (bad zs rs = none → StOk zs rs t L → ¬ CtOk c → ∀ H', Same H H' → E (.ref CC) none H') ∧
  (bad zs rs = none → StOk zs rs t L → CtOk c → ∀ H' x, Same H H' → (join (advA 0 zs rs t c L))[i]? = some x → Q (.int x) H')
end
end Sv


set_option maxHeartbeats 1000000
/-! returns and periods, the mathematics alone -/
namespace Sv
section
variable {α : Type} (d : α) (zs : List Int) {rs : List Ro}
variable (h : ∀ r ∈ rs, r ≠ []) (hp : 1 ≤ lc rs)
include h hp
theorem effT_mul (t q : Int) : effT rs.length zs rs t (q * (lc rs : Int)) = rep (wh rs.length zs rs t) q := by
  have := effT_key rs.length zs h hp t q 0
  rw [fwd_zero, comp_rg (rep_eff (wh_eff ..) q) (by rw [rep_len, wh_len])] at this
  rw [this]
  congr 1
  omega
/-- the whole period -/
noncomputable def perT (zs : List Int) (rs : List Ro) (t : Int) : Nat := lc rs * ord (wh rs.length zs rs t)
/-- the return time of place i -/
noncomputable def retT (zs : List Int) (rs : List Ro) (t : Int) (i : Nat) : Nat := lc rs * per (wh rs.length zs rs t) i
omit h hp in
theorem ret_dvd (t : Int) {i : Nat} (hi : i < rs.length + sumN zs) : retT zs rs t i ∣ perT zs rs t :=
  Nat.mul_dvd_mul_left _ (per_dvd_ord (wh_eff ..) (by rw [wh_len]; exact hi))
theorem perT_pos (t : Int) : 0 < perT zs rs t := Nat.mul_pos (by omega) (ord_pos (wh_eff ..))
theorem retT_pos (t : Int) {i : Nat} (hi : i < rs.length + sumN zs) : 0 < retT zs rs t i := Nat.mul_pos (by omega) (per_pos (wh_eff ..) (by rw [wh_len]; exact hi))
theorem adv_period (t k : Int) {L : Lay α} (hf : Fits rs.length zs L) : advA d zs rs t (k * (perT zs rs t : Nat)) L = L := by
  have e : k * ((perT zs rs t : Nat) : Int) = (k * (ord (wh rs.length zs rs t) : Nat)) * (lc rs : Int) := by
    unfold perT
    rw [Int.natCast_mul, Int.mul_assoc, Int.mul_comm (lc rs : Int)]
  have e2 : rep (wh rs.length zs rs t) (k * (ord (wh rs.length zs rs t) : Nat)) = List.range (rs.length + sumN zs) := by
    have z := rep_mod (wh_eff rs.length zs rs t) (c := k * (ord (wh rs.length zs rs t) : Nat)) (d := 0) (by rw [Int.mul_emod_left, Int.zero_emod])
    rw [z, rep_zero, wh_len]
  unfold advA
  rw [e, effT_mul zs h hp, e2, ← join_len hf, moveA_range, spl_join hf]
theorem loc_mul (t k : Int) {L : Lay α} (hf : Fits rs.length zs L) {i : Nat} (hi : i < rs.length + sumN zs) : (join (advA d zs rs t (k * (lc rs : Int)) L))[rp (wh rs.length zs rs t) k i]? = (join L)[i]? := by
  rw [join_advA, effT_mul zs h hp]
  have hl : (wh rs.length zs rs t).length = rs.length + sumN zs := wh_len ..
  have e := moveA_at d (rep_eff (wh_eff rs.length zs rs t) k) (cs := join L) (by rw [join_len hf, rep_len, hl]) (i := i) (by rw [rep_len, hl]; exact hi)
  rwa [rep_ap (by rw [hl]; exact hi)] at e
theorem loc_return (t k : Int) {L : Lay α} (hf : Fits rs.length zs L) {i : Nat} (hi : i < rs.length + sumN zs) : (join (advA d zs rs t (k * (retT zs rs t i : Nat)) L))[i]? = (join L)[i]? := by
  have hl : (wh rs.length zs rs t).length = rs.length + sumN zs := wh_len ..
  have e : k * ((retT zs rs t i : Nat) : Int) = (k * (per (wh rs.length zs rs t) i : Nat)) * (lc rs : Int) := by
    unfold retT
    rw [Int.natCast_mul, Int.mul_assoc, Int.mul_comm (lc rs : Int)]
  have e2 : rp (wh rs.length zs rs t) (k * (per (wh rs.length zs rs t) i : Nat)) i = i := by
    unfold rp
    rw [Int.mul_emod_left]
    rfl
  have := loc_mul d zs h hp t (k * (per (wh rs.length zs rs t) i : Nat)) hf hi
  rw [e2] at this
  rw [e]
  exact this
theorem loc_step (t : Int) {k : Nat} {L : Lay α} (hf : Fits rs.length zs L) {i : Nat} (hi : i < rs.length + sumN zs) (h1 : 1 ≤ k) (h2 : k < per (wh rs.length zs rs t) i) :
    ∃ j, j ≠ i ∧ (join (advA d zs rs t ((k : Int) * (lc rs : Int)) L))[j]? = (join L)[i]? := by
  have hl : (wh rs.length zs rs t).length = rs.length + sumN zs := wh_len ..
  refine ⟨_, fun z => ?_, loc_mul d zs h hp t (k : Int) hf hi⟩
  rw [rp_nat (wh_eff ..) k (by rw [hl]; exact hi)] at z
  exact (per_spec (wh_eff rs.length zs rs t) (s := i) (by rw [hl]; exact hi)).2.2.1 k h1 h2 z
theorem adv_part (t : Int) {f : Nat} (h2 : 2 ≤ f) (hd : ord (wh rs.length zs rs t) % f = 0) {L : Lay α} (hf : Fits rs.length zs L) (nd : (join L).Nodup) : advA d zs rs t (((ord (wh rs.length zs rs t) / f : Nat) : Int) * (lc rs : Int)) L ≠ L := fun z => by
  have hl : (wh rs.length zs rs t).length = rs.length + sumN zs := wh_len ..
  refine ord_least (wh_eff rs.length zs rs t) h2 hd ?_
  refine ext_ap (by rw [rep_len, List.length_range]) fun p hp2 => ?_
  rw [rep_len] at hp2
  have hi : p < rs.length + sumN zs := by omega
  have e := loc_mul d zs h hp t ((ord (wh rs.length zs rs t) / f : Nat) : Int) hf hi
  rw [z] at e
  rw [rep_ap hp2, range_ap hp2]
  have jl := join_len hf
  have r1 : rp (wh rs.length zs rs t) ((ord (wh rs.length zs rs t) / f : Nat) : Int) p < (join L).length := by
    have := rp_lt (wh_eff rs.length zs rs t) (c := ((ord (wh rs.length zs rs t) / f : Nat) : Int)) hp2
    omega
  rw [List.getElem?_eq_getElem r1, List.getElem?_eq_getElem (by omega)] at e
  exact (List.getElem_inj nd).mp (Option.some.inj e)
end
end Sv


set_option maxHeartbeats 1000000
/-! the order of an effect of up to 120 places is below 2 ^ 64 -/
namespace Sv
theorem cube_le : ∀ k : Nat, k ^ 3 ≤ 3 ^ k
  | 0 => by decide
  | 1 => by decide
  | 2 => by decide
  | 3 => by decide
  | k + 4 => by
    have ih := cube_le (k + 3)
    have e1 : (k + 4) ^ 3 = (k + 4) * ((k + 4) * (k + 4)) := by
      rw [Nat.pow_succ, Nat.pow_succ, Nat.pow_one, Nat.mul_assoc]
    have e2 : (k + 3) ^ 3 = (k + 3) * ((k + 3) * (k + 3)) := by
      rw [Nat.pow_succ, Nat.pow_succ, Nat.pow_one, Nat.mul_assoc]
    have e3 : 3 ^ (k + 4) = 3 ^ (k + 3) * 3 := Nat.pow_succ ..
    rw [e2] at ih
    rw [e1, e3]
    refine Nat.le_trans ?_ (Nat.mul_le_mul_right 3 ih)
    have h1 : (k + 4) * (k + 4) = k * k + 8 * k + 16 := by simp only [Nat.mul_add, Nat.add_mul]; omega
    have h2 : (k + 3) * (k + 3) = k * k + 6 * k + 9 := by simp only [Nat.mul_add, Nat.add_mul]; omega
    rw [h1, h2]
    have h3 : (k + 4) * (k * k + 8 * k + 16) = k * (k * k) + 12 * (k * k) + 48 * k + 64 := by simp only [Nat.mul_add, Nat.add_mul, ← Nat.mul_assoc, Nat.mul_comm k 8]; simp only [Nat.mul_assoc]; omega
    have h4 : (k + 3) * (k * k + 6 * k + 9) = k * (k * k) + 9 * (k * k) + 27 * k + 27 := by simp only [Nat.mul_add, Nat.add_mul, ← Nat.mul_assoc, Nat.mul_comm k 6]; simp only [Nat.mul_assoc]; omega
    rw [h3, h4]
    omega
theorem lcmL_cube (cs : List (List Nat)) : (lcmL cs) ^ 3 ≤ 3 ^ cs.flatten.length := by
  induction cs using snoc_ind with
  | h0 => decide
  | h1 l a ih =>
    rw [lcmL_snoc, List.flatten_append, List.length_append]
    have h : Nat.lcm (lcmL l) a.length ≤ lcmL l * a.length := by
      by_cases z : lcmL l * a.length = 0
      · rcases Nat.mul_eq_zero.mp z with z | z
        · rw [z, Nat.lcm_zero_left]
          exact Nat.zero_le _
        · rw [z, Nat.lcm_zero_right]
          exact Nat.zero_le _
      · exact Nat.le_of_dvd (by omega) (Nat.lcm_dvd (Nat.dvd_mul_right ..) (Nat.dvd_mul_left ..))
    refine Nat.le_trans (Nat.pow_le_pow_left h 3) ?_
    rw [Nat.mul_pow, Nat.pow_add]
    refine Nat.mul_le_mul ih ?_
    have : [a].flatten.length = a.length := by simp
    rw [this]
    exact cube_le _
theorem lcmL_64 {cs : List (List Nat)} (h : cs.flatten.length ≤ 120) : lcmL cs < 2 ^ 64 := by
  have h1 : (lcmL cs) ^ 3 ≤ (3 ^ 40) ^ 3 := by
    rw [← Nat.pow_mul]
    exact Nat.le_trans (lcmL_cube cs) (Nat.pow_le_pow_right (by decide) h)
  have h2 : lcmL cs ≤ 3 ^ 40 := (Nat.pow_le_pow_iff_left (by decide)).mp h1
  exact Nat.lt_of_le_of_lt h2 (by decide)
end Sv


set_option maxHeartbeats 4000000
namespace Sv
open PySem PySem.Spec PyProof.Rows L2
section
variable {P : Program} {w : World} {K : PySem.W.Frag} {mg : Str → Option Value} {base : Heap}
/-! ### order_of -/
theorem scOrderOf : FnScope ["effect", "times", "cycle"] ["effect"] (defScope sOrderOf) := ⟨rfl, rfl, rfl, by decide +kernel, rfl, by decide +kernel, by decide +kernel⟩
def spOrderOf (K : PySem.W.Frag) : Sp := fun vs H Q _ => ∃ (a : Addr) (e : List Nat), vs = [.ref a] ∧ SqT K H a (vN e) ∧ Eff e ∧ e.length ≤ 120 ∧ ∀ H', Same H H' → Q (.int (ord e : Nat)) H'
theorem ok_orderOf (T : Bd P K mg) : FnOk P w K mg base CX0 3 T.aOrderOf T.dOrderOf ["effect"] (spOrderOf K) := by
  have GY : FnOk P w K mg base CX0 2 T.aCyclesOf T.dCyclesOf ["effect"] (spCyclesOf K) := ok_cyclesOf T
  refine T.OrderOf.F.ok scOrderOf (fun vs H Q E h => ?_) (fun cdv A outer s H vs Q E hr h => ?_)
  · obtain ⟨a, e, rfl, _⟩ := h
    rfl
  · obtain ⟨a, e, rfl, hA, he, la, q⟩ := h
    refine ⟨_, (pss_cons (ps_set (i := 1) scOrderOf.nd rfl (Or.inl rfl) pe_int)
      (pss_cons (ps_for PassesOwn.never rfl (pi_list (pe_call (E := E0) GY (hr.mono (by decide)) (by rfl) T.CyclesOf.g T.CyclesOf.F.kp T.CyclesOf.b .nil pass0 (pa_cons (pv 0) pa_nil))) (pg_name (i := 2) scOrderOf.nd rfl (Or.inl rfl)) (pss_one (ps_set (i := 1) scOrderOf.nd rfl (Or.inl rfl) (pe_callBfun cr_lcm (by rfl) T.lcm (pa_cons (pv 1) (pa_cons (pe_callB call_len_seq (by rfl) T.bt.len b_len (pa_cons (pv 2) pa_nil)) pa_nil))))))
      (pss_one (ps_ret (pv 1))))), ?_⟩
    have W := (wheels_ok he).1
    refine ⟨.ref a, rfl, a, e, rfl, hA, he, by omega, fun H1 f ps sm nf hf hps => ?_⟩
    refine ⟨f, rfl, ⟨_, .inl (.inl hf)⟩, for_list (xs := ps.map V.ref) (fun i σ H' => (∃ y2, σ = [some (.ref a), some (.int (lcmL ((wheels e).take i) : Nat)), y2]) ∧ H' = H1) ⟨⟨none, rfl⟩, rfl⟩ (fun i σ H' _ h => by rw [h.2]; exact .inl (.inl hf)) (fun i x σ H' hx ⟨⟨y2, es⟩, eH⟩ => ?_) (fun σ H' ⟨⟨y2, es⟩, eH⟩ => ?_)⟩
    · subst es
      subst eH
      obtain ⟨p, hpi, rfl⟩ := refs_lt hx
      obtain ⟨cc, hcc, hp1⟩ := tupL_at hps i p hpi
      obtain ⟨s0, hs0, ecc⟩ := W.cy cc (List.mem_of_getElem? hcc)
      have hple := (per_spec he hs0).2.2.2
      have hcl : cc.length ≤ e.length := by rw [ecc, cyc_len]; exact hple
      have hb : lcmL ((wheels e).take i) < 2 ^ 64 := by
        refine lcmL_64 ?_
        have h1 : ((wheels e).take i).flatten.length ≤ (wheels e).flatten.length := by
          conv => rhs; rw [← List.take_append_drop i (wheels e), List.flatten_append, List.length_append]
          omega
        have := W.flat_len he
        omega
      refine ⟨.int (lcmL ((wheels e).take i) : Nat), rfl, .ref p, rfl, p, vN cc, rfl, .inr (.inl (.inl hp1)), _, cc.length, by rw [vN_len], hb, ?_, ⟨some (.ref p), ?_⟩, rfl⟩
      · exact Nat.lt_of_le_of_lt (by omega : cc.length ≤ 120) (by decide)
      · rw [List.take_add_one, hcc]
        show _ = [some (V.ref a), some (V.int (lcmL ((wheels e).take i ++ [cc]) : Nat)), some (V.ref p)]
        rw [lcmL_snoc]
        rfl
    · subst es
      subst eH
      rw [List.length_map, tupL_len hps, List.take_length]
      exact ⟨.int (ord e : Nat), rfl, q H' sm⟩
theorem Val.num120 {zs : List Int} {rs : List Ro} (v : Val zs rs) : rs.length + sumN zs ≤ 120 := by
  have := sumN_le v.z2
  have := v.z1
  have := v.r1
  omega
/-! ### period, return_time -/
theorem scPeriod : FnScope ["plan", "state", "lap"] ["plan", "state"] (defScope sPeriod) := ⟨rfl, rfl, rfl, by decide +kernel, rfl, by decide +kernel, by decide +kernel⟩
def spPeriod (K : PySem.W.Frag) (C CS : Addr) : Sp := fun vs H Q E => ∃ (p s : Addr) (zs : List Int) (rs : List Ro) (t : Int) (L : Lay Int), vs = [.ref p, .ref s] ∧ PlanAt K H p zs rs ∧ Small zs rs ∧ StateAt K H s t L ∧ BadE C zs rs H E ∧
  (bad zs rs = none → ¬ StOk zs rs t L → ∀ H', Same H H' → E (.ref CS) none H') ∧ (bad zs rs = none → StOk zs rs t L → ∀ H', Same H H' → Q (.int (perT zs rs t : Nat)) H')
theorem ok_period (T : Bd P K mg) : FnOk P w K mg base (L2.CX P w) 6 T.aPeriod T.dPeriod ["plan", "state"] (spPeriod K T.C T.CS) := by
  have GP : FnOk P w K mg base (L2.CX P w) 4 T.aCheckPlan T.dCheckPlan ["plan"] (spCheckPlan K T.C) := ok_checkPlan T
  have GS : FnOk P w K mg base (L2.CX P w) 3 T.aCheckState T.dCheckState ["plan", "state"] (spCheckState K T.CS) := ok_checkState T
  have GI : FnOk P w K mg base CX0 3 T.aLap T.dLap ["self", "plan", "time"] (spLapInit K T.CLap) := ok_lapInit T
  have GO : FnOk P w K mg base CX0 3 T.aOrderOf T.dOrderOf ["effect"] (spOrderOf K) := ok_orderOf T
  refine T.Period.F.okX scPeriod (fun vs H Q E h => ?_) (fun cdv A outer s H vs Q E hr h => ?_)
  · obtain ⟨p, s, zs, rs, t, L, rfl, _⟩ := h
    rfl
  · obtain ⟨p, s, zs, rs, t, L, rfl, hp, hs, hst, q1, q2, q3⟩ := h
    have hr1 : Room 4 _ := hr.mono (by decide)
    refine ⟨_, (pss_cons (ps_expr (pe_call (E := E) GP (hr.mono (by decide)) (by rfl) T.CheckPlan.g T.CheckPlan.F.kp T.CheckPlan.b .nil (passes_call (takes_of rfl rfl rfl rfl) fun _ _ _ _ h => h) (pa_cons (pv 0) pa_nil)))
      (pss_cons (ps_expr (pe_call (E := E) GS (hr.mono (by decide)) (by rfl) T.CheckState.g T.CheckState.F.kp T.CheckState.b .nil (passes_call (takes_of rfl rfl rfl rfl) fun _ _ _ _ h => h) (pa_cons (pv 0) (pa_cons (pv 1) pa_nil))))
      (pss_cons (ps_set (i := 2) scPeriod.nd rfl (Or.inl rfl) (pe_make T.lap.m GI hr1 (by rfl) T.lap.g T.lap.b .nil pass0 (pa_cons (pv 0) (pa_cons (pe_ix ix_tup (pv 1) pe_int (fun _ _ => rfl)) pa_nil))))
      (pss_one (ps_ret (pe_op op_mul (pe_fld (pv 2) rfl) (pe_call (E := E0) GO (hr.mono (by decide)) (by rfl) T.OrderOf.g T.OrderOf.F.kp T.OrderOf.b .nil pass0 (pa_cons (pe_fld (pv 2) rfl) pa_nil)))))))), ?_⟩
    refine ⟨.ref p, rfl, p, zs, rs, rfl, hp, hs, fun e1 H1 sm1 => ?_, q1⟩
    have hv := val_of e1
    refine ⟨.ref p, rfl, .ref s, rfl, p, s, zs, rs, t, L, rfl, hp.same sm1, hv, hst.same sm1, fun hok H2 sm2 => ?_, fun hno H2 sm2 => q2 e1 hno H2 (sm1.trans sm2)⟩
    have smA := sm1.trans sm2
    have hpA := hp.same smA
    obtain ⟨ca, sh, hs1, hL⟩ := (hst.same smA).ex
    refine ⟨.ref p, rfl, .ref s, rfl, s, _, 0, .int t, rfl, rfl, hs1, rfl, fun la dl n1 n2 ne => ⟨la, dl, p, t, zs, rs, rfl, upd_same, hpA.same (same_of (same_upd n2) n1), hv, fun HL o lap => ⟨rfl, ?_⟩⟩⟩
    have smL := same_make n1 n2 o
    obtain ⟨dx, st, le, ef, fs, srw, lrw, h1, h2, h3, h4, h5, h6, h7, h8, h9, h10⟩ := lap.ex
    have n120 := hv.num120
    obtain ⟨l1, l60⟩ := lc_le hv.r2
    refine ⟨.ref la, rfl, la, T.CLap, dx, fs, _, rfl, h1, T.lap.c, T.lap.n1, h2, .ref la, rfl, la, T.CLap, dx, fs, _, rfl, h1, T.lap.c, T.lap.n4, h5, ef, wh rs.length zs rs t, rfl, .inl (.inl h10), wh_eff .., by rw [wh_len]; exact n120, fun HM smM => ?_⟩
    have q := q3 e1 hok HM ((smA.trans smL).trans smM)
    have p64 : (60 : Int) < 2 ^ 64 := by decide
    have m64 : -(2 ^ 64 : Int) < 0 := by decide
    refine ⟨_, _, rfl, rfl, .inl ⟨by omega, by omega⟩, ?_⟩
    unfold perT at q
    rw [Int.natCast_mul] at q
    exact q
def spReturnTime (K : PySem.W.Frag) (C CS CU : Addr) : Sp := fun vs H Q E => ∃ (p s : Addr) (zs : List Int) (rs : List Ro) (t x : Int) (L : Lay Int), vs = [.ref p, .ref s, .int x] ∧ PlanAt K H p zs rs ∧ Small zs rs ∧ StateAt K H s t L ∧ BadE C zs rs H E ∧
  (bad zs rs = none → ¬ StOk zs rs t L → ∀ H', Same H H' → E (.ref CS) none H') ∧ (bad zs rs = none → StOk zs rs t L → x ∉ join L → ∀ H', Same H H' → E (.ref CU) none H') ∧
  (bad zs rs = none → StOk zs rs t L → ∀ i : Nat, (join L)[i]? = some x → ∀ H', Same H H' → Q (.int (retT zs rs t i : Nat)) H')
end
end Sv


set_option maxHeartbeats 4000000
namespace Sv
/-! ### parcels that meet, counted -/
def meetS (x y : Int) (s : List Int) : Bool := decide (x ∈ s) && decide (y ∈ s)
def meetsB (L : Lay Int) (x y : Int) : Bool := L.2.any (meetS x y)
noncomputable def mB (zs : List Int) (rs : List Ro) (t : Int) (L : Lay Int) (x y : Int) (k : Nat) : Bool := meetsB (advA 0 zs rs t (k : Nat) L) x y
theorem mB_per {zs : List Int} {rs : List Ro} (h : ∀ r ∈ rs, r ≠ []) (hp : 1 ≤ lc rs) (t : Int) {L : Lay Int} (hf : Fits rs.length zs L) (x y : Int) (k : Nat) : mB zs rs t L x y (perT zs rs t + k) = mB zs rs t L x y k := by
  unfold mB
  congr 1
  have e1 := advA_add (0 : Int) zs h hp t (perT zs rs t : Nat) (k : Nat) L
  have e2 := adv_period (0 : Int) zs h hp t 1 hf
  rw [Int.one_mul] at e2
  rw [e2] at e1
  rw [Int.natCast_add, ← e1]
  unfold advA
  rw [effT_mod rs.length zs h hp (m := t + (perT zs rs t : Nat)) (m' := t) ⟨(ord (wh rs.length zs rs t) : Nat), by
    unfold perT
    rw [Int.natCast_mul]
    omega⟩]
def cntM (f : Nat → Bool) (n : Nat) : Nat := ((List.range n).filter f).length
theorem cntM_add (f : Nat → Bool) (a b : Nat) : cntM f (a + b) = cntM f a + cntM (fun j => f (a + j)) b := by
  unfold cntM
  rw [List.range_add, List.filter_append, List.length_append, List.filter_map, List.length_map]
  rfl
theorem cntM_per {f : Nat → Bool} {W : Nat} (h : ∀ j, f (W + j) = f j) (c : Nat) : ∀ m : Nat, cntM f (m * W + c) = m * cntM f W + cntM f c
  | 0 => by rw [Nat.zero_mul, Nat.zero_mul, Nat.zero_add, Nat.zero_add]
  | m + 1 => by
    have e : (m + 1) * W + c = W + (m * W + c) := by rw [Nat.succ_mul]; omega
    rw [e, cntM_add, show (fun j => f (W + j)) = f from funext h, cntM_per h c m, Nat.succ_mul]
    omega
theorem cntM_in (f : Nat → Bool) {c W : Nat} (h : c ≤ W) : (((List.range (W + 1)).filter f).filter fun k => decide (1 ≤ k) && decide (k ≤ c)).length = cntM (fun j => f (j + 1)) c := by
  rw [List.filter_filter]
  obtain ⟨d, rfl⟩ : ∃ d, W = c + d := ⟨W - c, by omega⟩
  have e : c + d + 1 = (c + 1) + d := by omega
  rw [e, List.range_add, List.filter_append, List.length_append]
  have z : (List.filter (fun a => (decide (1 ≤ a) && decide (a ≤ c)) && f a) ((List.range d).map ((c + 1) + ·))) = [] := by
    refine List.filter_eq_nil_iff.mpr fun a ha => ?_
    obtain ⟨j, _, rfl⟩ := List.mem_map.mp ha
    have : decide (c + 1 + j ≤ c) = false := decide_eq_false (by omega)
    rw [this]
    simp
  rw [z, List.range_succ_eq_map, List.filter_cons]
  have z2 : ((decide (1 ≤ 0) && decide (0 ≤ c)) && f 0) = false := by simp
  rw [z2]
  show (List.filter _ ((List.range c).map Nat.succ)).length + 0 = _
  rw [List.filter_map, List.length_map, Nat.add_zero]
  unfold cntM
  congr 1
  refine List.filter_congr fun j hj => ?_
  have hj' := List.mem_range.mp hj
  show ((decide (1 ≤ j + 1) && decide (j + 1 ≤ c)) && f (j + 1)) = f (j + 1)
  rw [decide_eq_true (by omega : 1 ≤ j + 1), decide_eq_true (by omega : j + 1 ≤ c)]
  rfl
theorem cntM_pos (f : Nat → Bool) (W : Nat) : (((List.range (W + 1)).filter f).filter fun k => decide (0 < k)).length = cntM (fun j => f (j + 1)) W := by
  rw [← cntM_in f (Nat.le_refl W)]
  congr 1
  refine List.filter_congr fun k hk => ?_
  have := List.mem_range.mp (List.mem_filter.mp hk).1
  rw [decide_eq_true (by omega : k ≤ W), Bool.and_true]
  exact decide_eq_decide.mpr (by omega)
/-- the first of them -/
theorem first_in {f : Nat → Bool} {W k : Nat} {r : List Nat} (h : (List.range W).filter f = k :: r) : f k = true ∧ ∀ j, j < k → f j = false := by
  have hk : k ∈ (List.range W).filter f := by rw [h]; exact List.mem_cons_self ..
  obtain ⟨hW, hf⟩ := List.mem_filter.mp hk
  refine ⟨hf, fun j hj => ?_⟩
  cases e : f j with
  | false => rfl
  | true =>
    have hm : j ∈ (List.range W).filter f := List.mem_filter.mpr ⟨List.mem_range.mpr (by have := List.mem_range.mp hW; omega), e⟩
    have hp : ((List.range W).filter f).Pairwise (· < ·) := List.Pairwise.filter _ List.pairwise_lt_range
    rw [h] at hm hp
    rcases List.mem_cons.mp hm with z | z
    · omega
    · have := (List.pairwise_cons.mp hp).1 j z
      omega
theorem none_in {f : Nat → Bool} {W : Nat} (hW : 0 < W) (h : ∀ j, f (W + j) = f j) (e : ∀ k, k < W → f k = false) : ∀ k, f k = false := by
  intro k
  induction k using Nat.strongRecOn with
  | _ k ih =>
    by_cases hk : k < W
    · exact e k hk
    · obtain ⟨j, rfl⟩ : ∃ j, k = W + j := ⟨k - W, by omega⟩
      rw [h]
      exact ih j (by omega)
end Sv


set_option maxHeartbeats 2000000
/-! who meets whom, told by shelves of places -/
namespace Sv
/-- the shelf of each place on the first k shelves -/
def tagN (zs : List Int) : Nat → List (Option Nat)
  | 0 => []
  | k + 1 => tagN zs k ++ List.replicate (zs.getD k 0).toNat (some k)
theorem tagN_len (zs : List Int) : ∀ k, k ≤ zs.length → (tagN zs k).length = sumN (zs.take k)
  | 0, _ => rfl
  | k + 1, h => by
    have g : zs[k]? = some zs[k] := List.getElem?_eq_getElem (by omega)
    unfold tagN
    rw [List.length_append, List.length_replicate, tagN_len zs k (by omega), List.take_add_one, g, List.getD_eq_getElem?_getD, g]
    show _ = sumN (zs.take k ++ [zs[k]])
    rw [sumN_snoc]
    rfl
def tags (zs : List Int) (n : Nat) : List (Option Nat) := List.replicate n none ++ tagN zs zs.length
theorem tags_len (zs : List Int) (n : Nat) : (tags zs n).length = n + sumN zs := by
  unfold tags
  rw [List.length_append, List.length_replicate, tagN_len zs _ (Nat.le_refl _), List.take_length]
def tag (zs : List Int) (n i : Nat) : Option Nat := (tags zs n).getD i none
theorem tagN_lt (zs : List Int) : ∀ k, ∀ s, some s ∈ tagN zs k → s < k
  | 0, s, h => by cases h
  | k + 1, s, h => by
    unfold tagN at h
    rcases List.mem_append.mp h with h | h
    · have := tagN_lt zs k s h
      omega
    · have := (List.mem_replicate.mp h).2
      injection this with this
      omega
theorem flat_take1 {α : Type} {ss : List (List α)} {i : Nat} {s : List α} (h : ss[i]? = some s) : (ss.take (i + 1)).flatten = (ss.take i).flatten ++ s := by
  rw [List.take_add_one, h, List.flatten_append]
  simp
theorem row_of {ss : List (List Int)} {zs : List Int} (hl : ss.map List.length = zs.map Int.toNat) : ∀ k : Nat, k ≤ ss.length → ∀ (i : Nat) (x : Int), ((ss.take k).flatten)[i]? = some x → ∃ (m : Nat) (s : List Int), m < k ∧ ss[m]? = some s ∧ x ∈ s ∧ (tagN zs k)[i]? = some (some m)
  | 0, _, i, x, h => by simp at h
  | k + 1, hk, i, x, h => by
    have g : ss[k]? = some ss[k] := List.getElem?_eq_getElem (by omega)
    have lz : ss.length = zs.length := by
      have := congrArg List.length hl
      simpa using this
    have gz : zs[k]? = some zs[k] := List.getElem?_eq_getElem (by omega)
    have hlen : ss[k].length = (zs.getD k 0).toNat := by
      have := congrArg (fun l => l[k]?) hl
      simp only [List.getElem?_map, g, gz, Option.map_some] at this
      rw [List.getD_eq_getElem?_getD, gz]
      exact Option.some.inj this
    have fl : ((ss.take k).flatten).length = (tagN zs k).length := by
      rw [tagN_len zs k (by omega)]
      have e : (ss.take k).map List.length = (zs.take k).map Int.toNat := by rw [List.map_take, List.map_take, hl]
      exact flat_len2 e
    rw [flat_take1 g] at h
    unfold tagN
    by_cases hi : i < ((ss.take k).flatten).length
    · rw [List.getElem?_append_left hi] at h
      obtain ⟨m, s, h1, h2, h3, h4⟩ := row_of hl k (by omega) i x h
      exact ⟨m, s, by omega, h2, h3, by rw [List.getElem?_append_left (by omega)]; exact h4⟩
    · rw [List.getElem?_append_right (by omega)] at h
      refine ⟨k, ss[k], by omega, g, List.mem_of_getElem? h, ?_⟩
      have hj := (List.getElem?_eq_some_iff.mp h).1
      rw [List.getElem?_append_right (by omega), List.getElem?_replicate, if_pos (by omega)]
theorem row_one {ss : List (List Int)} (nd : ss.flatten.Nodup) {a b : Nat} {s u : List Int} {x : Int} (ha : ss[a]? = some s) (hb : ss[b]? = some u) (h1 : x ∈ s) (h2 : x ∈ u) : a = b := by
  have pw := (List.pairwise_flatten.mp nd).2
  have key : ∀ i j (hi : i < ss.length) (hj : j < ss.length), i < j → x ∈ ss[i] → x ∈ ss[j] → False := fun i j hi hj hij m1 m2 => (List.pairwise_iff_getElem.mp pw i j hi hj hij) x m1 x m2 rfl
  obtain ⟨la, ea⟩ := List.getElem?_eq_some_iff.mp ha
  obtain ⟨lb, eb⟩ := List.getElem?_eq_some_iff.mp hb
  rcases Nat.lt_trichotomy a b with z | z | z
  · exact (key a b la lb z (by rw [ea]; exact h1) (by rw [eb]; exact h2)).elim
  · exact z
  · exact (key b a lb la z (by rw [eb]; exact h2) (by rw [ea]; exact h1)).elim
/-- on the same shelf -/
def sameT (a b : Option Nat) : Bool := match a with
  | some s => decide (b = some s)
  | none => false
theorem tag_at {zs : List Int} {n : Nat} {L : Lay Int} (hf : Fits n zs L) (nd : (join L).Nodup) {i : Nat} {x : Int} (hi : (join L)[i]? = some x) :
    (tag zs n i = none ∧ ∀ s ∈ L.2, x ∉ s) ∨ ∃ m s, tag zs n i = some m ∧ L.2[m]? = some s ∧ x ∈ s := by
  unfold join at hi nd
  unfold tag tags
  by_cases h : i < L.1.length
  · rw [List.getElem?_append_left h] at hi
    refine .inl ⟨?_, fun s hs hx => ?_⟩
    · rw [List.getD_eq_getElem?_getD, List.getElem?_append_left (by rw [List.length_replicate, ← hf.1]; exact h), List.getElem?_replicate, if_pos (by rw [← hf.1]; exact h)]
      rfl
    · exact (List.nodup_append.mp nd).2.2 x (List.mem_of_getElem? hi) x (List.mem_flatten.mpr ⟨s, hs, hx⟩) rfl
  · rw [List.getElem?_append_right (by omega)] at hi
    have lz : L.2.length = zs.length := by
      have := congrArg List.length hf.2
      simpa using this
    obtain ⟨m, s, h1, h2, h3, h4⟩ := row_of hf.2 L.2.length (Nat.le_refl _) (i - L.1.length) x (by rw [List.take_length]; exact hi)
    refine .inr ⟨m, s, ?_, h2, h3⟩
    rw [List.getD_eq_getElem?_getD, List.getElem?_append_right (by rw [List.length_replicate, ← hf.1]; omega), List.length_replicate, ← hf.1, ← lz, h4]
    rfl
theorem meets_tag {zs : List Int} {n : Nat} {L : Lay Int} (hf : Fits n zs L) (nd : (join L).Nodup) {i j : Nat} {x y : Int} (hi : (join L)[i]? = some x) (hj : (join L)[j]? = some y) : meetsB L x y = sameT (tag zs n i) (tag zs n j) := by
  have ndf : L.2.flatten.Nodup := by
    unfold join at nd
    exact (List.nodup_append.mp nd).2.1
  have no : ∀ {z : Int}, (∀ s ∈ L.2, z ∉ s) → ∀ (b : Int), meetsB L z b = false ∧ meetsB L b z = false := fun {z} hz b => by
    unfold meetsB
    refine ⟨List.any_eq_false.mpr fun s hs => ?_, List.any_eq_false.mpr fun s hs => ?_⟩
    · unfold meetS
      rw [decide_eq_false (hz s hs)]
      simp
    · unfold meetS
      rw [decide_eq_false (hz s hs), Bool.and_false]
      simp
  rcases tag_at hf nd hi with ⟨e1, h1⟩ | ⟨m, s, e1, h1, h2⟩
  · rw [e1, (no h1 y).1]
    rfl
  · rcases tag_at hf nd hj with ⟨e2, g1⟩ | ⟨k, u, e2, g1, g2⟩
    · rw [e1, e2, (no g1 x).2]
      rfl
    · rw [e1, e2]
      show _ = decide (some k = some m)
      by_cases e : k = m
      · subst e
        obtain rfl : s = u := Option.some.inj (h1.symm.trans g1)
        rw [decide_eq_true rfl]
        unfold meetsB
        refine List.any_eq_true.mpr ⟨s, List.mem_of_getElem? h1, ?_⟩
        unfold meetS
        rw [decide_eq_true h2, decide_eq_true g2]
        rfl
      · rw [decide_eq_false (fun z => e (Option.some.inj z))]
        unfold meetsB
        refine List.any_eq_false.mpr fun v hv => ?_
        unfold meetS
        obtain ⟨q, hq⟩ := List.mem_iff_getElem?.mp hv
        by_cases x1 : x ∈ v
        · by_cases y1 : y ∈ v
          · have a1 := row_one ndf hq h1 x1 h2
            have a2 := row_one ndf hq g1 y1 g2
            omega
          · rw [decide_eq_false y1, Bool.and_false]
            simp
        · rw [decide_eq_false x1]
          simp
end Sv


set_option maxHeartbeats 2000000
/-! meetings lap by lap -/
namespace Sv
section
variable (zs : List Int) (rs : List Ro) (t : Int)
/-- the place, after k ticks, of what is at place i -/
noncomputable def pos (k i : Nat) : Nat := ap (effT rs.length zs rs t (k : Nat)) i
noncomputable def mk (i j k : Nat) : Bool := sameT (tag zs rs.length (pos zs rs t k i)) (tag zs rs.length (pos zs rs t k j))
/-- the shelf, r ticks into a lap, of what is at place i before it -/
noncomputable def rowT (i r : Nat) : Option Nat := tag zs rs.length (ap (fwd rs.length zs rs t r) i)
noncomputable def lapM (i j : Nat) : List Bool := (List.range (lc rs)).map fun r => sameT (rowT zs rs t i (r + 1)) (rowT zs rs t j (r + 1))
noncomputable def mkL (laps i j : Nat) : List Bool := (List.range laps).flatMap fun m => lapM zs rs t (it (wh rs.length zs rs t) m i) (it (wh rs.length zs rs t) m j)
variable {rs}
variable (h : ∀ r ∈ rs, r ≠ []) (hp : 1 ≤ lc rs)
include h hp
theorem pos_lap {m r i : Nat} (hi : i < rs.length + sumN zs) : pos zs rs t (m * lc rs + r) i = ap (fwd rs.length zs rs t r) (it (wh rs.length zs rs t) m i) := by
  have wl := wh_len rs.length zs rs t
  have k := effT_key rs.length zs h hp t (m : Nat) r
  unfold pos
  have e : ((m * lc rs + r : Nat) : Int) = (m : Nat) * (lc rs : Int) + (r : Nat) := by rw [Int.natCast_add, Int.natCast_mul]
  rw [e, ← k, comp_ap (by rw [rep_len, wl]; exact hi), rep_ap (by rw [wl]; exact hi), rp_nat (wh_eff ..) m (by rw [wl]; exact hi)]
theorem mk_lap {m r i j : Nat} (hi : i < rs.length + sumN zs) (hj : j < rs.length + sumN zs) : mk zs rs t i j (m * lc rs + r) = sameT (rowT zs rs t (it (wh rs.length zs rs t) m i) r) (rowT zs rs t (it (wh rs.length zs rs t) m j) r) := by
  unfold mk rowT
  rw [pos_lap zs t h hp hi, pos_lap zs t h hp hj]
theorem mkL_eq {i j : Nat} (hi : i < rs.length + sumN zs) (hj : j < rs.length + sumN zs) : ∀ laps, mkL zs rs t laps i j = (List.range (laps * lc rs)).map fun k => mk zs rs t i j (k + 1)
  | 0 => by
    rw [Nat.zero_mul]
    rfl
  | laps + 1 => by
    have ih := mkL_eq hi hj laps
    unfold mkL at ih ⊢
    rw [List.range_succ, List.flatMap_append, ih, Nat.succ_mul, List.range_add, List.map_append]
    congr 1
    rw [List.flatMap_cons, List.flatMap_nil, List.append_nil, List.map_map]
    unfold lapM
    refine List.map_congr_left fun r _ => ?_
    have e := mk_lap zs t h hp (m := laps) (r := r + 1) hi hj
    show _ = mk zs rs t i j (laps * lc rs + r + 1)
    rw [← Nat.add_assoc] at e
    rw [e]
theorem mk_per {i j W : Nat} (hi : i < rs.length + sumN zs) (hj : j < rs.length + sumN zs) (h1 : per (wh rs.length zs rs t) i ∣ W) (h2 : per (wh rs.length zs rs t) j ∣ W) (k : Nat) : mk zs rs t i j (W * lc rs + k) = mk zs rs t i j k := by
  have wl := wh_len rs.length zs rs t
  have we := wh_eff rs.length zs rs t
  have dm := Nat.div_add_mod k (lc rs)
  have e1 : W * lc rs + k = (k / lc rs + W) * lc rs + k % lc rs := by
    rw [Nat.add_mul, Nat.mul_comm (k / lc rs)]
    omega
  have e2 : k = k / lc rs * lc rs + k % lc rs := by
    rw [Nat.mul_comm]
    omega
  have back : ∀ {p : Nat}, p < rs.length + sumN zs → per (wh rs.length zs rs t) p ∣ W → it (wh rs.length zs rs t) (k / lc rs + W) p = it (wh rs.length zs rs t) (k / lc rs) p := fun {p} hp2 d => by
    rw [it_add, (it_eq_iff we (by rw [wl]; exact hp2) W).mpr d]
  conv => rhs; rw [e2]
  rw [e1, mk_lap zs t h hp hi hj, mk_lap zs t h hp hi hj, back hi h1, back hj h2]
theorem mB_mk {L : Lay Int} (hf : Fits rs.length zs L) (nd : (join L).Nodup) {i j : Nat} {x y : Int} (hi : (join L)[i]? = some x) (hj : (join L)[j]? = some y) (k : Nat) : mB zs rs t L x y k = mk zs rs t i j k := by
  have jl := join_len hf
  have il := (List.getElem?_eq_some_iff.mp hi).1
  have jl2 := (List.getElem?_eq_some_iff.mp hj).1
  have at' : ∀ {p : Nat} {z : Int}, (join L)[p]? = some z → p < rs.length + sumN zs → (join (advA 0 zs rs t (k : Nat) L))[pos zs rs t k p]? = some z := fun {p z} hz hl => by
    unfold pos
    rw [join_advA, moveA_at 0 (effT_eff ..) (by rw [effT_len, jl]) (by rw [effT_len]; exact hl)]
    exact hz
  have nd2 : (join (advA 0 zs rs t (k : Nat) L)).Nodup := by
    rw [advA_nat 0 zs h hp t k hf]
    have e := run_org (0 : Int) hf rs t k
    rw [e]
    have oe := org_eff rs.length zs rs t k
    have ol := org_len rs.length zs rs t k
    refine List.pairwise_map.mpr (oe.2.imp_of_mem fun {a b} ha hb ne q => ne ?_)
    have ha' := oe.1 a ha
    have hb' := oe.1 b hb
    rw [List.getD_eq_getElem?_getD, List.getD_eq_getElem?_getD, List.getElem?_eq_getElem (by omega), List.getElem?_eq_getElem (by omega)] at q
    exact (List.getElem_inj nd).mp q
  unfold mB mk
  exact meets_tag (advA_fits ..) nd2 (at' hi (by omega)) (at' hj (by omega))
end
end Sv


set_option maxHeartbeats 4000000
/-! how often a plain item stands in a list -/
namespace Sv
open PySem PySem.Spec PyProof.Rows L2
def cntV (y : V) (ys : List V) : Nat := ys.countP fun z => eqV z y
theorem cnt_vals {y : V} : ∀ {ys : List V} {us : List Value}, Vals ys us → ys.all flatV = true → us.countP (eqU y) = cntV y ys
  | _, _, .nil, _ => rfl
  | z :: ys, u :: us, .cons r t, f => by
    rw [List.all_cons, Bool.and_eq_true] at f
    have ih := cnt_vals (y := y) t f.2
    unfold cntV at ih ⊢
    rw [List.countP_cons, List.countP_cons, ih, eqU_of r f.1]
def rCountF (K : PySem.W.Frag) : V → List V → Hp → VK → Prop := fun x xs H Q => ∃ (p : Addr) (ys : List V) (y : V), x = .ref p ∧ xs = [y] ∧ SqL K H p ys ∧ flatV y = true ∧ ys.all flatV = true ∧ Q (.int (cntV y ys : Nat)) H
theorem mt_countF {X : Cx} : MtR X "list.count" (rCountF X.K) := by
  intro pins s σ H x xs v us Q I rx rs hq
  obtain ⟨p, ys, y, rfl, rfl, hs, g1, g2, q⟩ := hq
  cases rx
  obtain ⟨u, rfl, ru⟩ := rs.one
  obtain ⟨its, rv, ⟨⟨c0, dd, d0, sl⟩, n, ho, hc, hdn, hd⟩, hlen⟩ := I.list hs
  simp only at hc hd
  subst hc hd
  have ec : its.toArray.toList.countP (eqU y) = cntV y ys := cnt_vals rv g2
  refine call_meets PySem.F.slot_list_count ⟨_, ho, rfl⟩ PySem.F.entry_list_count (PySem.F.args_list_count_2 _ _)
    (SeqAt.list_countAt p its.toArray n dd sl u (eqU y)) ⟨ho, fun w hw => mem_eqAt ru g1 rv g2 w (by simpa using hw), .int (cntV y ys : Nat), H, I.tok _, ⟨s.toks, ?_⟩, q⟩
  show Value.int ((its.toArray.toList.countP (eqU y) : Nat) : Int) s.toks = Value.int ((cntV y ys : Nat) : Int) s.toks
  rw [ec]
end Sv


set_option maxHeartbeats 4000000
/-! a comprehension within a comprehension -/
namespace Sv
open PySem PySem.Spec PyProof.Rows L2
theorem look_map {f : Str → NameKind → NameKind} : ∀ {l : List (Str × NameKind)} {y : Str} {k : NameKind}, l.lookup y = some k → (l.map fun (n, q) => (n, f n q)).lookup y = some (f y k)
  | [], _, _, h => by cases h
  | (n, q) :: l, y, k, h => by
    rw [List.map_cons]
    rw [List.lookup_cons] at h ⊢
    by_cases e : (y == n) = true
    · rw [e] at h ⊢
      have e2 : y = n := eq_of_beq e
      cases h
      rw [e2]
    · have e3 : (y == n) = false := by simpa using e
      rw [e3] at h ⊢
      exact look_map h
theorem blk_in {N : List Str} {s1 s2 : Scope} {own : List (Str × Nat)} (env : Env) (h : BlkOk N s1 s2 own) : BlkOk N (relabel s1 env) s2 own := by
  refine ⟨h.kind, h.uniq, h.ix, fun y hy e => ?_, h.own⟩
  have e0 : (relabel s1 env).names = s1.names.map fun (n, k) => (n, if (k == .free && env.scope.kind == .function && env.kindOf n == some .cell) then NameKind.cell else k) := by
    unfold relabel
    refine List.map_congr_left fun p _ => ?_
    obtain ⟨n, k⟩ := p
    dsimp only
    split <;> rfl
  rw [e0]
  rcases h.free y hy e with k | k
  · exact .inl ((look_map (f := fun n k => if (k == .free && env.scope.kind == .function && env.kindOf n == some .cell) then NameKind.cell else k) k).trans (by simp))
  · have := look_map (f := fun n k => if (k == .free && env.scope.kind == .function && env.kindOf n == some .cell) then NameKind.cell else k) k
    rw [this]
    split
    · exact .inl rfl
    · exact .inr rfl
end Sv


set_option maxHeartbeats 4000000
namespace Sv
open PySem PySem.Spec PyProof.Rows L2
/-! ### shelves of places, as values -/
def tagV : Option Nat → V
  | some s => .int (s : Nat)
  | none => .non
def shelvesL (zs : List Int) (n : Nat) : List V := (tags zs n).map tagV
theorem shelvesL_len (zs : List Int) (n : Nat) : (shelvesL zs n).length = n + sumN zs := by
  unfold shelvesL
  rw [List.length_map, tags_len]
theorem shelvesL_at {zs : List Int} {n i : Nat} (h : i < n + sumN zs) : (shelvesL zs n)[i]? = some (tagV (tag zs n i)) := by
  unfold shelvesL tag
  rw [List.getElem?_map, List.getD_eq_getElem?_getD, List.getElem?_eq_getElem (by rw [tags_len]; exact h)]
  rfl
def plV : List V → V
  | [_, b, _] => b
  | _ => .non
theorem posV_plV (k m : Nat) : (posV k m).map plV = List.replicate m (V.int (k : Nat)) := by
  unfold posV
  rw [List.map_map]
  refine List.eq_replicate_iff.mpr ⟨by simp, fun b hb => ?_⟩
  obtain ⟨p, _, rfl⟩ := List.mem_map.mp hb
  rfl
theorem shN_plV (zs : List Int) : ∀ k, (shN zs k).map plV = (tagN zs k).map tagV
  | 0 => rfl
  | k + 1 => by
    unfold shN tagN
    rw [List.map_append, List.map_append, shN_plV zs k, posV_plV, List.map_replicate]
    rfl
theorem places_plV (zs : List Int) (n : Nat) : (placesV zs n).map plV = shelvesL zs n := by
  unfold placesV shelvesL tags
  rw [List.map_append, List.map_append, shN_plV, List.map_replicate]
  congr 1
  unfold carV
  rw [List.map_map]
  refine List.eq_replicate_iff.mpr ⟨by simp, fun b hb => ?_⟩
  obtain ⟨p, _, rfl⟩ := List.mem_map.mp hb
  rfl
def NewLv (H : Hp) (xs : List V) (Q : VK) : Prop := ∀ H' f, Same H H' → H f = none → H' f = some (.lst xs) → Q (.ref f) H'
theorem NewLv.imp {H H1 : Hp} {xs : List V} {Q : VK} (h : NewLv H xs Q) (e : Same H H1) : NewLv H1 xs Q := fun H' f sm hf => h H' f (e.trans sm) (Same.free e hf)
section
variable {P : Program} {w : World} {K : PySem.W.Frag} {mg : Str → Option Value} {base : Heap}
theorem scShelvesOf : FnScope ["plan", "place"] ["plan"] (defScope sShelvesOf) := ⟨rfl, rfl, rfl, by decide +kernel, rfl, by decide +kernel, by decide +kernel⟩
def spShelvesOf (K : PySem.W.Frag) : Sp := fun vs H Q _ => ∃ (p : Addr) (zs : List Int) (rs : List Ro), vs = [.ref p] ∧ PlanAt K H p zs rs ∧ Val zs rs ∧ NewLv H (shelvesL zs rs.length) Q
theorem ok_shelvesOf (T : Bd P K mg) : FnOk P w K mg base CX0 2 T.aShelvesOf T.dShelvesOf ["plan"] (spShelvesOf K) := by
  have GO : FnOk P w K mg base CX0 1 T.aPlacesOf T.dPlacesOf ["plan"] (spPlacesOf K) := ok_placesOf T
  refine T.ShelvesOf.F.ok scShelvesOf (fun vs H Q E h => ?_) (fun cdv A outer s H vs Q E hr h => ?_)
  · obtain ⟨p, zs, rs, rfl, _⟩ := h
    rfl
  · obtain ⟨p, zs, rs, rfl, hp, hv, q⟩ := h
    refine ⟨_, (pss_one (ps_ret (pe_lc (own := [("place", 1)]) (g := gName 1) (tt := tYes) (te := tIf (tTest (tOp rEq (tOp (rIxT K) (tVar 1) (tC (.int 0))) (tC (.str "shelf")))) (tOp (rIxT K) (tVar 1) (tC (.int 1))) (tC .non)) rfl scShelvesOf.nd (pi_list (pe_call (E := E0) GO hr (by rfl) T.PlacesOf.g T.PlacesOf.F.kp T.PlacesOf.b .nil pass0 (pa_cons (pv 0) pa_nil))) (blkOk_by (N := ["plan", "place"]) (sc := defScope sShelvesOf) (by decide +kernel)) (fun _ _ _ _ _ => pg_name (i := 1) scShelvesOf.nd rfl (Or.inl rfl)) (fun _ _ _ _ _ => pts_nil) (fun _ _ _ _ _ => pe_ifExp (pt_cmpR op_eq (pe_ix ix_tup (pv 1) pe_int (fun _ _ => rfl)) pe_str (nomark _)) (pe_ix ix_tup (pv 1) pe_int (fun _ _ => rfl)) pe_non)))), ?_⟩
    have hn := hv.num
    have pln := placesV_len zs rs.length fun z hz => (hv.z2 z hz).1
    refine ⟨.ref p, rfl, p, zs, rs, rfl, hp, hv.toGood, fun H1 f sm1 nf tl => ?_⟩
    obtain ⟨ps, kf, tv⟩ := tl.ex
    have hpl := tupsV_len tv
    refine ⟨f, rfl, ⟨_, .inl (.inl kf)⟩, fun D hD => lc_list (xs := ps.map V.ref) (fun i H' => Same H1 H' ∧ H' D = some (.lst ((shelvesL zs rs.length).take i))) ⟨same_upd hD, upd_same⟩ (fun i H' _ h => .inl (.inl (h.1 _ _ kf))) (fun i x H' hx ⟨sm, kD⟩ => ?_) (fun H' ⟨sm, kD⟩ => ?_)⟩
    · obtain ⟨u, hu, rfl⟩ := refs_lt hx
      obtain ⟨pl, hpl2, hut⟩ := tupsV_at (tupsV_same sm tv) hu
      have hi := (List.getElem?_eq_some_iff.mp hu).1
      have hat : (shelvesL zs rs.length)[i]? = some (plV pl) := by rw [← places_plV, List.getElem?_map, hpl2]; rfl
      have hnext : ∀ v, v = plV pl → ∃ acc, H' D = some (.lst acc) ∧ acc.length < sizeLine ∧ Same H1 (upd H' D (.lst (acc ++ [v]))) ∧ (upd H' D (.lst (acc ++ [v]))) D = some (.lst ((shelvesL zs rs.length).take (i + 1))) := fun v hv2 => by
        refine ⟨_, kD, ?_, same_of sm hD, ?_⟩
        · rw [List.length_take, shelvesL_len]
          exact small1000 (by omega)
        · rw [upd_same, hv2, List.take_add_one, hat]
          rfl
      have hIs := placesV_is pl (List.mem_of_getElem? hpl2)
      cases hIs with
      | car c =>
        refine ⟨rfl, yes_go ⟨.ref u, rfl, u, _, 0, V.str "carrier", rfl, rfl, .inl (.inl hut), rfl, rfl, _, rfl, ?_⟩⟩
        rw [decide_eq_false (by decide)]
        exact iteF (hnext .non rfl)
      | pos m j =>
        refine ⟨rfl, yes_go ⟨.ref u, rfl, u, _, 0, V.str "shelf", rfl, rfl, .inl (.inl hut), rfl, rfl, _, rfl, ?_⟩⟩
        rw [decide_eq_true rfl]
        exact iteT ⟨.ref u, rfl, u, _, 1, V.int (m : Nat), rfl, rfl, .inl (.inl hut), rfl, hnext _ rfl⟩
    · rw [List.length_map, hpl, pln, ← shelvesL_len zs rs.length, List.take_length] at kD
      exact q H' D (sm1.trans sm) (Same.free sm1 hD) kD
end
end Sv


set_option maxHeartbeats 4000000
namespace Sv
open PySem PySem.Spec PyProof.Rows L2
def retVal (i : Nat) (s : Stmt) : Expr := match (defBody s).getD i (.Pass ⟨0, 0, 0, 0⟩) with
  | .Return (some v) _ => v
  | _ => .Name "x" ⟨0, 0, 0, 0⟩
def lcScope : Expr → Scope
  | .ListComp _ _ s _ => s
  | _ => default
/-- the shelves, tick by tick, of what is at place i before a lap -/
noncomputable def shV (zs : List Int) (rs : List Ro) (t : Int) (i : Nat) : List V := (List.range (lc rs)).map fun r => tagV (rowT zs rs t i (r + 1))
theorem shV_len (zs : List Int) (rs : List Ro) (t : Int) (i : Nat) : (shV zs rs t i).length = lc rs := by unfold shV; simp
noncomputable def shVs (zs : List Int) (rs : List Ro) (t : Int) : List (List V) := (List.range (rs.length + sumN zs)).map (shV zs rs t)
theorem RI.push {H3 H' H2 : Hp} {D l : Addr} {ss : List (List V)} {s : List V} (h : RI H3 H' D ss) (hD : H3 D = none) (sm : Same H' H2) (hl : H' l = none) (kl : H2 l = some (.lst s)) (hs : ss.length ≤ 1000) :
    ∃ acc, H2 D = some (.lst acc) ∧ acc.length < sizeLine ∧ RI H3 (upd H2 D (.lst (acc ++ [.ref l]))) D (ss ++ [s]) := by
  obtain ⟨sm0, rw, kD, rl, nd, hrw⟩ := h
  have n0 : H3 l = none := Same.free sm0 hl
  have nD : D ≠ l := ne_of_none kD hl
  have hrl := rowV_len rl
  have hl2 : l ∉ rw := rowV_free rl hl
  refine ⟨rw.map V.ref, sm _ _ kD, ?_, same_of (sm0.trans sm) hD, rw ++ [l], ?_, ?_, ?_, ?_⟩
  · rw [List.length_map, hrl]
    exact small1000 hs
  · rw [upd_same, List.map_append]
    rfl
  · refine rowV_snoc (by rw [upd_ne (Ne.symm nD)]; exact kl) (rowV_imp (fun q hq o ho => ?_) rl)
    rw [upd_ne (hrw q hq).2]
    exact sm _ _ ho
  · refine List.nodup_append.mpr ⟨nd, (by simp), fun x hx y hy z => ?_⟩
    rw [List.mem_singleton.mp hy] at z
    exact hl2 (by rw [← z]; exact hx)
  · intro q hq
    rcases List.mem_append.mp hq with hq | hq
    · exact hrw q hq
    · rw [List.mem_singleton.mp hq]
      exact ⟨n0, Ne.symm nD⟩
section
variable {P : Program} {w : World} {K : PySem.W.Frag} {mg : Str → Option Value} {base : Heap}
/-! ### shelves_in_a_lap -/
def nSl : List Str := ["plan", "lap", "shelves", "stop", "stops"]
theorem scShelvesLap : FnScope nSl ["plan", "lap"] (defScope sShelvesLap) := ⟨rfl, rfl, rfl, by decide +kernel, rfl, by decide +kernel, by decide +kernel⟩
def NewRows (H : Hp) (ss : List (List V)) (Q : VK) : Prop := ∀ H' f rw, Same H H' → H' f = some (.lst (rw.map V.ref)) → RowV H' rw ss → Q (.ref f) H'
def spShelvesLap (K : PySem.W.Frag) (C : Addr) : Sp := fun vs H Q _ => ∃ (p la : Addr) (zs : List Int) (rs : List Ro) (t : Int), vs = [.ref p, .ref la] ∧ PlanAt K H p zs rs ∧ Val zs rs ∧ LapAt H C la zs rs t ∧ NewRows H (shVs zs rs t) Q
abbrev rNotNo : R2 := fun x y H Q => y = .non ∧ Q (.bl (!decide (x = .non))) H
abbrev rFmod : R2 := rI (fun _ j => j ≠ 0) fun i j => .int (i.fmod j)
/-- int(x) -/
abbrev tInt (t : TE) : TE := tCB (fun xs H Q => (∃ i, xs = [.int i] ∧ Q (.int i) H) ∨ ∃ k, xs = [.bl k] ∧ Q (.int (if k then 1 else 0)) H) (tCons t tNil)
abbrev tLenS (K : PySem.W.Frag) (t : TE) : TE := tCB (fun xs H Q => ∃ p ys, xs = [.ref p] ∧ (SqL K H p ys ∨ SqT K H p ys) ∧ Q (.int ys.length) H) (tCons t tNil)
def tShIn (K : PySem.W.Frag) : TE := tLc (iList K (tSl (rSlL K) (tVar 4) (tPart (tC (.int 1))) tNoPart)) (gName 3) tYes (tOp (rIxL K) (tVar 2) (tVar 3)) ([("stop", 3)].map (·.2))
theorem ok_shelvesLap (T : Bd P K mg) : FnOk P w K mg base CX0 3 T.aShelvesLap T.dShelvesLap ["plan", "lap"] (spShelvesLap K T.CLap) := by
  have GS : FnOk P w K mg base CX0 2 T.aShelvesOf T.dShelvesOf ["plan"] (spShelvesOf K) := ok_shelvesOf T
  refine T.ShelvesLap.F.ok scShelvesLap (fun vs H Q E h => ?_) (fun cdv A outer s H vs Q E hr h => ?_)
  · obtain ⟨p, la, zs, rs, t, rfl, _⟩ := h
    rfl
  · obtain ⟨p, la, zs, rs, t, rfl, hp, hv, lap, q⟩ := h
    refine ⟨_, (pss_cons (ps_set (i := 2) scShelvesLap.nd rfl (Or.inr rfl) (pe_call (E := E0) GS hr (by rfl) T.ShelvesOf.g T.ShelvesOf.F.kp T.ShelvesOf.b .nil pass0 (pa_cons (pv 0) pa_nil)))
      (pss_one (ps_ret (pe_lc (own := [("stops", 4)]) (g := gName 4) (tt := tYes) (te := tShIn K) rfl scShelvesLap.nd (pi_list (pe_fld (pv 1) rfl)) (blkOk_by (N := nSl) (sc := defScope sShelvesLap) (by decide +kernel)) (fun _ _ _ _ _ => pg_name (i := 4) scShelvesLap.nd rfl (Or.inl rfl)) (fun _ _ _ _ _ => pts_nil) (fun _ _ _ _ _ => pe_lc (own := [("stop", 3)]) (g := gName 3) (tt := tYes) (te := tOp (rIxL K) (tVar 2) (tVar 3)) rfl scShelvesLap.nd (pi_list (pe_slice sl_list (pv 4) (po_some pe_int) po_none)) (blk_in _ (blkOk_by (N := nSl) (sc := { kind := .function, names := [(".0", .local), ("stops", .local), ("shelves", .free)], isGenerator := false, isCoroutine := false }) (by decide +kernel))) (fun _ _ _ _ _ => pg_name (i := 3) scShelvesLap.nd rfl (Or.inl rfl)) (fun _ _ _ _ _ => pts_nil) (fun _ _ _ _ _ => pe_ix ix_list (pv 2) (pv 3) (fun _ _ => rfl))))))), ?_⟩
    have hn := hv.num
    obtain ⟨l1, l60⟩ := lc_le hv.r2
    refine ⟨.ref p, rfl, p, zs, rs, rfl, hp, hv, fun H1 f sm1 nf kf => ?_⟩
    obtain ⟨dx, st, le, ef, fs, srw, lrw, h1, h2, h3, h4, h5, h6, h7, h8, h9, h10⟩ := (lap.same sm1).ex
    have hsl := rowV_len h7
    have esl : (stopsV rs.length zs rs t (lc rs)).length = rs.length + sumN zs := by unfold stopsV; rw [List.length_map, List.length_range]
    refine ⟨.ref la, rfl, la, T.CLap, dx, fs, _, rfl, h1, T.lap.c, T.lap.n2, h3, st, rfl, ⟨_, .inl (.inl h6)⟩, fun D hD => lc_list (xs := srw.map V.ref) (fun i H' => RI H1 H' D ((List.range i).map (shV zs rs t))) (RI.start hD) (fun i H' _ h => .inl (.inl (h.1 _ _ h6))) (fun i x H' hx h => ?_) (fun H' ⟨sm, rw2, kD, rl, _, _⟩ => ?_)⟩
    · obtain ⟨q1, hq1, rfl⟩ := refs_lt hx
      have hi := (List.getElem?_eq_some_iff.mp hq1).1
      obtain ⟨s1, es1, kq1⟩ := rowV_at (rowV_imp (fun q _ o ho => h.1 _ _ ho) h7) hq1
      unfold stopsV at es1
      rw [List.getElem?_map, List.getElem?_range (by omega)] at es1
      obtain rfl := Option.some.inj es1
      refine ⟨rfl, yes_go ⟨.ref q1, rfl, 1, rfl, q1, _, rfl, .inl (.inl kq1), fun c hc => ?_⟩⟩
      have ecut : cutV (stopV rs.length zs rs t (lc rs) i) (some 1) none = (stopV rs.length zs rs t (lc rs) i).drop 1 := cut_from (k := 1)
      rw [ecut]
      have smc : Same H' (upd H' c (.lst ((stopV rs.length zs rs t (lc rs) i).drop 1))) := same_upd hc
      have kc : (upd H' c (.lst ((stopV rs.length zs rs t (lc rs) i).drop 1))) c = some (.lst ((stopV rs.length zs rs t (lc rs) i).drop 1)) := upd_same
      generalize upd H' c (.lst ((stopV rs.length zs rs t (lc rs) i).drop 1)) = Hc at smc kc ⊢
      refine ⟨c, rfl, ⟨_, .inl (.inl kc)⟩, fun D2 hD2 => lc_list (xs := (stopV rs.length zs rs t (lc rs) i).drop 1) (fun k H2 => Same Hc H2 ∧ H2 D2 = some (.lst ((shV zs rs t i).take k))) ⟨same_upd hD2, upd_same⟩ (fun k H2 _ g => .inl (.inl (g.1 _ _ kc))) (fun k y H2 hy ⟨sm2, k2⟩ => ?_) (fun H2 ⟨sm2, k2⟩ => ?_)⟩
      · rw [List.getElem?_drop] at hy
        unfold stopV at hy
        rw [List.getElem?_map] at hy
        cases hk : (List.range (lc rs + 1))[1 + k]? with
        | none => rw [hk] at hy; cases hy
        | some j =>
          rw [hk] at hy
          obtain rfl := Option.some.inj hy
          have hkl := (List.getElem?_eq_some_iff.mp hk).1
          rw [List.length_range] at hkl
          rw [List.getElem?_range hkl] at hk
          obtain rfl := Option.some.inj hk
          have hlt := ap_lt (fwd_eff rs.length zs rs t (1 + k)) (x := i) (by rw [fwd_len]; omega)
          rw [fwd_len] at hlt
          refine ⟨rfl, yes_go ⟨.ref f, rfl, .int (ap (fwd rs.length zs rs t (1 + k)) i : Nat), rfl, f, _, _, _, rfl, rfl, .inl (.inl (sm2 _ _ (smc _ _ (h.1 _ _ kf)))), atI_nat (shelvesL_at hlt), _, k2, ?_, same_of sm2 hD2, ?_⟩⟩
          · rw [List.length_take, shV_len]
            exact small1000 (by omega)
          · have e1 : (shV zs rs t i)[k]? = some (tagV (tag zs rs.length (ap (fwd rs.length zs rs t (1 + k)) i))) := by
              unfold shV rowT
              rw [List.getElem?_map, List.getElem?_range (by omega), Nat.add_comm 1 k]
              rfl
            rw [upd_same, List.take_add_one, e1]
            rfl
      · have el : ((stopV rs.length zs rs t (lc rs) i).drop 1).length = (shV zs rs t i).length := by rw [List.length_drop, stopV_len, shV_len]; omega
        rw [el, List.take_length] at k2
        obtain ⟨acc, a1, a2, a3⟩ := h.push hD (smc.trans sm2) (Same.free smc hD2) k2 (by rw [List.length_map, List.length_range]; omega)
        exact ⟨acc, a1, a2, by rw [List.range_succ (n := i), List.map_append]; exact a3⟩
    · rw [List.length_map, hsl, esl] at rl
      exact q H' D rw2 (sm1.trans sm) kD rl
/-! ### marks_in_a_lap -/
def nMl : List Str := ["row", "other", "shelf", "there"]
theorem scMarksLap : FnScope nMl ["row", "other"] (defScope sMarksLap) := ⟨rfl, rfl, rfl, by decide +kernel, rfl, by decide +kernel, by decide +kernel⟩
def blV (l : List Bool) : List V := l.map V.bl
theorem blV_len (l : List Bool) : (blV l).length = l.length := by unfold blV; simp
theorem lapM_len (zs : List Int) (rs : List Ro) (t : Int) (i j : Nat) : (lapM zs rs t i j).length = lc rs := by unfold lapM; simp
def spMarksLap (K : PySem.W.Frag) : Sp := fun vs H Q _ => ∃ (a b : Addr) (zs : List Int) (rs : List Ro) (t : Int) (i j : Nat), vs = [.ref a, .ref b] ∧ SqL K H a (shV zs rs t i) ∧ SqL K H b (shV zs rs t j) ∧ lc rs ≤ 1000 ∧ NewLv H (blV (lapM zs rs t i j)) Q
theorem same_tag (a b : Option Nat) : tagV a ≠ .non → decide (tagV a = tagV b) = sameT a b := fun h => by
  cases a with
  | none => exact absurd rfl h
  | some s =>
    cases b with
    | none =>
      show decide (V.int (s : Nat) = V.non) = decide ((none : Option Nat) = some s)
      rw [decide_eq_false (by simp), decide_eq_false (by simp)]
    | some u =>
      show decide (V.int (s : Nat) = V.int (u : Nat)) = decide (some u = some s)
      by_cases e : s = u
      · subst e
        rw [decide_eq_true rfl, decide_eq_true rfl]
      · rw [decide_eq_false (fun z => e (by have := V.int.inj z; omega)), decide_eq_false (fun z => e (Option.some.inj z).symm)]
theorem tagV_scal (a b : Option Nat) : scal (tagV a) (tagV b) = true := by cases a <;> cases b <;> rfl
theorem ok_marksLap (T : Bd P K mg) : FnOk P w K mg base CX0 1 T.aMarksLap T.dMarksLap ["row", "other"] (spMarksLap K) := by
  refine T.MarksLap.F.ok scMarksLap (fun vs H Q E h => ?_) (fun cdv A outer s H vs Q E hr h => ?_)
  · obtain ⟨a, b, zs, rs, t, i, j, rfl, _⟩ := h
    rfl
  · obtain ⟨a, b, zs, rs, t, i, j, rfl, hA, hB, hl, q⟩ := h
    refine ⟨_, (pss_one (ps_ret (pe_lc (own := [("shelf", 2), ("there", 3)]) (g := gTup K 2 (gCons (gName 2) (gCons (gName 3) gNil))) (tt := tYes) (te := tAndV (tOp rNotNo (tVar 2) (tC .non)) (tOp rEq (tVar 2) (tVar 3))) rfl scMarksLap.nd (RZ.pi_zipA (by rfl) T.bt.zip (pa_cons (pv 0) (pa_cons (pv 1) pa_nil))) (blkOk_by (N := nMl) (sc := defScope sMarksLap) (by decide +kernel)) (fun _ _ _ _ _ => (pg_tup rfl (pgs_cons (pg_name (i := 2) scMarksLap.nd rfl (.inl rfl)) (pgs_cons (pg_name (i := 3) scMarksLap.nd rfl (.inl rfl)) pgs_nil)))) (fun _ _ _ _ _ => pts_nil) (fun _ _ _ _ _ => pe_and (pe_cmpR op_notN (pv 2) pe_non (nomark _)) (pe_one (pe_cmpR op_eq (pv 2) (pv 3) (nomark _))))))), ?_⟩
    have len1 := shV_len zs rs t i
    have len2 := shV_len zs rs t j
    refine ⟨.ref a, rfl, .ref b, rfl, a, b, _, _, rfl, .inl ⟨hA, hB, fun D hD => lc_it (walk_zip (n := lc rs) (xs := shV zs rs t i) (ys := shV zs rs t j) (by omega)) (fun k H' => Same H H' ∧ H' D = some (.lst (blV ((lapM zs rs t i j).take k)))) ⟨same_upd hD, upd_same⟩ (fun k H' _ h => ⟨Same.seq h.1 hA, Same.seq h.1 hB⟩) (fun k x H' H2 hk ⟨sm, kD⟩ hY => ?_) (fun H' ⟨sm, kD⟩ => ?_)⟩⟩
    · obtain ⟨U, x1, x2, rfl, nU, rfl, e1, e2⟩ := hY
      dsimp only at e1 e2
      unfold shV at e1 e2
      rw [List.getElem?_map, List.getElem?_range hk] at e1 e2
      have f1 : x1 = tagV (rowT zs rs t i (k + 1)) := (Option.some.inj e1).symm
      have f2 : x2 = tagV (rowT zs rs t j (k + 1)) := (Option.some.inj e2).symm
      subst f1
      subst f2
      have smU : Same H (upd H' U (.tup [tagV (rowT zs rs t i (k + 1)), tagV (rowT zs rs t j (k + 1))])) := same_of sm (Same.free sm nU)
      have DU : D ≠ U := ne_of_none kD nU
      have kU : (upd H' U (.tup [tagV (rowT zs rs t i (k + 1)), tagV (rowT zs rs t j (k + 1))])) D = some (.lst (blV ((lapM zs rs t i j).take k))) := by rw [upd_ne DU]; exact kD
      refine ⟨U, _, rfl, .inl (.inl upd_same), rfl, _, _, rfl, _, _, rfl, rfl, rfl, yes_go ?_⟩
      generalize upd H' U (.tup [tagV (rowT zs rs t i (k + 1)), tagV (rowT zs rs t j (k + 1))]) = H5 at smU kU ⊢
      have hm : (lapM zs rs t i j)[k]? = some (sameT (rowT zs rs t i (k + 1)) (rowT zs rs t j (k + 1))) := by
        unfold lapM
        rw [List.getElem?_map, List.getElem?_range hk]
        rfl
      have fin : ∀ bb, bb = sameT (rowT zs rs t i (k + 1)) (rowT zs rs t j (k + 1)) → ∃ acc, H5 D = some (.lst acc) ∧ acc.length < sizeLine ∧ Same H (upd H5 D (.lst (acc ++ [V.bl bb]))) ∧ (upd H5 D (.lst (acc ++ [V.bl bb]))) D = some (.lst (blV ((lapM zs rs t i j).take (k + 1)))) := fun bb hb => by
        refine ⟨_, kU, ?_, same_of smU hD, ?_⟩
        · rw [blV_len, List.length_take, lapM_len]
          exact small1000 (by omega)
        · rw [upd_same, hb, List.take_add_one, hm]
          unfold blV
          rw [List.map_append]
          rfl
      refine ⟨_, rfl, rfl, _, rfl, ?_⟩
      cases e : rowT zs rs t i (k + 1) with
      | none =>
        rw [e] at fin
        have c1 : (!decide (tagV none = V.non)) = false := by
          rw [decide_eq_true (show tagV none = V.non from rfl)]
          rfl
        rw [c1]
        exact iteF (fin false rfl)
      | some m =>
        rw [e] at fin
        have c1 : (!decide (tagV (some m) = V.non)) = true := by
          rw [decide_eq_false (show ¬ tagV (some m) = V.non from fun z => by cases z)]
          rfl
        rw [c1]
        refine iteT ⟨_, rfl, _, rfl, tagV_scal _ _, fin _ (same_tag (some m) _ (by simp [tagV]))⟩
    · have e := lapM_len zs rs t i j
      rw [← e, List.take_length] at kD
      exact q H' D sm (Same.free (Same.refl H) hD) kD
/-! ### pairs_before_laps -/
def nPb : List Str := ["effect", "one", "other", "first", "second", "laps", "index"]
theorem scPairs : FnScope nPb ["effect", "one", "other"] (defScope sPairs) := ⟨rfl, rfl, rfl, by decide +kernel, rfl, by decide +kernel, by decide +kernel⟩
noncomputable def lapsN (e : List Nat) (i j : Nat) : Nat := Nat.lcm (per e i) (per e j)
noncomputable def pairsV (e : List Nat) (i j k : Nat) : List (List V) := (List.range k).map fun m => [V.int (it e m i : Nat), V.int (it e m j : Nat)]
def spPairs (K : PySem.W.Frag) : Sp := fun vs H Q _ => ∃ (a : Addr) (e : List Nat) (i j : Nat), vs = [.ref a, .int (i : Nat), .int (j : Nat)] ∧ SqT K H a (vN e) ∧ Eff e ∧ e.length ≤ 120 ∧ i < e.length ∧ j < e.length ∧ NewTL H (pairsV e i j (lapsN e i j)) Q
theorem lapsN_le {e : List Nat} (E : Eff e) {i j : Nat} (hl : e.length ≤ 120) (hi : i < e.length) (hj : j < e.length) : 1 ≤ lapsN e i j ∧ lapsN e i j ≤ 14400 := by
  have h1 := (per_spec E hi).2.2.2
  have h2 := (per_spec E hj).2.2.2
  have p1 := per_pos E hi
  have p2 := per_pos E hj
  unfold lapsN
  refine ⟨Nat.lcm_pos p1 p2, Nat.le_trans (Nat.le_of_dvd (Nat.mul_pos p1 p2) (Nat.lcm_dvd (Nat.dvd_mul_right ..) (Nat.dvd_mul_left ..))) ?_⟩
  exact Nat.mul_le_mul (by omega : per e i ≤ 120) (by omega : per e j ≤ 120)
theorem ok_pairs (T : Bd P K mg) : FnOk P w K mg base CX0 2 T.aPairs T.dPairs ["effect", "one", "other"] (spPairs K) := by
  have GC : FnOk P w K mg base CX0 1 T.aCycleFrom T.dCycleFrom ["effect", "start"] (spCycleFrom K) := ok_cycleFrom T
  refine T.Pairs.F.ok scPairs (fun vs H Q E h => ?_) (fun cdv A outer s H vs Q E hr h => ?_)
  · obtain ⟨a, e, i, j, rfl, _⟩ := h
    rfl
  · obtain ⟨a, e, i, j, rfl, hA, hE, hl, hi, hj, q⟩ := h
    refine ⟨_, (pss_cons (ps_set (i := 3) scPairs.nd rfl (Or.inr rfl) (pe_call (E := E0) GC hr (by rfl) T.CycleFrom.g T.CycleFrom.F.kp T.CycleFrom.b .nil pass0 (pa_cons (pv 0) (pa_cons (pv 1) pa_nil))))
      (pss_cons (ps_set (i := 4) scPairs.nd rfl (Or.inr rfl) (pe_call (E := E0) GC hr (by rfl) T.CycleFrom.g T.CycleFrom.F.kp T.CycleFrom.b .nil pass0 (pa_cons (pv 0) (pa_cons (pv 2) pa_nil))))
      (pss_cons (ps_set (i := 5) scPairs.nd rfl (Or.inl rfl) (pe_callBfun cr_lcm (by rfl) T.lcm (pa_cons (pe_callB call_len_seq (by rfl) T.bt.len b_len (pa_cons (pv 3) pa_nil)) (pa_cons (pe_callB call_len_seq (by rfl) T.bt.len b_len (pa_cons (pv 4) pa_nil)) pa_nil))))
      (pss_one (ps_ret (pe_lc (own := [("index", 6)]) (g := gName 6) (tt := tYes) (te := tTup (tCons (tOp (rIxT K) (tVar 3) (tOp rFmod (tInt (tVar 6)) (tLenS K (tVar 3)))) (tCons (tOp (rIxT K) (tVar 4) (tOp rFmod (tInt (tVar 6)) (tLenS K (tVar 4)))) tNil))) rfl scPairs.nd (pi_range1 (by rfl) T.bt.range (pa_cons (pv 5) pa_nil)) (blkOk_by (N := nPb) (sc := defScope sPairs) (by decide +kernel)) (fun _ _ _ _ _ => pg_name (i := 6) scPairs.nd rfl (Or.inl rfl)) (fun _ _ _ _ _ => pts_nil) (fun _ _ _ _ _ => pe_tup (pa_cons (pe_ix ix_tup (pv 3) (pe_op op_modN (pe_callTy call_int1 (by rfl) T.bt.int b_int (pa_cons (pv 6) pa_nil)) (pe_callB call_len_seq (by rfl) T.bt.len b_len (pa_cons (pv 3) pa_nil))) (fun _ _ => rfl)) (pa_cons (pe_ix ix_tup (pv 4) (pe_op op_modN (pe_callTy call_int1 (by rfl) T.bt.int b_int (pa_cons (pv 6) pa_nil)) (pe_callB call_len_seq (by rfl) T.bt.len b_len (pa_cons (pv 4) pa_nil))) (fun _ _ => rfl)) pa_nil))))))))), ?_⟩
    have p1 := per_pos hE hi
    have p2 := per_pos hE hj
    have le1 := (per_spec hE hi).2.2.2
    have le2 := (per_spec hE hj).2.2.2
    have b64 : (120 : Nat) < 2 ^ 64 := by decide
    have b62 : (14400 : Int) < 2 ^ 62 := by decide
    obtain ⟨lp, lq⟩ := lapsN_le hE hl hi hj
    refine ⟨.ref a, rfl, .int (i : Nat), rfl, a, e, i, rfl, hA, hE, hi, by omega, fun H1 c1 sm1 n1 k1 => ?_⟩
    refine ⟨.ref a, rfl, .int (j : Nat), rfl, a, e, j, rfl, sqT_same sm1 hA, hE, hj, by omega, fun H2 c2 sm2 n2 k2 => ?_⟩
    have k1' := sm2 _ _ k1
    refine ⟨.ref c1, rfl, c1, _, rfl, .inr (.inl (.inl k1')), .ref c2, rfl, c2, _, rfl, .inr (.inl (.inl k2)), per e i, per e j, by rw [vN_len, vN_len, cyc_len, cyc_len], by omega, by omega, ?_⟩
    refine ⟨.int (lapsN e i j : Nat), rfl, (lapsN e i j : Nat), rfl, by omega, by omega, fun D hD => ?_⟩
    rw [Int.toNat_natCast]
    refine lc_range (lo := 0) (n := lapsN e i j) (fun m H' => Same H2 H' ∧ TL H' D (pairsV e i j m)) ⟨same_upd hD, [], upd_same, .nil⟩ (fun m H' hm ⟨sm, tl⟩ => ?_) (fun H' ⟨sm, tl⟩ => ?_)
    · have ei : (0 : Int) + (m : Nat) = (m : Nat) := by omega
      rw [ei]
      obtain ⟨ps, hff, htv⟩ := tl.ex
      have a1 : (vN (cyc e i))[m % per e i]? = some (.int (it e m i : Nat)) := by
        have hlt := Nat.mod_lt m p1
        unfold vN
        rw [List.getElem?_map, cyc_at hlt, ← it_mod hE hi]
        rfl
      have a2 : (vN (cyc e j))[m % per e j]? = some (.int (it e m j : Nat)) := by
        have hlt := Nat.mod_lt m p2
        unfold vN
        rw [List.getElem?_map, cyc_at hlt, ← it_mod hE hj]
        rfl
      have m1 : Int.fmod (m : Nat) ((vN (cyc e i)).length : Nat) = ((m % per e i : Nat) : Int) := by
        rw [vN_len, cyc_len, Int.fmod_eq_emod_of_nonneg _ (by omega)]
        rfl
      have m2 : Int.fmod (m : Nat) ((vN (cyc e j)).length : Nat) = ((m % per e j : Nat) : Int) := by
        rw [vN_len, cyc_len, Int.fmod_eq_emod_of_nonneg _ (by omega)]
        rfl
      have z1 : ((vN (cyc e i)).length : Int) ≠ 0 := by rw [vN_len, cyc_len]; omega
      have z2 : ((vN (cyc e j)).length : Int) ≠ 0 := by rw [vN_len, cyc_len]; omega
      refine ⟨rfl, yes_go ⟨.ref c1, rfl, .int (m : Nat), rfl, .inl ⟨_, rfl, .ref c1, rfl, c1, _, rfl, .inr (.inl (.inl (sm _ _ k1'))), _, _, rfl, rfl, z1, c1, _, _, .int (it e m i : Nat), rfl, rfl, .inl (.inl (sm _ _ k1')), by rw [m1]; exact atI_nat a1, ?_⟩⟩⟩
      refine ⟨.ref c2, rfl, .int (m : Nat), rfl, .inl ⟨_, rfl, .ref c2, rfl, c2, _, rfl, .inr (.inl (.inl (sm _ _ k2))), _, _, rfl, rfl, z2, c2, _, _, .int (it e m j : Nat), rfl, rfl, .inl (.inl (sm _ _ k2)), by rw [m2]; exact atI_nat a2, (by show 2 ≤ sizeLine; decide), fun u hu => ?_⟩⟩
      refine ⟨ps.map V.ref, ?_, ?_, same_of (same_of sm (Same.free sm hu)) hD, ?_⟩
      · rw [upd_ne (ne_of_none hff hu)]
        exact hff
      · rw [tl.len hff]
        unfold pairsV
        rw [List.length_map, List.length_range, sizeLine_eq]
        omega
      · have e3 : pairsV e i j (m + 1) = pairsV e i j m ++ [[V.int (it e m i : Nat), V.int (it e m j : Nat)]] := by
          unfold pairsV
          rw [List.range_succ (n := m), List.map_append]
          rfl
        rw [e3]
        exact (tl.same (same_upd hu)).push (by rw [upd_ne (ne_of_none hff hu)]; exact hff) upd_same
    · exact q H' D ((sm1.trans sm2).trans sm) (Same.free (sm1.trans sm2) hD) tl
end
end Sv


set_option maxHeartbeats 4000000
namespace Sv
open PySem PySem.Spec PyProof.Rows L2
section
variable {P : Program} {w : World} {K : PySem.W.Frag} {mg : Str → Option Value} {base : Heap}
/-! ### marks_of_meetings -/
def nMm : List Str := ["plan", "state", "one", "other", "lap", "rows", "marks", "here", "there"]
theorem scMarks : FnScope nMm ["plan", "state", "one", "other"] (defScope sMarks) := ⟨rfl, rfl, rfl, by decide +kernel, rfl, by decide +kernel, by decide +kernel⟩
def spMarks (K : PySem.W.Frag) : Sp := fun vs H Q _ => ∃ (p s : Addr) (zs : List Int) (rs : List Ro) (t : Int) (L : Lay Int) (i j : Nat), vs = [.ref p, .ref s, .int (i : Nat), .int (j : Nat)] ∧ PlanAt K H p zs rs ∧ Val zs rs ∧ StateAt K H s t L ∧ i < rs.length + sumN zs ∧ j < rs.length + sumN zs ∧
  NewLv H (blV (mkL zs rs t (lapsN (wh rs.length zs rs t) i j) i j)) Q
theorem mkL_len (zs : List Int) (rs : List Ro) (t : Int) (i j : Nat) : ∀ laps, (mkL zs rs t laps i j).length = laps * lc rs
  | 0 => by
    rw [Nat.zero_mul]
    rfl
  | k + 1 => by
    have ih := mkL_len zs rs t i j k
    unfold mkL at ih ⊢
    rw [List.range_succ, List.flatMap_append, List.length_append, ih, List.flatMap_cons, List.flatMap_nil, List.append_nil, lapM_len, Nat.succ_mul]
theorem ok_marks (T : Bd P K mg) : FnOk P w K mg base CX0 6 T.aMarks T.dMarks ["plan", "state", "one", "other"] (spMarks K) := by
  have GI : FnOk P w K mg base CX0 3 T.aLap T.dLap ["self", "plan", "time"] (spLapInit K T.CLap) := ok_lapInit T
  have GS : FnOk P w K mg base CX0 3 T.aShelvesLap T.dShelvesLap ["plan", "lap"] (spShelvesLap K T.CLap) := ok_shelvesLap T
  have GP : FnOk P w K mg base CX0 2 T.aPairs T.dPairs ["effect", "one", "other"] (spPairs K) := ok_pairs T
  have GM : FnOk P w K mg base CX0 1 T.aMarksLap T.dMarksLap ["row", "other"] (spMarksLap K) := ok_marksLap T
  refine T.Marks.F.ok scMarks (fun vs H Q E h => ?_) (fun cdv A outer s H vs Q E hr h => ?_)
  · obtain ⟨p, s, zs, rs, t, L, i, j, rfl, _⟩ := h
    rfl
  · obtain ⟨p, s, zs, rs, t, L, i, j, rfl, hp, hv, hst, hi, hj, q⟩ := h
    have hr1 : Room 4 _ := hr.mono (by decide)
    refine ⟨_, (pss_cons (ps_set (i := 4) scMarks.nd rfl (Or.inl rfl) (pe_make T.lap.m GI hr1 (by rfl) T.lap.g T.lap.b .nil pass0 (pa_cons (pv 0) (pa_cons (pe_ix ix_tup (pv 1) pe_int (fun _ _ => rfl)) pa_nil))))
      (pss_cons (ps_set (i := 5) scMarks.nd rfl (Or.inl rfl) (pe_call (E := E0) GS (hr.mono (by decide)) (by rfl) T.ShelvesLap.g T.ShelvesLap.F.kp T.ShelvesLap.b .nil pass0 (pa_cons (pv 0) (pa_cons (pv 4) pa_nil))))
      (pss_cons (ps_set (i := 6) scMarks.nd rfl (Or.inl rfl) (pe_lst pa_nil))
      (pss_cons (ps_for PassesOwn.never rfl (pi_list (pe_call (E := E0) GP (hr.mono (by decide)) (by rfl) T.Pairs.g T.Pairs.F.kp T.Pairs.b .nil pass0 (pa_cons (pe_fld (pv 4) rfl) (pa_cons (pv 2) (pa_cons (pv 3) pa_nil))))) (pg_tup rfl (pgs_cons (pg_name (i := 7) scMarks.nd rfl (.inl rfl)) (pgs_cons (pg_name (i := 8) scMarks.nd rfl (.inl rfl)) pgs_nil))) (pss_one (ps_expr (pe_bm PySem.F.plainAttrs_list PySem.F.slot_list_extend PySem.F.type_list_extend mt_extend (pv 6) (pa_cons (pe_call (E := E0) GM (hr.mono (by decide)) (by rfl) T.MarksLap.g T.MarksLap.F.kp T.MarksLap.b .nil pass0 (pa_cons (pe_ix ix_list (pv 5) (pv 7) (fun _ _ => rfl)) (pa_cons (pe_ix ix_list (pv 5) (pv 8) (fun _ _ => rfl)) pa_nil))) pa_nil)))))
      (pss_one (ps_ret (pv 6))))))), ?_⟩
    have n120 := hv.num120
    obtain ⟨l1, l60⟩ := lc_le hv.r2
    have wl := wh_len rs.length zs rs t
    have we := wh_eff rs.length zs rs t
    obtain ⟨lp, lq⟩ := lapsN_le we (by omega) (by omega : i < (wh rs.length zs rs t).length) (by omega : j < (wh rs.length zs rs t).length)
    obtain ⟨ca, sh, hs1, hL⟩ := hst.ex
    refine ⟨.ref p, rfl, .ref s, rfl, s, _, 0, .int t, rfl, rfl, hs1, rfl, fun la dl n1 n2 ne => ⟨la, dl, p, t, zs, rs, rfl, upd_same, hp.same (same_of (same_upd n2) n1), hv, fun HL o lap => ⟨rfl, ?_⟩⟩⟩
    have smL := same_make n1 n2 o
    refine ⟨.ref p, rfl, .ref la, rfl, p, la, zs, rs, t, rfl, hp.same smL, hv, lap, fun HR f rw smR kf rl => ?_⟩
    have lapR := lap.same smR
    obtain ⟨dx, st, le, ef, fs, srw, lrw, h1, h2, h3, h4, h5, h6, h7, h8, h9, h10⟩ := lapR.ex
    have smA := smL.trans smR
    have hrl := rowV_len rl
    have esl : (shVs zs rs t).length = rs.length + sumN zs := by unfold shVs; rw [List.length_map, List.length_range]
    refine ⟨Nat.zero_le _, fun m hm => ?_⟩
    have sm0 : Same HR (upd HR m (.lst [])) := same_upd hm
    have km : (upd HR m (.lst [])) m = some (.lst (blV (mkL zs rs t 0 i j))) := upd_same
    generalize upd HR m (.lst []) = H0 at sm0 km ⊢
    refine ⟨.ref la, rfl, la, T.CLap, dx, fs, _, rfl, sm0 _ _ h1, T.lap.c, T.lap.n4, h5, .int (i : Nat), rfl, .int (j : Nat), rfl, ef, wh rs.length zs rs t, i, j, rfl, .inl (.inl (sm0 _ _ h10)), we, by omega, by omega, by omega, fun H2 g sm2 ng tl => ?_⟩
    obtain ⟨ps, kg, tv⟩ := tl.ex
    have hpl := tupsV_len tv
    have epl : (pairsV (wh rs.length zs rs t) i j (lapsN (wh rs.length zs rs t) i j)).length = lapsN (wh rs.length zs rs t) i j := by unfold pairsV; rw [List.length_map, List.length_range]
    have gm : g ≠ m := fun z => by rw [z, km] at ng; cases ng
    refine ⟨g, rfl, ⟨_, .inl (.inl kg)⟩, for_list (xs := ps.map V.ref) (fun k σ H' => (∃ y7 y8, σ = [some (.ref p), some (.ref s), some (.int (i : Nat)), some (.int (j : Nat)), some (.ref la), some (.ref f), some (.ref m), y7, y8]) ∧ Same HR H' ∧ H' g = some (.lst (ps.map V.ref)) ∧ TupsV H' ps (pairsV (wh rs.length zs rs t) i j (lapsN (wh rs.length zs rs t) i j)) ∧ H' m = some (.lst (blV (mkL zs rs t k i j))))
      ⟨⟨_, _, rfl⟩, sm0.trans sm2, kg, tv, sm2 _ _ km⟩ (fun k σ H' _ h => .inl (.inl h.2.2.1)) (fun k x σ H' hx ⟨⟨y7, y8, es⟩, sm, kg3, tv3, km3⟩ => ?_) (fun σ H' ⟨⟨y7, y8, es⟩, sm, kg3, tv3, km3⟩ => ?_)⟩
    · subst es
      obtain ⟨U, hU, rfl⟩ := refs_lt hx
      have hk := (List.getElem?_eq_some_iff.mp hU).1
      obtain ⟨t0, ht0, hUt⟩ := tupsV_at tv3 hU
      unfold pairsV at ht0
      rw [List.getElem?_map, List.getElem?_range (by omega)] at ht0
      have et : t0 = [V.int (it (wh rs.length zs rs t) k i : Nat), V.int (it (wh rs.length zs rs t) k j : Nat)] := (Option.some.inj ht0).symm
      subst et
      have li := it_lt we (k := k) (by omega : i < (wh rs.length zs rs t).length)
      have lj := it_lt we (k := k) (by omega : j < (wh rs.length zs rs t).length)
      have eapp : mkL zs rs t (k + 1) i j = mkL zs rs t k i j ++ lapM zs rs t (it (wh rs.length zs rs t) k i) (it (wh rs.length zs rs t) k j) := by
        unfold mkL
        rw [List.range_succ, List.flatMap_append, List.flatMap_cons, List.flatMap_nil, List.append_nil]
      generalize it (wh rs.length zs rs t) k i = a at hUt li eapp ⊢
      generalize it (wh rs.length zs rs t) k j = b at hUt lj eapp ⊢
      have rl3 := rowV_imp (fun q _ o ho => sm _ _ ho) rl
      obtain ⟨qa, hqa⟩ : ∃ qa, rw[a]? = some qa := ⟨_, List.getElem?_eq_getElem (by omega)⟩
      obtain ⟨qb, hqb⟩ : ∃ qb, rw[b]? = some qb := ⟨_, List.getElem?_eq_getElem (by omega)⟩
      obtain ⟨sa, esa, kqa⟩ := rowV_at rl3 hqa
      obtain ⟨sb, esb, kqb⟩ := rowV_at rl3 hqb
      unfold shVs at esa esb
      rw [List.getElem?_map, List.getElem?_range (by omega)] at esa esb
      have ea : sa = shV zs rs t a := (Option.some.inj esa).symm
      have eb : sb = shV zs rs t b := (Option.some.inj esb).symm
      subst ea
      subst eb
      refine ⟨U, _, rfl, .inl (.inl hUt), rfl, _, _, rfl, _, _, rfl, rfl, ?_⟩
      refine ⟨.ref m, rfl, .inl ⟨rfl, _, .inl (.inl km3)⟩, .ref f, rfl, .int (a : Nat), rfl, f, _, _, .ref qa, rfl, rfl, .inl (.inl (sm _ _ kf)), atI_nat (by rw [List.getElem?_map, hqa]; rfl), .ref f, rfl, .int (b : Nat), rfl, f, _, _, .ref qb, rfl, rfl, .inl (.inl (sm _ _ kf)), atI_nat (by rw [List.getElem?_map, hqb]; rfl), qa, qb, zs, rs, t, a, b, rfl, .inl (.inl kqa), .inl (.inl kqb), by omega, fun H4 u sm4 nu ku => ?_⟩
      have mu : m ≠ u := fun z => by rw [← z, km3] at nu; cases nu
      have lm := mkL_len zs rs t i j k
      have bk : k * lc rs ≤ 14400 * 60 := Nat.mul_le_mul (by omega) (by omega)
      refine ⟨m, u, _, _, rfl, rfl, sm4 _ _ km3, ku, ?_, ⟨_, _, rfl⟩, same_of (sm.trans sm4) hm, ?_, ?_, ?_⟩
      · rw [blV_len, blV_len, lapM_len, lm, sizeLine_eq]
        omega
      · rw [upd_ne gm]
        exact sm4 _ _ kg3
      · exact tupsV_imp (fun c xs hc => by rw [upd_ne (fun z => by rw [z, sm4 _ _ km3] at hc; cases hc)]; exact hc) (tupsV_same sm4 tv3)
      · rw [upd_same, eapp]
        unfold blV
        rw [List.map_append]
    · subst es
      rw [List.length_map, hpl, epl] at km3
      exact ⟨.ref m, rfl, q H' m (smA.trans sm) (Same.free smA hm) km3⟩
/-! ### count_in_ticks -/
theorem scCountIn : FnScope ["row", "wanted", "count", "rounds", "rest"] ["row", "wanted", "count"] (defScope sCountIn) := ⟨rfl, rfl, rfl, by decide +kernel, rfl, by decide +kernel, by decide +kernel⟩
def spCountIn (K : PySem.W.Frag) : Sp := fun vs H Q _ => ∃ (l : Addr) (xs : List V) (y : V) (c : Nat), vs = [.ref l, y, .int (c : Nat)] ∧ SqL K H l xs ∧ flatV y = true ∧ xs.all flatV = true ∧ c ≤ 1000000000000000000 ∧ 1 ≤ xs.length ∧ xs.length ≤ 1000000 ∧
  ∀ H', Same H H' → Q (.int (c / xs.length * cntV y xs + cntV y (xs.take (c % xs.length)) : Nat)) H'
theorem all_take {p : V → Bool} {xs : List V} (h : xs.all p = true) (k : Nat) : (xs.take k).all p = true := List.all_eq_true.mpr fun x hx => List.all_eq_true.mp h x (List.mem_of_mem_take hx)
theorem ok_countIn (T : Bd P K mg) : FnOk P w K mg base CX0 1 T.aCountIn T.dCountIn ["row", "wanted", "count"] (spCountIn K) := by
  refine T.CountIn.F.ok scCountIn (fun vs H Q E h => ?_) (fun cdv A outer s H vs Q E hr h => ?_)
  · obtain ⟨l, xs, y, c, rfl, _⟩ := h
    rfl
  · obtain ⟨l, xs, y, c, rfl, hS, fy, fx, hc, x1, x2, q⟩ := h
    refine ⟨_, (pss_cons (ps_asg (pe_callB call_divmod (by rfl) T.bt.divmod (by decide +kernel) (pa_cons (pv 2) (pa_cons (pe_callB call_len_seq (by rfl) T.bt.len b_len (pa_cons (pv 0) pa_nil)) pa_nil))) (pg_tup rfl (pgs_cons (pg_name (i := 3) scCountIn.nd rfl (.inl rfl)) (pgs_cons (pg_name (i := 4) scCountIn.nd rfl (.inl rfl)) pgs_nil))))
      (pss_one (ps_ret (pe_op op_add (pe_op op_mul (pv 3) (pe_bm PySem.F.plainAttrs_list PySem.F.slot_list_count PySem.F.type_list_count mt_countF (pv 0) (pa_cons (pv 1) pa_nil))) (pe_bm PySem.F.plainAttrs_list PySem.F.slot_list_count PySem.F.type_list_count mt_countF (pe_slice sl_list (pv 0) po_none (po_some (pv 4))) (pa_cons (pv 1) pa_nil)))))), ?_⟩
    refine ⟨.int (c : Nat), rfl, .ref l, rfl, l, _, rfl, .inl hS, (c : Nat), (xs.length : Nat), rfl, ⟨by omega, by omega⟩, fun tp htp => ?_⟩
    rw [← Int.natCast_ediv, ← Int.natCast_emod]
    have sm1 : Same H (upd H tp (.tup [.int (c / xs.length : Nat), .int (c % xs.length : Nat)])) := same_upd htp
    have k1 : (upd H tp (.tup [.int (c / xs.length : Nat), .int (c % xs.length : Nat)])) tp = some (.tup [.int (c / xs.length : Nat), .int (c % xs.length : Nat)]) := upd_same
    generalize upd H tp (.tup [.int (c / xs.length : Nat), .int (c % xs.length : Nat)]) = H1 at sm1 k1 ⊢
    have hS1 := Same.seq sm1 hS
    refine ⟨tp, _, rfl, .inl (.inl k1), rfl, _, _, rfl, _, _, rfl, rfl, ?_⟩
    have d1 : c / xs.length ≤ c := Nat.div_le_self _ _
    have p64 : (1000000000000000000 : Int) < 2 ^ 64 := by decide
    have m64 : -(2 ^ 64 : Int) < 0 := by decide
    have bd : -(2 ^ 64 : Int) < ((c / xs.length : Nat) : Int) ∧ ((c / xs.length : Nat) : Int) < 2 ^ 64 := by
      generalize c / xs.length = dd at d1 ⊢
      omega
    refine ⟨.int (c / xs.length : Nat), rfl, .ref l, rfl, .inl ⟨rfl, _, hS1⟩, y, rfl, l, xs, y, rfl, rfl, hS1, fy, fx, (c / xs.length : Nat), (cntV y xs : Nat), rfl, rfl, .inl bd, .ref l, rfl, .int (c % xs.length : Nat), rfl, _, rfl, l, xs, rfl, hS1, fun g hg => ?_⟩
    rw [cut_to]
    have kg : (upd H1 g (.lst (xs.take (c % xs.length)))) g = some (.lst (xs.take (c % xs.length))) := upd_same
    have sm2 := sm1.trans (same_upd (o := .lst (xs.take (c % xs.length))) hg)
    refine ⟨.inl ⟨rfl, _, .inl (.inl kg)⟩, y, rfl, g, _, y, rfl, rfl, .inl (.inl kg), fy, all_take fx _, _, _, rfl, rfl, ?_⟩
    have q := q _ sm2
    rw [Int.natCast_add, Int.natCast_mul] at q
    exact q
/-! ### first_meeting, ticks_together -/
theorem scFirst : FnScope ["plan", "state", "one", "other", "start", "target", "marks"] ["plan", "state", "one", "other"] (defScope sFirstMeeting) := ⟨rfl, rfl, rfl, by decide +kernel, rfl, by decide +kernel, by decide +kernel⟩
/-- the first k with f k -/
def FirstV (f : Nat → Bool) (v : V) : Prop := (∃ k : Nat, v = .int (k : Nat) ∧ f k = true ∧ ∀ j, j < k → f j = false) ∨ (v = .non ∧ ∀ k, f k = false)
theorem flat_bls (l : List Bool) : (blV l).all flatV = true := by
  unfold blV
  rw [List.all_map]
  exact List.all_eq_true.mpr fun _ _ => rfl
theorem eqV_bl (a : Bool) : eqV (.bl a) (.bl true) = a := by
  show (a == true) = a
  cases a <;> rfl
theorem inV_bls (l : List Bool) : inV (.bl true) (blV l) = l.any id := by
  unfold inV blV
  rw [List.any_map]
  congr 1
  funext a
  exact eqV_bl a
theorem cnt_bls (f : Nat → Bool) (n : Nat) : cntV (.bl true) (blV ((List.range n).map f)) = cntM f n := by
  unfold cntV blV cntM
  rw [List.countP_map, List.countP_map, List.countP_eq_length_filter]
  congr 1
  refine List.filter_congr fun a _ => ?_
  exact eqV_bl (f a)
/-- what the marks tell of the first meeting -/
theorem first_case {f : Nat → Bool} {W : Nat} (hW : 0 < W) (per : ∀ k, f (W + k) = f k) : (f W = true → FirstV f (.int 0)) ∧ ((∀ k, k < W → f (k + 1) = false) → FirstV f .non) ∧ (∀ j, f W = false → f (j + 1) = true → (∀ i, i < j → f (i + 1) = false) → FirstV f (.int ((j : Int) + 1))) := by
  have p0 : f W = f 0 := per 0
  refine ⟨fun h => .inl ⟨0, rfl, by rw [← p0]; exact h, fun j hj => by omega⟩, fun h => .inr ⟨rfl, ?_⟩, fun j h1 h2 h3 => .inl ⟨j + 1, rfl, h2, fun i hi => ?_⟩⟩
  · have h' := none_in (f := fun j => f (j + 1)) hW (fun j => per (j + 1)) h
    intro k
    cases k with
    | zero =>
      rw [← p0]
      have := h (W - 1) (by omega)
      rwa [show W - 1 + 1 = W by omega] at this
    | succ k => exact h' k
  · cases i with
    | zero =>
      rw [← p0]
      exact h1
    | succ i => exact h3 i (by omega)
theorem first_true {l : List Bool} (h : l.any id = true) : ∃ j : Nat, l[j]? = some true ∧ ∀ i : Nat, i < j → l[i]? = some false := by
  induction l with
  | nil => cases h
  | cons a l ih =>
    cases a with
    | true => exact ⟨0, rfl, fun i hi => by omega⟩
    | false =>
      obtain ⟨j, h1, h2⟩ := ih (by simpa using h)
      refine ⟨j + 1, by simpa using h1, fun i hi => ?_⟩
      cases i with
      | zero => rfl
      | succ i => simpa using h2 i (by omega)
def spFirst (K : PySem.W.Frag) (C CS CU : Addr) : Sp := fun vs H Q E => ∃ (p s : Addr) (zs : List Int) (rs : List Ro) (t x y : Int) (L : Lay Int), vs = [.ref p, .ref s, .int x, .int y] ∧ PlanAt K H p zs rs ∧ Small zs rs ∧ StateAt K H s t L ∧ BadE C zs rs H E ∧
  (bad zs rs = none → ¬ StOk zs rs t L → ∀ H', Same H H' → E (.ref CS) none H') ∧ (bad zs rs = none → StOk zs rs t L → x ∉ join L → ∀ H', Same H H' → E (.ref CU) none H') ∧
  (bad zs rs = none → StOk zs rs t L → x ∈ join L → y ∉ join L → ∀ H', Same H H' → E (.ref CU) none H') ∧
  (bad zs rs = none → StOk zs rs t L → x ∈ join L → y ∈ join L → ∀ H' v, Same H H' → FirstV (mB zs rs t L x y) v → Q v H')
theorem ok_first (T : Bd P K mg) : FnOk P w K mg base (L2.CX P w) 7 T.aFirstMeeting T.dFirstMeeting ["plan", "state", "one", "other"] (spFirst K T.C T.CS T.CUr) := by
  have GT : FnOk P w K mg base (L2.CX P w) 5 T.aStartOf T.dStartOf ["plan", "state", "parcel"] (spStart K T.C T.CS T.CUr) := ok_startOf T
  have GO : FnOk P w K mg base (L2.CX P w) 3 T.aPlaceOfParcel T.dPlaceOfParcel ["state", "parcel"] (spPlaceOfParcel K T.CUr) := ok_placeOfParcel T
  have GK : FnOk P w K mg base CX0 6 T.aMarks T.dMarks ["plan", "state", "one", "other"] (spMarks K) := ok_marks T
  refine T.FirstMeeting.F.okX scFirst (fun vs H Q E h => ?_) (fun cdv A outer s H vs Q E hr h => ?_)
  · obtain ⟨p, s, zs, rs, t, x, y, L, rfl, _⟩ := h
    rfl
  · obtain ⟨p, s, zs, rs, t, x, y, L, rfl, hp, hs, hst, q1, q2, q3, q4, q5⟩ := h
    refine ⟨_, (pss_cons (ps_set (i := 4) scFirst.nd rfl (Or.inl rfl) (pe_call (E := E) GT (hr.mono (by decide)) (by rfl) T.StartOf.g T.StartOf.F.kp T.StartOf.b .nil (passes_call (takes_of rfl rfl rfl rfl) fun _ _ _ _ h => h) (pa_cons (pv 0) (pa_cons (pv 1) (pa_cons (pv 2) pa_nil)))))
      (pss_cons (ps_set (i := 5) scFirst.nd rfl (Or.inl rfl) (pe_call (E := E) GO (hr.mono (by decide)) (by rfl) T.PlaceOfParcel.g T.PlaceOfParcel.F.kp T.PlaceOfParcel.b .nil (passes_call (takes_of rfl rfl rfl rfl) fun _ _ _ _ h => h) (pa_cons (pv 1) (pa_cons (pv 3) pa_nil))))
      (pss_cons (ps_set (i := 6) scFirst.nd rfl (Or.inl rfl) (pe_call (E := E0) GK (hr.mono (by decide)) (by rfl) T.Marks.g T.Marks.F.kp T.Marks.b .nil pass0 (pa_cons (pv 0) (pa_cons (pv 1) (pa_cons (pv 4) (pa_cons (pv 5) pa_nil))))))
      (pss_cons (ps_if (pt_val (pe_ix ix_list (pv 6) (pe_un un_neg pe_int) (fun _ _ => rfl))) (pss_one (ps_ret pe_int)) pss_nil)
      (pss_cons (ps_if (pt_cmpR op_notIn_seq pe_bl (pv 6) (by rfl)) (pss_one (ps_ret pe_non)) pss_nil)
      (pss_one (ps_ret (pe_op op_add (pe_bm PySem.F.plainAttrs_list PySem.F.slot_list_index PySem.F.type_list_index mt_index (pv 6) (pa_cons pe_bl pa_nil)) pe_int)))))))), ?_⟩
    refine ⟨.ref p, rfl, .ref s, rfl, .int x, rfl, p, s, zs, rs, t, x, L, rfl, hp, hs, hst, q1, q2, fun e1 hok i hi H1 sm1 => ?_, q3⟩
    have hv := val_of e1
    have hn := hv.num
    have hxm := List.mem_of_getElem? hi
    have jl := join_len hok.f
    refine ⟨.ref s, rfl, .int y, rfl, s, y, t, L, rfl, hst.same sm1, by omega, hok.p, fun j hj H2 sm2 => ?_, fun hno H2 sm2 => q4 e1 hok hxm hno H2 (sm1.trans sm2)⟩
    have smA := sm1.trans sm2
    have hym := List.mem_of_getElem? hj
    have il := (List.getElem?_eq_some_iff.mp hi).1
    have jl2 := (List.getElem?_eq_some_iff.mp hj).1
    have hi' : i < rs.length + sumN zs := by omega
    have hj' : j < rs.length + sumN zs := by omega
    obtain ⟨l1, l60⟩ := lc_le hv.r2
    have wl := wh_len rs.length zs rs t
    have we := wh_eff rs.length zs rs t
    have n120 := hv.num120
    obtain ⟨lp, lq⟩ := lapsN_le we (by omega) (by omega : i < (wh rs.length zs rs t).length) (by omega : j < (wh rs.length zs rs t).length)
    refine ⟨.ref p, rfl, .ref s, rfl, .int (i : Nat), rfl, .int (j : Nat), rfl, p, s, zs, rs, t, L, i, j, rfl, hp.same smA, hv, hst.same smA, hi', hj', fun H3 m sm3 nm km => ?_⟩
    have smB := smA.trans sm3
    rw [mkL_eq zs t hv.rne hv.lc1 hi' hj'] at km
    have Wp : 0 < lapsN (wh rs.length zs rs t) i j * lc rs := Nat.mul_pos (by omega) (by omega)
    have per : ∀ k, mk zs rs t i j (lapsN (wh rs.length zs rs t) i j * lc rs + k) = mk zs rs t i j k := fun k => mk_per zs t hv.rne hv.lc1 hi' hj' (Nat.dvd_lcm_left ..) (Nat.dvd_lcm_right ..) k
    have ans : ∀ H' v, Same H H' → FirstV (mk zs rs t i j) v → Q v H' := fun H' v sm hF => q5 e1 hok hxm hym H' v sm (by rw [show mB zs rs t L x y = mk zs rs t i j from funext (mB_mk zs t hv.rne hv.lc1 hok.f hok.p.2 hi hj)]; exact hF)
    generalize lapsN (wh rs.length zs rs t) i j * lc rs = W at km Wp per
    obtain ⟨c1, c2, c3⟩ := first_case Wp per
    obtain ⟨W', rfl⟩ : ∃ W', W = W' + 1 := ⟨W - 1, by omega⟩
    have elast : blV ((List.range (W' + 1)).map fun k => mk zs rs t i j (k + 1)) = blV ((List.range W').map fun k => mk zs rs t i j (k + 1)) ++ [V.bl (mk zs rs t i j (W' + 1))] := by
      unfold blV
      rw [List.range_succ (n := W'), List.map_append, List.map_append]
      rfl
    refine ⟨.ref m, rfl, 1, rfl, m, _, _, .bl (mk zs rs t i j (W' + 1)), rfl, rfl, .inl (.inl km), (by rw [elast]; exact atI_last _ _), _, rfl, ?_⟩
    cases hlast : mk zs rs t i j (W' + 1) with
    | true => exact iteT (ans H3 _ smB (c1 hlast))
    | false =>
      refine iteF ⟨.ref m, rfl, m, _, rfl, .inl (.inl (.inl km)), rfl, flat_bls _, _, rfl, ?_⟩
      rw [inV_bls]
      cases hany : ((List.range (W' + 1)).map fun k => mk zs rs t i j (k + 1)).any id with
      | false =>
        refine iteT (ans H3 _ smB (c2 fun k hk => ?_))
        have := List.any_eq_false.mp hany (mk zs rs t i j (k + 1)) (List.mem_map.mpr ⟨k, List.mem_range.mpr hk, rfl⟩)
        simpa using this
      | true =>
        obtain ⟨b, hb1, hb2⟩ := first_true hany
        have at' : ∀ {k : Nat} {z : Bool}, ((List.range (W' + 1)).map fun k => mk zs rs t i j (k + 1))[k]? = some z → mk zs rs t i j (k + 1) = z := fun {k z} hz => by
          have hk := (List.getElem?_eq_some_iff.mp hz).1
          rw [List.length_map, List.length_range] at hk
          rw [List.getElem?_map, List.getElem?_range hk] at hz
          exact Option.some.inj hz
        refine iteF ⟨.ref m, rfl, .inl ⟨rfl, _, .inl (.inl km)⟩, m, _, .bl true, b, .bl true, rfl, rfl, .inl (.inl km), rfl, flat_bls _, by unfold blV; rw [List.getElem?_map, hb1]; rfl, rfl, fun d z hd hz => ?_, _, 1, rfl, rfl, ans H3 _ smB (c3 b hlast (at' hb1) fun e he => at' (hb2 e he))⟩
        unfold blV at hz
        rw [List.getElem?_map, hb2 d hd] at hz
        have ez : z = .bl false := (Option.some.inj hz).symm
        rw [ez]
        rfl
def spTogether (K : PySem.W.Frag) (C CS CU CC : Addr) : Sp := fun vs H Q E => ∃ (p s : Addr) (zs : List Int) (rs : List Ro) (t x y c : Int) (L : Lay Int), vs = [.ref p, .ref s, .int x, .int y, .int c] ∧ PlanAt K H p zs rs ∧ Small zs rs ∧ StateAt K H s t L ∧ BadE C zs rs H E ∧
  (bad zs rs = none → ¬ StOk zs rs t L → ∀ H', Same H H' → E (.ref CS) none H') ∧ (bad zs rs = none → StOk zs rs t L → x ∉ join L → ∀ H', Same H H' → E (.ref CU) none H') ∧
  (bad zs rs = none → StOk zs rs t L → x ∈ join L → y ∉ join L → ∀ H', Same H H' → E (.ref CU) none H') ∧
  (bad zs rs = none → StOk zs rs t L → x ∈ join L → y ∈ join L → ¬ TkOk c → ∀ H', Same H H' → E (.ref CC) none H') ∧
  (bad zs rs = none → StOk zs rs t L → x ∈ join L → y ∈ join L → TkOk c → ∀ H', Same H H' → Q (.int (cntM (fun j => mB zs rs t L x y (j + 1)) c.toNat : Nat)) H')
end
end Sv


set_option maxHeartbeats 4000000
namespace Sv
open PySem PySem.Spec PyProof.Rows L2
/-! ### who is left where, told by carriers -/
theorem prs_ltv (rs : List Ro) (m : Int) : ∀ k, ∀ p ∈ prs rs m k, p.1 < k
  | 0, p, h => by cases h
  | k + 1, p, h => by
    unfold prs at h
    rcases List.mem_append.mp h with h | h
    · have := prs_ltv rs m k p h
      omega
    · split at h
      · split at h
        · rw [List.mem_singleton.mp h]
          exact Nat.lt_succ_self k
        · cases h
      · cases h
theorem prs_nd (rs : List Ro) (m : Int) : ∀ k, ((prs rs m k).map (·.1)).Nodup
  | 0 => List.nodup_nil
  | k + 1 => by
    have ih := prs_nd rs m k
    unfold prs
    rw [List.map_append]
    refine List.nodup_append.mpr ⟨ih, ?_, fun a ha b hb e => ?_⟩
    · split
      · split
        · simp
        · exact List.nodup_nil
      · exact List.nodup_nil
    · obtain ⟨p, hp, rfl⟩ := List.mem_map.mp ha
      have h1 := prs_ltv rs m k p hp
      obtain ⟨q, hq, rfl⟩ := List.mem_map.mp hb
      have h2 : q.1 = k := by
        split at hq
        · split at hq
          · rw [List.mem_singleton.mp hq]
          · cases hq
        · cases hq
      omega
theorem vis_nd (rs : List Ro) (m : Int) : ((vis rs m).map (·.1)).Nodup := by
  unfold vis
  rw [List.map_map]
  exact prs_nd rs m rs.length
theorem step1_car {α : Type} (L : Lay α) (p : Nat × Nat) {c : Nat} (h : p.1 ≠ c) : (step1 L p).1[c]? = L.1[c]? := by
  unfold step1
  split
  · show (L.1.set p.1 _)[c]? = _
    rw [List.getElem?_set_ne h]
  · rfl
theorem steps_car {α : Type} {c : Nat} : ∀ (ps : List (Nat × Nat)) (L : Lay α), (∀ p ∈ ps, p.1 ≠ c) → (steps ps L).1[c]? = L.1[c]?
  | [], _, _ => rfl
  | p :: ps, L, h => by
    show (steps ps (step1 L p)).1[c]? = _
    rw [steps_car ps (step1 L p) fun q hq => h q (List.mem_cons_of_mem _ hq), step1_car L p (h p (List.mem_cons_self ..))]
/-- what is left by the k-th of the visits is what its carrier had at first -/
theorem left_first {ps : List (Nat × Nat)} (nd : (ps.map (·.1)).Nodup) (L : Lay Int) {k : Nat} {p : Nat × Nat} (hp : ps[k]? = some p) : (steps (ps.take k) L).1.getD p.1 0 = L.1.getD p.1 0 := by
  rw [List.getD_eq_getElem?_getD, List.getD_eq_getElem?_getD, steps_car]
  intro q hq e
  obtain ⟨j, hj⟩ := List.mem_iff_getElem?.mp hq
  have hjk : j < k := by
    have := (List.getElem?_eq_some_iff.mp hj).1
    rw [List.length_take] at this
    omega
  rw [List.getElem?_take, if_pos hjk] at hj
  have e1 : (ps.map (·.1))[j]? = some q.1 := by rw [List.getElem?_map, hj]; rfl
  have e2 : (ps.map (·.1))[k]? = some p.1 := by rw [List.getElem?_map, hp]; rfl
  obtain ⟨a, ea⟩ := List.getElem?_eq_some_iff.mp e1
  obtain ⟨b, eb⟩ := List.getElem?_eq_some_iff.mp e2
  have := (List.getElem_inj nd).mp ((ea.trans e).trans eb.symm)
  omega
theorem lefN_no {ps : List (Nat × Nat)} (nd : (ps.map (·.1)).Nodup) {L : Lay Int} {x : Int} (h : ∀ p ∈ ps, x ≠ L.1.getD p.1 0) : ∀ k, lefN ps L x k = .non
  | 0 => rfl
  | k + 1 => by
    unfold lefN
    cases hp : ps[k]? with
    | none => exact lefN_no nd h k
    | some p =>
      show (if x = (steps (ps.take k) L).1.getD p.1 0 then V.int (p.2 : Nat) else lefN ps L x k) = .non
      rw [left_first nd L hp, if_neg (h p (List.mem_of_getElem? hp))]
      exact lefN_no nd h k
theorem lefN_yes {ps : List (Nat × Nat)} (nd : (ps.map (·.1)).Nodup) {L : Lay Int} {x : Int} {p : Nat × Nat} (hx : x = L.1.getD p.1 0) (un : ∀ q ∈ ps, x = L.1.getD q.1 0 → q.1 = p.1) : ∀ k j, ps[j]? = some p → j < k → k ≤ ps.length → lefN ps L x k = .int (p.2 : Nat)
  | 0, j, _, h, _ => by omega
  | k + 1, j, hj, h, hk => by
    unfold lefN
    have hq : ps[k]? = some ps[k] := List.getElem?_eq_getElem (by omega)
    rw [hq]
    show (if x = (steps (ps.take k) L).1.getD ps[k].1 0 then V.int (ps[k].2 : Nat) else lefN ps L x k) = _
    rw [left_first nd L hq]
    by_cases e : x = L.1.getD ps[k].1 0
    · rw [if_pos e]
      have e1 := un _ (List.mem_of_getElem? hq) e
      have a1 : (ps.map (·.1))[k]? = some ps[k].1 := by rw [List.getElem?_map, hq]; rfl
      have a2 : (ps.map (·.1))[j]? = some p.1 := by rw [List.getElem?_map, hj]; rfl
      obtain ⟨a, ea⟩ := List.getElem?_eq_some_iff.mp a1
      obtain ⟨b, eb⟩ := List.getElem?_eq_some_iff.mp a2
      have := (List.getElem_inj nd).mp ((ea.trans e1).trans eb.symm)
      subst this
      rw [hj] at hq
      rw [← Option.some.inj hq]
    · rw [if_neg e]
      have : j ≠ k := fun z => by
        rw [z, hq] at hj
        rw [Option.some.inj hj] at e
        exact e hx
      exact lefN_yes nd hx un k j hj (by omega) (by omega)
/-- the shelf that is visited from place q in a tick -/
def vsh (n : Nat) (rs : List Ro) (m : Int) (q : Nat) : Option Nat := if q < n then ((vis rs m).find? fun p => decide (p.1 = q)).map (·.2) else none
theorem lefV_vsh {zs : List Int} {rs : List Ro} (hr : ∀ r ∈ rs, r ≠ [] ∧ ∀ e ∈ r, okE zs.length e = true) (m : Int) {L : Lay Int} (hf : Fits rs.length zs L) (nd : (join L).Nodup) {q : Nat} {x : Int} (hq : (join L)[q]? = some x) : lefV (vis rs m) L x = tagV (vsh rs.length rs m q) := by
  have vn := vis_nd rs m
  have lt : ∀ p ∈ vis rs m, p.1 < L.1.length := fun p hp => by
    rw [hf.1]
    exact (vis_ok hr m p hp).1
  have at1 : ∀ p ∈ vis rs m, (join L)[p.1]? = some (L.1.getD p.1 0) := fun p hp => by
    have h := lt p hp
    unfold join
    rw [List.getElem?_append_left h, List.getElem?_eq_getElem h, List.getD_eq_getElem?_getD, List.getElem?_eq_getElem h]
    rfl
  have un : ∀ p ∈ vis rs m, x = L.1.getD p.1 0 → p.1 = q := fun p hp e => by
    have h := at1 p hp
    rw [← e] at h
    obtain ⟨a, ea⟩ := List.getElem?_eq_some_iff.mp h
    obtain ⟨b, eb⟩ := List.getElem?_eq_some_iff.mp hq
    exact (List.getElem_inj nd).mp (ea.trans eb.symm)
  unfold lefV vsh
  by_cases hn : q < rs.length
  · rw [if_pos hn]
    cases hfd : (vis rs m).find? fun p => decide (p.1 = q) with
    | none =>
      refine lefN_no vn (fun p hp e => ?_) _
      have := List.find?_eq_none.mp hfd p hp
      simp only [decide_eq_true_eq] at this
      exact this (un p hp e)
    | some p =>
      have hp := List.mem_of_find?_eq_some hfd
      have hpq : p.1 = q := by
        have := List.find?_some hfd
        simpa using this
      obtain ⟨j, hj⟩ := List.mem_iff_getElem?.mp hp
      have hx : x = L.1.getD p.1 0 := by
        have := at1 p hp
        rw [hpq, hq] at this
        rw [hpq]
        exact Option.some.inj this
      exact lefN_yes vn hx (fun r hr2 e => (un r hr2 e).trans hpq.symm) _ j hj (List.getElem?_eq_some_iff.mp hj).1 (Nat.le_refl _)
  · rw [if_neg hn]
    refine lefN_no vn (fun p hp e => hn ?_) _
    rw [← un p hp e]
    exact (vis_ok hr m p hp).1
/-- the shelf on which what was at place i is left in the tick behind k ticks -/
noncomputable def lft (zs : List Int) (rs : List Ro) (t : Int) (i k : Nat) : Option Nat := vsh rs.length rs (t + (k : Nat)) (pos zs rs t k i)
theorem leftV_at {zs : List Int} {rs : List Ro} (hv : Val zs rs) (t : Int) {i r : Nat} (hi : i < rs.length + sumN zs) : lefV (vis rs (t + (r : Nat))) (iL (run rs t r (idx rs.length zs))) (i : Nat) = tagV (vsh rs.length rs (t + (r : Nat)) (ap (fwd rs.length zs rs t r) i)) := by
  have ol := org_len rs.length zs rs t r
  have oe := org_eff rs.length zs rs t r
  have ej : join (iL (run rs t r (idx rs.length zs))) = iN (org rs.length zs rs t r) := join_map _ _
  have hfi : Fits rs.length zs (iL (run rs t r (idx rs.length zs))) := by
    rw [← run_iL]
    have e0 : iL (idx rs.length zs) = spl rs.length zs (iN (List.range (rs.length + sumN zs))) := (spl_iN _ _ _).symm
    rw [e0]
    exact run_fits _ _ _ (spl_fits (by unfold iN; rw [List.length_map, List.length_range]))
  have hlt := ap_lt (fwd_eff rs.length zs rs t r) (x := i) (by rw [fwd_len]; exact hi)
  rw [fwd_len] at hlt
  refine lefV_vsh hv.ro _ hfi ?_ ?_
  · rw [ej]
    unfold iN
    exact List.pairwise_map.mpr (oe.2.imp fun {a b} ne z => ne (by omega))
  · rw [ej]
    unfold iN
    rw [List.getElem?_map, ap_at (by rw [ol]; exact hlt)]
    have : ap (org rs.length zs rs t r) (ap (fwd rs.length zs rs t r) i) = i := ap_inv oe (by rw [ol]; exact hi)
    rw [this]
    rfl
/-! ### journeys -/
theorem jl_eq {F : Nat → Nat → V} {G : Nat → V} {e : List Nat} {c i : Nat} (h : ∀ m r, r < c → F r (it e m i) = G (m * c + r)) : ∀ n, ((List.range n).flatMap fun m => (List.range c).map fun r => F r (it e m i)) = (List.range (n * c)).map G
  | 0 => by
    rw [Nat.zero_mul]
    rfl
  | n + 1 => by
    rw [List.range_succ, List.flatMap_append, jl_eq h n, Nat.succ_mul, List.range_add, List.map_append]
    congr 1
    rw [List.flatMap_cons, List.flatMap_nil, List.append_nil, List.map_map]
    exact List.map_congr_left fun r hr => h n r (List.mem_range.mp hr)
section
variable {zs : List Int} {rs : List Ro} (hv : Val zs rs) (t : Int) {i : Nat} (hi : i < rs.length + sumN zs)
include hv hi
theorem stops_j (n : Nat) : ((List.range n).flatMap fun m => (stopV rs.length zs rs t (lc rs) (it (wh rs.length zs rs t) m i)).drop 1) = (List.range (n * lc rs)).map fun k => V.int (pos zs rs t (k + 1) i : Nat) := by
  rw [← jl_eq (F := fun r a => V.int (ap (fwd rs.length zs rs t (r + 1)) a : Nat)) (e := wh rs.length zs rs t) (i := i) (fun m r _ => ?_) n]
  · congr 1
    funext m
    refine List.ext_getElem? fun k => ?_
    rw [List.getElem?_drop]
    unfold stopV
    rw [List.getElem?_map, List.getElem?_map]
    by_cases hk : k < lc rs
    · rw [List.getElem?_range (by omega), List.getElem?_range hk, Nat.add_comm 1 k]
      rfl
    · rw [List.getElem?_eq_none (by rw [List.length_range]; omega), List.getElem?_eq_none (by rw [List.length_range]; omega)]
      rfl
  · show V.int (ap (fwd rs.length zs rs t (r + 1)) (it (wh rs.length zs rs t) m i) : Nat) = V.int (pos zs rs t (m * lc rs + r + 1) i : Nat)
    rw [Nat.add_assoc, pos_lap zs t hv.rne hv.lc1 hi]
theorem lefts_j (n : Nat) : ((List.range n).flatMap fun m => leftV rs.length zs rs t (lc rs) (it (wh rs.length zs rs t) m i)) = (List.range (n * lc rs)).map fun k => tagV (lft zs rs t i k) := by
  have wl := wh_len rs.length zs rs t
  have we := wh_eff rs.length zs rs t
  rw [← jl_eq (F := fun r a => lefV (vis rs (t + (r : Nat))) (iL (run rs t r (idx rs.length zs))) (a : Nat)) (e := wh rs.length zs rs t) (i := i) (fun m r _ => ?_) n]
  · rfl
  · have hm := it_lt we (k := m) (x := i) (by omega)
    rw [wl] at hm
    rw [leftV_at hv t hm]
    unfold lft vsh
    rw [pos_lap zs t hv.rne hv.lc1 hi, vis_mod hv.rne (m := t + (r : Nat)) (m' := t + ((m * lc rs + r : Nat) : Int)) ⟨-(m : Int), by
      rw [Int.natCast_add, Int.natCast_mul, Int.mul_neg, Int.mul_comm (lc rs : Int)]
      omega⟩]
theorem pos_per {W : Nat} (h1 : per (wh rs.length zs rs t) i ∣ W) (k : Nat) : pos zs rs t (W * lc rs + k) i = pos zs rs t k i := by
  have wl := wh_len rs.length zs rs t
  have we := wh_eff rs.length zs rs t
  have dm := Nat.div_add_mod k (lc rs)
  have e1 : W * lc rs + k = (k / lc rs + W) * lc rs + k % lc rs := by
    rw [Nat.add_mul, Nat.mul_comm (k / lc rs)]
    omega
  have e2 : k = k / lc rs * lc rs + k % lc rs := by
    rw [Nat.mul_comm]
    omega
  conv => rhs; rw [e2]
  rw [e1, pos_lap zs t hv.rne hv.lc1 hi, pos_lap zs t hv.rne hv.lc1 hi, it_add, (it_eq_iff we (by rw [wl]; exact hi) W).mpr h1]
theorem lft_per {W : Nat} (h1 : per (wh rs.length zs rs t) i ∣ W) (k : Nat) : lft zs rs t i (W * lc rs + k) = lft zs rs t i k := by
  unfold lft vsh
  rw [pos_per hv t hi h1, vis_mod hv.rne (m := t + ((W * lc rs + k : Nat) : Int)) (m' := t + (k : Nat)) ⟨(W : Int), by
    rw [Int.natCast_add, Int.natCast_mul, Int.mul_comm (lc rs : Int)]
    omega⟩]
theorem pos_zero : pos zs rs t 0 i = i := by
  have := pos_lap zs t hv.rne hv.lc1 (m := 0) (r := 0) hi
  rw [Nat.zero_mul] at this
  rw [this, fwd_zero]
  exact range_ap hi
end
end Sv


set_option maxHeartbeats 4000000
namespace Sv
open PySem PySem.Spec PyProof.Rows L2
section
variable {P : Program} {w : World} {K : PySem.W.Frag} {mg : Str → Option Value} {base : Heap}
/-! ### shelves and carriers that are there -/
theorem scCheckShelf : FnScope ["plan", "shelf"] ["plan", "shelf"] (defScope sCheckShelf) := ⟨rfl, rfl, rfl, by decide +kernel, rfl, by decide +kernel, by decide +kernel⟩
def spCheckShelf (K : PySem.W.Frag) (CU : Addr) : Sp := fun vs H Q E => ∃ (p : Addr) (zs : List Int) (rs : List Ro) (x : Int), vs = [.ref p, .int x] ∧ PlanAt K H p zs rs ∧ Val zs rs ∧ ((0 ≤ x ∧ x < (zs.length : Nat)) → Q .non H) ∧ (¬ (0 ≤ x ∧ x < (zs.length : Nat)) → E (.ref CU) none H)
theorem ok_checkShelf (T : Bd P K mg) : FnOk P w K mg base (L2.CX P w) 2 T.aCheckShelf T.dCheckShelf ["plan", "shelf"] (spCheckShelf K T.CUs) := by
  have GW : FnOk P w K mg base CX0 1 T.aWithin T.dWithin ["number", "low", "high"] spWithin := ok_within T.Within.F T.bt.isinstance T.bt.bool T.bt.int
  refine T.CheckShelf.F.okX scCheckShelf (fun vs H Q E h => ?_) (fun cdv A outer s H vs Q E hr h => ?_)
  · obtain ⟨p, zs, rs, x, rfl, _⟩ := h
    rfl
  · obtain ⟨p, zs, rs, x, rfl, hp, hv, q1, q2⟩ := h
    obtain ⟨a, b, hp1, ha, hb⟩ := hp.ex
    obtain ⟨qs, hA, hP⟩ := hb.ex
    have hql := paired_len hP
    refine ⟨_, pss_one (ps_if (pt_not (pt_val (pe_call GW hr (by rfl) T.Within.g T.Within.F.kp T.Within.b .nil pass0 (pa_cons (pv 1) (pa_cons pe_int (pa_cons (pe_op op_sub (pe_callB call_len_seq (by rfl) T.bt.len b_len (pa_cons (pe_ix ix_tup (pv 0) pe_int (fun _ _ => rfl)) pa_nil)) pe_int) pa_nil))))))
      (pss_one (ps_raise rfl (takes_of rfl rfl rfl rfl) (pmk_own PySem.F.excBase_ValueError T.cus.x T.cus.g T.cus.k (raises_own T.cus.b T.cus.t) rfl))) pss_nil), ?_⟩
    refine ⟨.int x, rfl, .ref p, rfl, p, _, 0, _, rfl, rfl, hp1, rfl, a, _, rfl, .inr ha, _, 1, rfl, rfl, ?_⟩
    rw [List.length_map]
    refine ⟨x, 0, _, rfl, _, rfl, ?_⟩
    by_cases h : 0 ≤ x ∧ x < (zs.length : Nat)
    · rw [decide_eq_true ⟨h.1, by have := h.2; omega⟩]
      exact iteF (q1 h)
    · rw [decide_eq_false fun z => h ⟨z.1, by have := z.2; omega⟩]
      exact iteT (q2 h)
theorem scCheckCarrier : FnScope ["plan", "carrier"] ["plan", "carrier"] (defScope sCheckCarrier) := ⟨rfl, rfl, rfl, by decide +kernel, rfl, by decide +kernel, by decide +kernel⟩
def spCheckCarrier (K : PySem.W.Frag) (CU : Addr) : Sp := fun vs H Q E => ∃ (p : Addr) (zs : List Int) (rs : List Ro) (x : Int), vs = [.ref p, .int x] ∧ PlanAt K H p zs rs ∧ Val zs rs ∧ ((0 ≤ x ∧ x < (rs.length : Nat)) → Q .non H) ∧ (¬ (0 ≤ x ∧ x < (rs.length : Nat)) → E (.ref CU) none H)
theorem ok_checkCarrier (T : Bd P K mg) : FnOk P w K mg base (L2.CX P w) 2 T.aCheckCarrier T.dCheckCarrier ["plan", "carrier"] (spCheckCarrier K T.CUc) := by
  have GW : FnOk P w K mg base CX0 1 T.aWithin T.dWithin ["number", "low", "high"] spWithin := ok_within T.Within.F T.bt.isinstance T.bt.bool T.bt.int
  refine T.CheckCarrier.F.okX scCheckCarrier (fun vs H Q E h => ?_) (fun cdv A outer s H vs Q E hr h => ?_)
  · obtain ⟨p, zs, rs, x, rfl, _⟩ := h
    rfl
  · obtain ⟨p, zs, rs, x, rfl, hp, hv, q1, q2⟩ := h
    obtain ⟨a, b, hp1, ha, hb⟩ := hp.ex
    obtain ⟨qs, hA, hP⟩ := hb.ex
    have hql := paired_len hP
    refine ⟨_, pss_one (ps_if (pt_not (pt_val (pe_call GW hr (by rfl) T.Within.g T.Within.F.kp T.Within.b .nil pass0 (pa_cons (pv 1) (pa_cons pe_int (pa_cons (pe_op op_sub (pe_callB call_len_seq (by rfl) T.bt.len b_len (pa_cons (pe_ix ix_tup (pv 0) pe_int (fun _ _ => rfl)) pa_nil)) pe_int) pa_nil))))))
      (pss_one (ps_raise rfl (takes_of rfl rfl rfl rfl) (pmk_own PySem.F.excBase_ValueError T.cuc.x T.cuc.g T.cuc.k (raises_own T.cuc.b T.cuc.t) rfl))) pss_nil), ?_⟩
    refine ⟨.int x, rfl, .ref p, rfl, p, _, 1, _, rfl, rfl, hp1, rfl, b, _, rfl, .inr hA, _, 1, rfl, rfl, ?_⟩
    rw [List.length_map, hql]
    refine ⟨x, 0, _, rfl, _, rfl, ?_⟩
    by_cases h : 0 ≤ x ∧ x < (rs.length : Nat)
    · rw [decide_eq_true ⟨h.1, by have := h.2; omega⟩]
      exact iteF (q1 h)
    · rw [decide_eq_false fun z => h ⟨z.1, by have := z.2; omega⟩]
      exact iteT (q2 h)
/-! ### journeys of one parcel -/
theorem scStopsJ : FnScope ["lap", "start", "found", "place"] ["lap", "start"] (defScope sStopsJ) := ⟨rfl, rfl, rfl, by decide +kernel, rfl, by decide +kernel, by decide +kernel⟩
theorem scLeftsJ : FnScope ["lap", "start", "found", "place"] ["lap", "start"] (defScope sLeftsJ) := ⟨rfl, rfl, rfl, by decide +kernel, rfl, by decide +kernel, by decide +kernel⟩
noncomputable def stJ (zs : List Int) (rs : List Ro) (t : Int) (i W : Nat) : List V := (List.range W).map fun k => .int (pos zs rs t (k + 1) i : Nat)
def spStopsJ (K : PySem.W.Frag) (C : Addr) : Sp := fun vs H Q _ => ∃ (la : Addr) (zs : List Int) (rs : List Ro) (t : Int) (i : Nat), vs = [.ref la, .int (i : Nat)] ∧ Val zs rs ∧ LapAt H C la zs rs t ∧ i < rs.length + sumN zs ∧ NewLv H (stJ zs rs t i (per (wh rs.length zs rs t) i * lc rs)) Q
theorem ok_stopsJ (T : Bd P K mg) : FnOk P w K mg base CX0 2 T.aStopsJ T.dStopsJ ["lap", "start"] (spStopsJ K T.CLap) := by
  have GC : FnOk P w K mg base CX0 1 T.aCycleFrom T.dCycleFrom ["effect", "start"] (spCycleFrom K) := ok_cycleFrom T
  refine T.StopsJ.F.ok scStopsJ (fun vs H Q E h => ?_) (fun cdv A outer s H vs Q E hr h => ?_)
  · obtain ⟨la, zs, rs, t, i, rfl, _⟩ := h
    rfl
  · obtain ⟨la, zs, rs, t, i, rfl, hv, lap, hi, q⟩ := h
    refine ⟨_, (pss_cons (ps_set (i := 2) scStopsJ.nd rfl (Or.inl rfl) (pe_lst pa_nil))
      (pss_cons (ps_for PassesOwn.never rfl (pi_tup (pe_call (E := E0) GC (hr.mono (by decide)) (by rfl) T.CycleFrom.g T.CycleFrom.F.kp T.CycleFrom.b .nil pass0 (pa_cons (pe_fld (pv 0) rfl) (pa_cons (pv 1) pa_nil)))) (pg_name (i := 3) scStopsJ.nd rfl (.inl rfl)) (pss_one (ps_expr (pe_bm PySem.F.plainAttrs_list PySem.F.slot_list_extend PySem.F.type_list_extend mt_extend (pv 2) (pa_cons (pe_slice sl_list (pe_ix ix_list (pe_fld (pv 0) rfl) (pv 3) (fun _ _ => rfl)) (po_some pe_int) po_none) pa_nil)))))
      (pss_one (ps_ret (pv 2))))), ?_⟩
    have n120 := hv.num120
    obtain ⟨l1, l60⟩ := lc_le hv.r2
    have wl := wh_len rs.length zs rs t
    have we := wh_eff rs.length zs rs t
    have hiw : i < (wh rs.length zs rs t).length := by omega
    obtain ⟨dx, st, le, ef, fs, srw, lrw, h1, h2, h3, h4, h5, h6, h7, h8, h9, h10⟩ := lap.ex
    have hsl := rowV_len h7
    have esl : (stopsV rs.length zs rs t (lc rs)).length = rs.length + sumN zs := by unfold stopsV; rw [List.length_map, List.length_range]
    refine ⟨Nat.zero_le _, fun m hm => ?_⟩
    have sm0 : Same H (upd H m (.lst [])) := same_upd hm
    have km : (upd H m (.lst [])) m = some (.lst (((List.range 0).flatMap fun b => (stopV rs.length zs rs t (lc rs) (it (wh rs.length zs rs t) b i)).drop 1))) := upd_same
    generalize upd H m (.lst []) = H0 at sm0 km ⊢
    refine ⟨.ref la, rfl, la, T.CLap, dx, fs, _, rfl, sm0 _ _ h1, T.lap.c, T.lap.n4, h5, .int (i : Nat), rfl, ef, wh rs.length zs rs t, i, rfl, .inl (.inl (sm0 _ _ h10)), we, hiw, by omega, fun H2 c sm2 nc kc => ?_⟩
    have cm : c ≠ m := fun z => by rw [z, km] at nc; cases nc
    have ple := (per_spec we hiw).2.2.2
    refine ⟨c, rfl, ⟨_, .inl (.inl kc)⟩, for_tup (xs := vN (cyc (wh rs.length zs rs t) i)) (fun k σ H' => (∃ y, σ = [some (.ref la), some (.int (i : Nat)), some (.ref m), y]) ∧ Same H H' ∧ H' c = some (.tup (vN (cyc (wh rs.length zs rs t) i))) ∧ H' m = some (.lst ((List.range k).flatMap fun b => (stopV rs.length zs rs t (lc rs) (it (wh rs.length zs rs t) b i)).drop 1)))
      ⟨⟨_, rfl⟩, sm0.trans sm2, kc, sm2 _ _ km⟩ (fun k σ H' _ h => .inl (.inl h.2.2.1)) (fun k x σ H' hx ⟨⟨y, es⟩, sm, kc3, km3⟩ => ?_) (fun σ H' ⟨⟨y, es⟩, sm, kc3, km3⟩ => ?_)⟩
    · subst es
      obtain ⟨hk, rfl⟩ := vN_lt hx
      have hkp := hk
      rw [cyc_len] at hkp
      have eit : ap (cyc (wh rs.length zs rs t) i) k = it (wh rs.length zs rs t) k i := by
        unfold ap
        rw [List.getD_eq_getElem?_getD, cyc_at hkp]
        rfl
      rw [eit]
      have la' := it_lt we (k := k) hiw
      rw [wl] at la'
      have eapp : ((List.range (k + 1)).flatMap fun b => (stopV rs.length zs rs t (lc rs) (it (wh rs.length zs rs t) b i)).drop 1) = ((List.range k).flatMap fun b => (stopV rs.length zs rs t (lc rs) (it (wh rs.length zs rs t) b i)).drop 1) ++ (stopV rs.length zs rs t (lc rs) (it (wh rs.length zs rs t) k i)).drop 1 := by
        rw [List.range_succ, List.flatMap_append, List.flatMap_cons, List.flatMap_nil, List.append_nil]
      have elen : ((List.range k).flatMap fun b => (stopV rs.length zs rs t (lc rs) (it (wh rs.length zs rs t) b i)).drop 1).length = k * lc rs := by
        rw [stops_j hv t hi]
        simp
      have elen1 : ((stopV rs.length zs rs t (lc rs) (it (wh rs.length zs rs t) k i)).drop 1).length = lc rs := by
        rw [List.length_drop, stopV_len]
        omega
      rw [← esl, ← hsl] at la'
      generalize it (wh rs.length zs rs t) k i = a at la' eapp elen1 ⊢
      obtain ⟨qa, hqa⟩ : ∃ qa, srw[a]? = some qa := ⟨_, List.getElem?_eq_getElem la'⟩
      obtain ⟨sa, esa, kqa⟩ := rowV_at (rowV_imp (fun q _ o ho => sm _ _ ho) h7) hqa
      unfold stopsV at esa
      rw [List.getElem?_map, List.getElem?_range (by omega)] at esa
      obtain rfl := Option.some.inj esa
      refine ⟨.ref m, rfl, .inl ⟨rfl, _, .inl (.inl km3)⟩, .ref la, rfl, la, T.CLap, dx, fs, _, rfl, sm _ _ h1, T.lap.c, T.lap.n2, h3, .int (a : Nat), rfl, st, _, _, .ref qa, rfl, rfl, .inl (.inl (sm _ _ h6)), atI_nat (by rw [List.getElem?_map, hqa]; rfl), ?_⟩
      refine ⟨1, rfl, qa, _, rfl, .inl (.inl kqa), fun u hu => ?_⟩
      have ecut : cutV (stopV rs.length zs rs t (lc rs) a) (some 1) none = (stopV rs.length zs rs t (lc rs) a).drop 1 := cut_from (k := 1)
      rw [ecut]
      have smu : Same H' (upd H' u (.lst ((stopV rs.length zs rs t (lc rs) a).drop 1))) := same_upd hu
      have mu : m ≠ u := fun z => by rw [← z, km3] at hu; cases hu
      refine ⟨m, u, _, _, rfl, rfl, smu _ _ km3, upd_same, ?_, ⟨_, rfl⟩, same_of (sm.trans smu) hm, ?_, ?_⟩
      · rw [elen, elen1, sizeLine_eq]
        have := Nat.mul_le_mul (by omega : k ≤ 120) l60
        omega
      · rw [upd_ne cm]
        exact smu _ _ kc3
      · rw [upd_same, eapp]
    · subst es
      have ev : (vN (cyc (wh rs.length zs rs t) i)).length = per (wh rs.length zs rs t) i := by rw [vN_len, cyc_len]
      rw [ev, stops_j hv t hi] at km3
      exact ⟨.ref m, rfl, q H' m sm hm km3⟩
noncomputable def leJ (zs : List Int) (rs : List Ro) (t : Int) (i W : Nat) : List V := (List.range W).map fun k => tagV (lft zs rs t i k)
def spLeftsJ (K : PySem.W.Frag) (C : Addr) : Sp := fun vs H Q _ => ∃ (la : Addr) (zs : List Int) (rs : List Ro) (t : Int) (i : Nat), vs = [.ref la, .int (i : Nat)] ∧ Val zs rs ∧ LapAt H C la zs rs t ∧ i < rs.length + sumN zs ∧ NewLv H (leJ zs rs t i (per (wh rs.length zs rs t) i * lc rs)) Q
theorem ok_leftsJ (T : Bd P K mg) : FnOk P w K mg base CX0 2 T.aLeftsJ T.dLeftsJ ["lap", "start"] (spLeftsJ K T.CLap) := by
  have GC : FnOk P w K mg base CX0 1 T.aCycleFrom T.dCycleFrom ["effect", "start"] (spCycleFrom K) := ok_cycleFrom T
  refine T.LeftsJ.F.ok scLeftsJ (fun vs H Q E h => ?_) (fun cdv A outer s H vs Q E hr h => ?_)
  · obtain ⟨la, zs, rs, t, i, rfl, _⟩ := h
    rfl
  · obtain ⟨la, zs, rs, t, i, rfl, hv, lap, hi, q⟩ := h
    refine ⟨_, (pss_cons (ps_set (i := 2) scLeftsJ.nd rfl (Or.inl rfl) (pe_lst pa_nil))
      (pss_cons (ps_for PassesOwn.never rfl (pi_tup (pe_call (E := E0) GC (hr.mono (by decide)) (by rfl) T.CycleFrom.g T.CycleFrom.F.kp T.CycleFrom.b .nil pass0 (pa_cons (pe_fld (pv 0) rfl) (pa_cons (pv 1) pa_nil)))) (pg_name (i := 3) scLeftsJ.nd rfl (.inl rfl)) (pss_one (ps_expr (pe_bm PySem.F.plainAttrs_list PySem.F.slot_list_extend PySem.F.type_list_extend mt_extend (pv 2) (pa_cons (pe_ix ix_list (pe_fld (pv 0) rfl) (pv 3) (fun _ _ => rfl)) pa_nil)))))
      (pss_one (ps_ret (pv 2))))), ?_⟩
    have n120 := hv.num120
    obtain ⟨l1, l60⟩ := lc_le hv.r2
    have wl := wh_len rs.length zs rs t
    have we := wh_eff rs.length zs rs t
    have hiw : i < (wh rs.length zs rs t).length := by omega
    obtain ⟨dx, st, le, ef, fs, srw, lrw, h1, h2, h3, h4, h5, h6, h7, h8, h9, h10⟩ := lap.ex
    have hsl := rowV_len h9
    have esl : (leftsV rs.length zs rs t (lc rs)).length = rs.length + sumN zs := by unfold leftsV; rw [List.length_map, List.length_range]
    refine ⟨Nat.zero_le _, fun m hm => ?_⟩
    have sm0 : Same H (upd H m (.lst [])) := same_upd hm
    have km : (upd H m (.lst [])) m = some (.lst (((List.range 0).flatMap fun b => (leftV rs.length zs rs t (lc rs) (it (wh rs.length zs rs t) b i))))) := upd_same
    generalize upd H m (.lst []) = H0 at sm0 km ⊢
    refine ⟨.ref la, rfl, la, T.CLap, dx, fs, _, rfl, sm0 _ _ h1, T.lap.c, T.lap.n4, h5, .int (i : Nat), rfl, ef, wh rs.length zs rs t, i, rfl, .inl (.inl (sm0 _ _ h10)), we, hiw, by omega, fun H2 c sm2 nc kc => ?_⟩
    have cm : c ≠ m := fun z => by rw [z, km] at nc; cases nc
    have ple := (per_spec we hiw).2.2.2
    refine ⟨c, rfl, ⟨_, .inl (.inl kc)⟩, for_tup (xs := vN (cyc (wh rs.length zs rs t) i)) (fun k σ H' => (∃ y, σ = [some (.ref la), some (.int (i : Nat)), some (.ref m), y]) ∧ Same H H' ∧ H' c = some (.tup (vN (cyc (wh rs.length zs rs t) i))) ∧ H' m = some (.lst ((List.range k).flatMap fun b => (leftV rs.length zs rs t (lc rs) (it (wh rs.length zs rs t) b i)))))
      ⟨⟨_, rfl⟩, sm0.trans sm2, kc, sm2 _ _ km⟩ (fun k σ H' _ h => .inl (.inl h.2.2.1)) (fun k x σ H' hx ⟨⟨y, es⟩, sm, kc3, km3⟩ => ?_) (fun σ H' ⟨⟨y, es⟩, sm, kc3, km3⟩ => ?_)⟩
    · subst es
      obtain ⟨hk, rfl⟩ := vN_lt hx
      have hkp := hk
      rw [cyc_len] at hkp
      have eit : ap (cyc (wh rs.length zs rs t) i) k = it (wh rs.length zs rs t) k i := by
        unfold ap
        rw [List.getD_eq_getElem?_getD, cyc_at hkp]
        rfl
      rw [eit]
      have la' := it_lt we (k := k) hiw
      rw [wl] at la'
      have eapp : ((List.range (k + 1)).flatMap fun b => (leftV rs.length zs rs t (lc rs) (it (wh rs.length zs rs t) b i))) = ((List.range k).flatMap fun b => (leftV rs.length zs rs t (lc rs) (it (wh rs.length zs rs t) b i))) ++ (leftV rs.length zs rs t (lc rs) (it (wh rs.length zs rs t) k i)) := by
        rw [List.range_succ, List.flatMap_append, List.flatMap_cons, List.flatMap_nil, List.append_nil]
      have elen : ((List.range k).flatMap fun b => (leftV rs.length zs rs t (lc rs) (it (wh rs.length zs rs t) b i))).length = k * lc rs := by
        rw [lefts_j hv t hi]
        simp
      have elen1 : ((leftV rs.length zs rs t (lc rs) (it (wh rs.length zs rs t) k i))).length = lc rs := by
        exact leftV_len _ _ _ _ _ _
      rw [← esl, ← hsl] at la'
      generalize it (wh rs.length zs rs t) k i = a at la' eapp elen1 ⊢
      obtain ⟨qa, hqa⟩ : ∃ qa, lrw[a]? = some qa := ⟨_, List.getElem?_eq_getElem la'⟩
      obtain ⟨sa, esa, kqa⟩ := rowV_at (rowV_imp (fun q _ o ho => sm _ _ ho) h9) hqa
      unfold leftsV at esa
      rw [List.getElem?_map, List.getElem?_range (by omega)] at esa
      obtain rfl := Option.some.inj esa
      refine ⟨.ref m, rfl, .inl ⟨rfl, _, .inl (.inl km3)⟩, .ref la, rfl, la, T.CLap, dx, fs, _, rfl, sm _ _ h1, T.lap.c, T.lap.n3, h4, .int (a : Nat), rfl, le, _, _, .ref qa, rfl, rfl, .inl (.inl (sm _ _ h8)), atI_nat (by rw [List.getElem?_map, hqa]; rfl), ?_⟩
      refine ⟨m, qa, _, _, rfl, rfl, km3, kqa, ?_, ⟨_, rfl⟩, same_of sm hm, ?_, ?_⟩
      · rw [elen, elen1, sizeLine_eq]
        have := Nat.mul_le_mul (by omega : k ≤ 120) l60
        omega
      · rw [upd_ne cm]
        exact kc3
      · rw [upd_same, eapp]
    · subst es
      have ev : (vN (cyc (wh rs.length zs rs t) i)).length = per (wh rs.length zs rs t) i := by rw [vN_len, cyc_len]
      rw [ev, lefts_j hv t hi] at km3
      exact ⟨.ref m, rfl, q H' m sm hm km3⟩
end
end Sv


set_option maxHeartbeats 4000000
namespace Sv
/-! ### what happens for the n-th time -/
theorem flt_len (f : Nat → Bool) (W : Nat) : ((List.range W).filter f).length = cntM f W := rfl
theorem cntM_succ (f : Nat → Bool) (n : Nat) : cntM f (n + 1) = cntM f n + (if f n = true then 1 else 0) := by
  unfold cntM
  rw [List.range_succ, List.filter_append, List.length_append]
  congr 1
  cases h : f n with
  | true => rw [List.filter_cons_of_pos h]; rfl
  | false => rw [List.filter_cons_of_neg (by rw [h]; exact Bool.false_ne_true)]; rfl
theorem cntM_mono (f : Nat → Bool) {a b : Nat} (h : a ≤ b) : cntM f a ≤ cntM f b := by
  obtain ⟨d, rfl⟩ := Nat.exists_eq_add_of_le h
  rw [cntM_add]
  exact Nat.le_add_right _ _
theorem cntM_le (f : Nat → Bool) (n : Nat) : cntM f n ≤ n := by
  unfold cntM
  have := List.length_filter_le f (List.range n)
  rwa [List.length_range] at this
theorem flt_at (f : Nat → Bool) : ∀ W r m, ((List.range W).filter f)[r]? = some m → m < W ∧ f m = true ∧ cntM f m = r
  | 0, r, m, h => by cases h
  | W + 1, r, m, h => by
    rw [List.range_succ, List.filter_append] at h
    by_cases hr : r < ((List.range W).filter f).length
    · rw [List.getElem?_append_left hr] at h
      obtain ⟨a, b, c⟩ := flt_at f W r m h
      exact ⟨by omega, b, c⟩
    · rw [List.getElem?_append_right (by omega)] at h
      cases hf : f W with
      | false =>
        rw [List.filter_cons_of_neg (by rw [hf]; exact Bool.false_ne_true)] at h
        cases h
      | true =>
        rw [List.filter_cons_of_pos hf] at h
        have hl := (List.getElem?_eq_some_iff.mp h).1
        rw [List.length_cons, List.filter_nil, List.length_nil] at hl
        have e0 : r - ((List.range W).filter f).length = 0 := by omega
        rw [e0] at h
        have em : W = m := Option.some.inj h
        rw [← em]
        exact ⟨by omega, hf, by rw [← flt_len]; omega⟩
theorem cntM_uniq {f : Nat → Bool} {a b : Nat} (ha : f a = true) (hb : f b = true) (e : cntM f a = cntM f b) : a = b := by
  rcases Nat.lt_trichotomy a b with h | h | h
  · have h1 := cntM_succ f a
    rw [if_pos ha] at h1
    have h2 := cntM_mono f (show a + 1 ≤ b from h)
    omega
  · exact h
  · have h1 := cntM_succ f b
    rw [if_pos hb] at h1
    have h2 := cntM_mono f (show b + 1 ≤ a from h)
    omega
/-- the n-th time, out of one round -/
theorem nth_round {f : Nat → Bool} {W : Nat} (per : ∀ k, f (W + k) = f k) (n : Nat) {m : Nat} (h : ((List.range W).filter f)[n % cntM f W]? = some m) : f (n / cntM f W * W + m) = true ∧ cntM f (n / cntM f W * W + m) = n := by
  obtain ⟨h1, h2, h3⟩ := flt_at f W _ m h
  have pf : ∀ d : Nat, f (d * W + m) = f m := by
    intro d
    induction d with
    | zero => rw [Nat.zero_mul, Nat.zero_add]
    | succ d ih =>
      rw [Nat.succ_mul, show d * W + W + m = W + (d * W + m) by omega, per, ih]
  refine ⟨by rw [pf]; exact h2, ?_⟩
  rw [cntM_per per, h3]
  have := Nat.div_add_mod n (cntM f W)
  rw [Nat.mul_comm] at this
  exact this
theorem cnt_none {f : Nat → Bool} {W : Nat} (hW : 0 < W) (per : ∀ k, f (W + k) = f k) (h : cntM f W = 0) : ∀ k, f k = false := by
  refine none_in hW per fun k hk => ?_
  cases e : f k with
  | false => rfl
  | true =>
    have h1 := cntM_succ f k
    rw [if_pos e] at h1
    have h2 := cntM_mono f (show k + 1 ≤ W from hk)
    omega
end Sv


set_option maxHeartbeats 4000000
namespace Sv
open PySem PySem.Spec PyProof.Rows L2
/-! ### counted ticks -/
theorem eqV_tag (o : Option Nat) (y : Int) : eqV (tagV o) (.int y) = decide (tagV o = .int y) := by
  cases o with
  | none => rfl
  | some n =>
    show eqV (.int (n : Nat)) (.int y) = decide (V.int (n : Nat) = .int y)
    rw [eqV_int]
    exact decide_eq_decide.mpr ⟨fun h => by rw [h], fun h => V.int.inj h⟩
theorem flat_tags (F : Nat → Option Nat) (W : Nat) : ((List.range W).map fun k => tagV (F k)).all flatV = true := by
  rw [List.all_map]
  exact List.all_eq_true.mpr fun k _ => by
    show flatV (tagV (F k)) = true
    cases F k <;> rfl
theorem flat_nats (F : Nat → Nat) (W : Nat) : ((List.range W).map fun k => V.int (F k : Nat)).all flatV = true := by
  rw [List.all_map]
  exact List.all_eq_true.mpr fun k _ => rfl
theorem cnt_row {G : Nat → V} {f : Nat → Bool} {y : V} (h : ∀ k, eqV (G k) y = f k) (W : Nat) : cntV y ((List.range W).map G) = cntM f W := by
  unfold cntV cntM
  rw [List.countP_map, List.countP_eq_length_filter]
  congr 1
  exact List.filter_congr fun a _ => h a
theorem cnt_ticks {G : Nat → V} {f : Nat → Bool} {y : V} (h : ∀ k, eqV (G k) y = f k) {W : Nat} (W0 : 0 < W) (per : ∀ k, f (W + k) = f k) (c : Nat) :
    c / ((List.range W).map G).length * cntV y ((List.range W).map G) + cntV y (((List.range W).map G).take (c % ((List.range W).map G).length)) = cntM f c := by
  rw [List.length_map, List.length_range, ← List.map_take, List.take_range, Nat.min_eq_left (Nat.le_of_lt (Nat.mod_lt _ W0)), cnt_row h, cnt_row h, ← cntM_per per (c % W) (c / W), Nat.mul_comm, Nat.div_add_mod]
section
variable {zs : List Int} {rs : List Ro} (hv : Val zs rs) (t : Int) {i : Nat} (hi : i < rs.length + sumN zs)
theorem pos_lt (hv : Val zs rs) (t : Int) {i : Nat} (hi : i < rs.length + sumN zs) (k : Nat) : pos zs rs t k i < rs.length + sumN zs := by
  have := ap_lt (effT_eff rs.length zs rs t (k : Nat)) (x := i) (by rw [effT_len]; exact hi)
  rwa [effT_len] at this
end
/-- in the tick behind k ticks it is left on shelf y -/
noncomputable def lfB (zs : List Int) (rs : List Ro) (t : Int) (i : Nat) (y : Int) (k : Nat) : Bool := decide (tagV (lft zs rs t i k) = .int y)
/-- after k + 1 ticks it is at the place y -/
noncomputable def poB (zs : List Int) (rs : List Ro) (t : Int) (i : Nat) (y : Int) (k : Nat) : Bool := decide (((pos zs rs t (k + 1) i : Nat) : Int) = y)
/-- after k + 1 ticks it is on shelf y -/
noncomputable def tgB (zs : List Int) (rs : List Ro) (t : Int) (i : Nat) (y : Int) (k : Nat) : Bool := decide (tagV (tag zs rs.length (pos zs rs t (k + 1) i)) = .int y)
noncomputable def tgJ (zs : List Int) (rs : List Ro) (t : Int) (i W : Nat) : List V := (List.range W).map fun k => tagV (tag zs rs.length (pos zs rs t (k + 1) i))
section
variable {zs : List Int} {rs : List Ro} (hv : Val zs rs) (t : Int) {i : Nat} (hi : i < rs.length + sumN zs) (y : Int)
include hv hi
theorem lfB_per (k : Nat) : lfB zs rs t i y (per (wh rs.length zs rs t) i * lc rs + k) = lfB zs rs t i y k := by
  unfold lfB
  rw [lft_per hv t hi (Nat.dvd_refl _)]
theorem poB_per (k : Nat) : poB zs rs t i y (per (wh rs.length zs rs t) i * lc rs + k) = poB zs rs t i y k := by
  unfold poB
  rw [Nat.add_assoc, pos_per hv t hi (Nat.dvd_refl _)]
theorem tgB_per (k : Nat) : tgB zs rs t i y (per (wh rs.length zs rs t) i * lc rs + k) = tgB zs rs t i y k := by
  unfold tgB
  rw [Nat.add_assoc, pos_per hv t hi (Nat.dvd_refl _)]
end
/-- the errors of who asks for a parcel -/
def PreE (C CS CU : Addr) (zs : List Int) (rs : List Ro) (t x : Int) (L : Lay Int) (H : Hp) (E : XK) : Prop := BadE C zs rs H E ∧
  (bad zs rs = none → ¬ StOk zs rs t L → ∀ H', Same H H' → E (.ref CS) none H') ∧ (bad zs rs = none → StOk zs rs t L → x ∉ join L → ∀ H', Same H H' → E (.ref CU) none H')
section
variable {P : Program} {w : World} {K : PySem.W.Frag} {mg : Str → Option Value} {base : Heap}
theorem scTimesLeft : FnScope ["plan", "state", "parcel", "shelf", "count", "start"] ["plan", "state", "parcel", "shelf", "count"] (defScope sTimesLeft) := ⟨rfl, rfl, rfl, by decide +kernel, rfl, by decide +kernel, by decide +kernel⟩
def spTimesLeft (K : PySem.W.Frag) (C CS CU CV CC : Addr) : Sp := fun vs H Q E => ∃ (p s : Addr) (zs : List Int) (rs : List Ro) (t x y c : Int) (L : Lay Int), vs = [.ref p, .ref s, .int x, .int y, .int c] ∧ PlanAt K H p zs rs ∧ Small zs rs ∧ StateAt K H s t L ∧ PreE C CS CU zs rs t x L H E ∧
  (bad zs rs = none → StOk zs rs t L → x ∈ join L → ¬ (0 ≤ y ∧ y < (zs.length : Nat)) → ∀ H', Same H H' → E (.ref CV) none H') ∧
  (bad zs rs = none → StOk zs rs t L → x ∈ join L → (0 ≤ y ∧ y < (zs.length : Nat)) → ¬ TkOk c → ∀ H', Same H H' → E (.ref CC) none H') ∧
  (bad zs rs = none → StOk zs rs t L → (0 ≤ y ∧ y < (zs.length : Nat)) → TkOk c → ∀ i : Nat, (join L)[i]? = some x → ∀ H', Same H H' → Q (.int (cntM (lfB zs rs t i y) c.toNat : Nat)) H')
theorem ok_timesLeft (T : Bd P K mg) : FnOk P w K mg base (L2.CX P w) 6 T.aTimesLeft T.dTimesLeft ["plan", "state", "parcel", "shelf", "count"] (spTimesLeft K T.C T.CS T.CUr T.CUs T.CC) := by
  have GI : FnOk P w K mg base CX0 3 T.aLap T.dLap ["self", "plan", "time"] (spLapInit K T.CLap) := ok_lapInit T
  have GT : FnOk P w K mg base (L2.CX P w) 5 T.aStartOf T.dStartOf ["plan", "state", "parcel"] (spStart K T.C T.CS T.CUr) := ok_startOf T
  have GK : FnOk P w K mg base (L2.CX P w) 3 T.aCheckTicks T.dCheckTicks ["count"] (spCheckTicks T.CC) := ok_checkTicks T
  have GN : FnOk P w K mg base CX0 1 T.aCountIn T.dCountIn ["row", "wanted", "count"] (spCountIn K) := ok_countIn T
  have GL : FnOk P w K mg base CX0 2 T.aLeftsJ T.dLeftsJ ["lap", "start"] (spLeftsJ K T.CLap) := ok_leftsJ T
  have GH : FnOk P w K mg base (L2.CX P w) 2 T.aCheckShelf T.dCheckShelf ["plan", "shelf"] (spCheckShelf K T.CUs) := ok_checkShelf T
  refine T.TimesLeft.F.okX scTimesLeft (fun vs H Q E h => ?_) (fun cdv A outer s H vs Q E hr h => ?_)
  · obtain ⟨p, s, zs, rs, t, x, y, c, L, rfl, _⟩ := h
    rfl
  · obtain ⟨p, s, zs, rs, t, x, y, c, L, rfl, hp, hs, hst, ⟨q1, q2, q3⟩, q4, q5, q6⟩ := h
    have hr1 : Room 4 _ := hr.mono (by decide)
    refine ⟨_, (pss_cons (ps_set (i := 5) scTimesLeft.nd rfl (Or.inl rfl) (pe_call (E := E) GT (hr.mono (by decide)) (by rfl) T.StartOf.g T.StartOf.F.kp T.StartOf.b .nil (passes_call (takes_of rfl rfl rfl rfl) fun _ _ _ _ h => h) (pa_cons (pv 0) (pa_cons (pv 1) (pa_cons (pv 2) pa_nil)))))
      (pss_cons (ps_expr (pe_call (E := E) GH (hr.mono (by decide)) (by rfl) T.CheckShelf.g T.CheckShelf.F.kp T.CheckShelf.b .nil (passes_call (takes_of rfl rfl rfl rfl) fun _ _ _ _ h => h) (pa_cons (pv 0) (pa_cons (pv 3) pa_nil))))
      (pss_cons (ps_expr (pe_call (E := E) GK (hr.mono (by decide)) (by rfl) T.CheckTicks.g T.CheckTicks.F.kp T.CheckTicks.b .nil (passes_call (takes_of rfl rfl rfl rfl) fun _ _ _ _ h => h) (pa_cons (pv 4) pa_nil)))
      (pss_one (ps_ret (pe_call (E := E0) GN (hr.mono (by decide)) (by rfl) T.CountIn.g T.CountIn.F.kp T.CountIn.b .nil pass0 (pa_cons (pe_call (E := E0) GL (hr.mono (by decide)) (by rfl) T.LeftsJ.g T.LeftsJ.F.kp T.LeftsJ.b .nil pass0 (pa_cons (pe_make T.lap.m GI hr1 (by rfl) T.lap.g T.lap.b .nil pass0 (pa_cons (pv 0) (pa_cons (pe_ix ix_tup (pv 1) pe_int (fun _ _ => rfl)) pa_nil))) (pa_cons (pv 5) pa_nil))) (pa_cons (pv 3) (pa_cons (pv 4) pa_nil))))))))), ?_⟩
    refine ⟨.ref p, rfl, .ref s, rfl, .int x, rfl, p, s, zs, rs, t, x, L, rfl, hp, hs, hst, q1, q2, fun e1 hok i hi H1 sm1 => ?_, q3⟩
    have hv := val_of e1
    have n120 := hv.num120
    have hxm := List.mem_of_getElem? hi
    have jl := join_len hok.f
    have il := (List.getElem?_eq_some_iff.mp hi).1
    have hi' : i < rs.length + sumN zs := by omega
    obtain ⟨l1, l60⟩ := lc_le hv.r2
    have wl := wh_len rs.length zs rs t
    have we := wh_eff rs.length zs rs t
    have pp := per_pos we (show i < (wh rs.length zs rs t).length by omega)
    have ple := (per_spec we (show i < (wh rs.length zs rs t).length by omega)).2.2.2
    refine ⟨.ref p, rfl, .int y, rfl, p, zs, rs, y, rfl, hp.same sm1, hv, fun hy => ?_, fun hy => q4 e1 hok hxm hy H1 sm1⟩
    refine ⟨.int c, rfl, c, rfl, fun hc => ?_, fun hc => q5 e1 hok hxm hy hc H1 sm1⟩
    obtain ⟨cn, hcn⟩ : ∃ cn : Nat, c = (cn : Int) := ⟨c.toNat, (Int.toNat_of_nonneg hc.1).symm⟩
    subst hcn
    have q := q6 e1 hok hy hc i hi
    rw [Int.toNat_natCast] at q
    have Wp : 0 < per (wh rs.length zs rs t) i * lc rs := Nat.mul_pos (by omega) (by omega)
    have Wl : per (wh rs.length zs rs t) i * lc rs ≤ 120 * 60 := Nat.mul_le_mul (by omega) l60
    have perf := lfB_per hv t hi' y
    obtain ⟨ca, sh, hs1, hL⟩ := (hst.same sm1).ex
    refine ⟨.ref p, rfl, .ref s, rfl, s, _, 0, .int t, rfl, rfl, hs1, rfl, fun la dl n1 n2 ne => ⟨la, dl, p, t, zs, rs, rfl, upd_same, (hp.same sm1).same (same_of (same_upd n2) n1), hv, fun HL o lap => ⟨rfl, ?_⟩⟩⟩
    have smL := sm1.trans (same_make n1 n2 o)
    refine ⟨.int (i : Nat), rfl, la, zs, rs, t, i, rfl, hv, lap, hi', fun H3 m sm3 nm km => ?_⟩
    have smB := smL.trans sm3
    generalize per (wh rs.length zs rs t) i * lc rs = W at km Wp Wl perf
    have hlen : (leJ zs rs t i W).length = W := by unfold leJ; rw [List.length_map, List.length_range]
    refine ⟨.int y, rfl, .int (cn : Nat), rfl, m, _, .int y, cn, rfl, .inl (.inl km), rfl, by unfold leJ; exact flat_tags _ _, by omega, by rw [hlen]; omega, by rw [hlen]; omega, fun H4 sm4 => ?_⟩
    unfold leJ
    rw [cnt_ticks (f := lfB zs rs t i y) (fun k => eqV_tag _ _) Wp perf]
    exact q H4 (smB.trans sm4)
theorem scTicksCarried : FnScope ["plan", "state", "parcel", "carrier", "count", "start"] ["plan", "state", "parcel", "carrier", "count"] (defScope sTicksCarried) := ⟨rfl, rfl, rfl, by decide +kernel, rfl, by decide +kernel, by decide +kernel⟩
def spTicksCarried (K : PySem.W.Frag) (C CS CU CV CC : Addr) : Sp := fun vs H Q E => ∃ (p s : Addr) (zs : List Int) (rs : List Ro) (t x y c : Int) (L : Lay Int), vs = [.ref p, .ref s, .int x, .int y, .int c] ∧ PlanAt K H p zs rs ∧ Small zs rs ∧ StateAt K H s t L ∧ PreE C CS CU zs rs t x L H E ∧
  (bad zs rs = none → StOk zs rs t L → x ∈ join L → ¬ (0 ≤ y ∧ y < (rs.length : Nat)) → ∀ H', Same H H' → E (.ref CV) none H') ∧
  (bad zs rs = none → StOk zs rs t L → x ∈ join L → (0 ≤ y ∧ y < (rs.length : Nat)) → ¬ TkOk c → ∀ H', Same H H' → E (.ref CC) none H') ∧
  (bad zs rs = none → StOk zs rs t L → (0 ≤ y ∧ y < (rs.length : Nat)) → TkOk c → ∀ i : Nat, (join L)[i]? = some x → ∀ H', Same H H' → Q (.int (cntM (poB zs rs t i y) c.toNat : Nat)) H')
theorem ok_ticksCarried (T : Bd P K mg) : FnOk P w K mg base (L2.CX P w) 6 T.aTicksCarried T.dTicksCarried ["plan", "state", "parcel", "carrier", "count"] (spTicksCarried K T.C T.CS T.CUr T.CUc T.CC) := by
  have GI : FnOk P w K mg base CX0 3 T.aLap T.dLap ["self", "plan", "time"] (spLapInit K T.CLap) := ok_lapInit T
  have GT : FnOk P w K mg base (L2.CX P w) 5 T.aStartOf T.dStartOf ["plan", "state", "parcel"] (spStart K T.C T.CS T.CUr) := ok_startOf T
  have GK : FnOk P w K mg base (L2.CX P w) 3 T.aCheckTicks T.dCheckTicks ["count"] (spCheckTicks T.CC) := ok_checkTicks T
  have GN : FnOk P w K mg base CX0 1 T.aCountIn T.dCountIn ["row", "wanted", "count"] (spCountIn K) := ok_countIn T
  have GJ : FnOk P w K mg base CX0 2 T.aStopsJ T.dStopsJ ["lap", "start"] (spStopsJ K T.CLap) := ok_stopsJ T
  have GR : FnOk P w K mg base (L2.CX P w) 2 T.aCheckCarrier T.dCheckCarrier ["plan", "carrier"] (spCheckCarrier K T.CUc) := ok_checkCarrier T
  refine T.TicksCarried.F.okX scTicksCarried (fun vs H Q E h => ?_) (fun cdv A outer s H vs Q E hr h => ?_)
  · obtain ⟨p, s, zs, rs, t, x, y, c, L, rfl, _⟩ := h
    rfl
  · obtain ⟨p, s, zs, rs, t, x, y, c, L, rfl, hp, hs, hst, ⟨q1, q2, q3⟩, q4, q5, q6⟩ := h
    have hr1 : Room 4 _ := hr.mono (by decide)
    refine ⟨_, (pss_cons (ps_set (i := 5) scTicksCarried.nd rfl (Or.inl rfl) (pe_call (E := E) GT (hr.mono (by decide)) (by rfl) T.StartOf.g T.StartOf.F.kp T.StartOf.b .nil (passes_call (takes_of rfl rfl rfl rfl) fun _ _ _ _ h => h) (pa_cons (pv 0) (pa_cons (pv 1) (pa_cons (pv 2) pa_nil)))))
      (pss_cons (ps_expr (pe_call (E := E) GR (hr.mono (by decide)) (by rfl) T.CheckCarrier.g T.CheckCarrier.F.kp T.CheckCarrier.b .nil (passes_call (takes_of rfl rfl rfl rfl) fun _ _ _ _ h => h) (pa_cons (pv 0) (pa_cons (pv 3) pa_nil))))
      (pss_cons (ps_expr (pe_call (E := E) GK (hr.mono (by decide)) (by rfl) T.CheckTicks.g T.CheckTicks.F.kp T.CheckTicks.b .nil (passes_call (takes_of rfl rfl rfl rfl) fun _ _ _ _ h => h) (pa_cons (pv 4) pa_nil)))
      (pss_one (ps_ret (pe_call (E := E0) GN (hr.mono (by decide)) (by rfl) T.CountIn.g T.CountIn.F.kp T.CountIn.b .nil pass0 (pa_cons (pe_call (E := E0) GJ (hr.mono (by decide)) (by rfl) T.StopsJ.g T.StopsJ.F.kp T.StopsJ.b .nil pass0 (pa_cons (pe_make T.lap.m GI hr1 (by rfl) T.lap.g T.lap.b .nil pass0 (pa_cons (pv 0) (pa_cons (pe_ix ix_tup (pv 1) pe_int (fun _ _ => rfl)) pa_nil))) (pa_cons (pv 5) pa_nil))) (pa_cons (pv 3) (pa_cons (pv 4) pa_nil))))))))), ?_⟩
    refine ⟨.ref p, rfl, .ref s, rfl, .int x, rfl, p, s, zs, rs, t, x, L, rfl, hp, hs, hst, q1, q2, fun e1 hok i hi H1 sm1 => ?_, q3⟩
    have hv := val_of e1
    have n120 := hv.num120
    have hxm := List.mem_of_getElem? hi
    have jl := join_len hok.f
    have il := (List.getElem?_eq_some_iff.mp hi).1
    have hi' : i < rs.length + sumN zs := by omega
    obtain ⟨l1, l60⟩ := lc_le hv.r2
    have wl := wh_len rs.length zs rs t
    have we := wh_eff rs.length zs rs t
    have pp := per_pos we (show i < (wh rs.length zs rs t).length by omega)
    have ple := (per_spec we (show i < (wh rs.length zs rs t).length by omega)).2.2.2
    refine ⟨.ref p, rfl, .int y, rfl, p, zs, rs, y, rfl, hp.same sm1, hv, fun hy => ?_, fun hy => q4 e1 hok hxm hy H1 sm1⟩
    refine ⟨.int c, rfl, c, rfl, fun hc => ?_, fun hc => q5 e1 hok hxm hy hc H1 sm1⟩
    obtain ⟨cn, hcn⟩ : ∃ cn : Nat, c = (cn : Int) := ⟨c.toNat, (Int.toNat_of_nonneg hc.1).symm⟩
    subst hcn
    have q := q6 e1 hok hy hc i hi
    rw [Int.toNat_natCast] at q
    have Wp : 0 < per (wh rs.length zs rs t) i * lc rs := Nat.mul_pos (by omega) (by omega)
    have Wl : per (wh rs.length zs rs t) i * lc rs ≤ 120 * 60 := Nat.mul_le_mul (by omega) l60
    have perf := poB_per hv t hi' y
    obtain ⟨ca, sh, hs1, hL⟩ := (hst.same sm1).ex
    refine ⟨.ref p, rfl, .ref s, rfl, s, _, 0, .int t, rfl, rfl, hs1, rfl, fun la dl n1 n2 ne => ⟨la, dl, p, t, zs, rs, rfl, upd_same, (hp.same sm1).same (same_of (same_upd n2) n1), hv, fun HL o lap => ⟨rfl, ?_⟩⟩⟩
    have smL := sm1.trans (same_make n1 n2 o)
    refine ⟨.int (i : Nat), rfl, la, zs, rs, t, i, rfl, hv, lap, hi', fun H3 m sm3 nm km => ?_⟩
    have smB := smL.trans sm3
    generalize per (wh rs.length zs rs t) i * lc rs = W at km Wp Wl perf
    have hlen : (stJ zs rs t i W).length = W := by unfold stJ; rw [List.length_map, List.length_range]
    refine ⟨.int y, rfl, .int (cn : Nat), rfl, m, _, .int y, cn, rfl, .inl (.inl km), rfl, by unfold stJ; exact flat_nats _ _, by omega, by rw [hlen]; omega, by rw [hlen]; omega, fun H4 sm4 => ?_⟩
    unfold stJ
    rw [cnt_ticks (f := poB zs rs t i y) (fun k => eqV_int _ _) Wp perf]
    exact q H4 (smB.trans sm4)
def nTo : List Str := ["plan", "state", "parcel", "shelf", "count", "start", "shelves", "row", "stop"]
def spTicksOnShelf (K : PySem.W.Frag) (C CS CU CV CC : Addr) : Sp := fun vs H Q E => ∃ (p s : Addr) (zs : List Int) (rs : List Ro) (t x y c : Int) (L : Lay Int), vs = [.ref p, .ref s, .int x, .int y, .int c] ∧ PlanAt K H p zs rs ∧ Small zs rs ∧ StateAt K H s t L ∧ PreE C CS CU zs rs t x L H E ∧
  (bad zs rs = none → StOk zs rs t L → x ∈ join L → ¬ (0 ≤ y ∧ y < (zs.length : Nat)) → ∀ H', Same H H' → E (.ref CV) none H') ∧
  (bad zs rs = none → StOk zs rs t L → x ∈ join L → (0 ≤ y ∧ y < (zs.length : Nat)) → ¬ TkOk c → ∀ H', Same H H' → E (.ref CC) none H') ∧
  (bad zs rs = none → StOk zs rs t L → (0 ≤ y ∧ y < (zs.length : Nat)) → TkOk c → ∀ i : Nat, (join L)[i]? = some x → ∀ H', Same H H' → Q (.int (cntM (tgB zs rs t i y) c.toNat : Nat)) H')
end
end Sv


set_option maxHeartbeats 4000000
namespace Sv
open PySem PySem.Spec PyProof.Rows L2
/-! ### left for the n-th time -/
def NthV (f : Nat → Bool) (n : Int) (v : V) : Prop := (v = .non ∧ ∀ k, f k = false) ∨ ∃ m : Nat, v = .int ((m : Nat) + 1 : Int) ∧ f m = true ∧ (cntM f m : Int) = n - 1
def StV (F : Nat → Option Nat) (n : Nat) (v : V) : Prop := ∃ m : Nat, (F m).isSome = true ∧ cntM (fun k => (F k).isSome) m = n ∧ v = tagV (F m)
def StampsV (F : Nat → Option Nat) (c : Nat) (xs : List V) : Prop := (xs = [] ∧ ∀ k, (F k).isSome = false) ∨ xs.length = c ∧ ∀ j z, xs[j]? = some z → StV F j z
theorem tag_scal (o : Option Nat) (y : Int) : scal (tagV o) (.int y) = true := by cases o <;> rfl
noncomputable def tkJ (zs : List Int) (rs : List Ro) (t : Int) (i : Nat) (y : Int) (W : Nat) : List V := ((List.range W).filter (lfB zs rs t i y)).map fun k => V.int ((k : Nat) + 1 : Int)
theorem tkJ_len (zs : List Int) (rs : List Ro) (t : Int) (i : Nat) (y : Int) (W : Nat) : (tkJ zs rs t i y W).length = cntM (lfB zs rs t i y) W := by
  unfold tkJ
  rw [List.length_map, flt_len]
noncomputable def anB (zs : List Int) (rs : List Ro) (t : Int) (i : Nat) (k : Nat) : Bool := (lft zs rs t i k).isSome
noncomputable def anJ (zs : List Int) (rs : List Ro) (t : Int) (i W : Nat) : List V := ((List.range W).filter (anB zs rs t i)).map fun k => tagV (lft zs rs t i k)
theorem anJ_len (zs : List Int) (rs : List Ro) (t : Int) (i W : Nat) : (anJ zs rs t i W).length = cntM (anB zs rs t i) W := by
  unfold anJ
  rw [List.length_map, flt_len]
theorem flt_yes {f : Nat → Bool} {k : Nat} (h : f k = true) : (List.range (k + 1)).filter f = (List.range k).filter f ++ [k] := by
  rw [List.range_succ, List.filter_append, List.filter_cons_of_pos h]
  rfl
theorem flt_no {f : Nat → Bool} {k : Nat} (h : f k = false) : (List.range (k + 1)).filter f = (List.range k).filter f := by
  rw [List.range_succ, List.filter_append, List.filter_cons_of_neg (by rw [h]; exact Bool.false_ne_true)]
  exact List.append_nil _
section
variable {zs : List Int} {rs : List Ro} {t : Int} {i k : Nat} {y : Int}
theorem tkJ_yes (h : lfB zs rs t i y k = true) : tkJ zs rs t i y k ++ [V.int ((k : Nat) + 1 : Int)] = tkJ zs rs t i y (k + 1) := by
  unfold tkJ
  rw [flt_yes h, List.map_append]
  rfl
theorem tkJ_no (h : lfB zs rs t i y k = false) : tkJ zs rs t i y k = tkJ zs rs t i y (k + 1) := by
  unfold tkJ
  rw [flt_no h]
theorem anJ_yes {b : Nat} (h : lft zs rs t i k = some b) : anJ zs rs t i k ++ [tagV (some b)] = anJ zs rs t i (k + 1) := by
  unfold anJ
  rw [flt_yes (by unfold anB; rw [h]; rfl), List.map_append]
  show _ = _ ++ [tagV (lft zs rs t i k)]
  rw [h]
theorem anJ_no (h : lft zs rs t i k = none) : anJ zs rs t i k = anJ zs rs t i (k + 1) := by
  unfold anJ
  rw [flt_no (by unfold anB; rw [h]; rfl)]
theorem anB_per (hv : Val zs rs) (t : Int) {i : Nat} (hi : i < rs.length + sumN zs) (k : Nat) : anB zs rs t i (per (wh rs.length zs rs t) i * lc rs + k) = anB zs rs t i k := by
  unfold anB
  rw [lft_per hv t hi (Nat.dvd_refl _)]
theorem lft_tm {W : Nat} (h : ∀ k, lft zs rs t i (W + k) = lft zs rs t i k) (d m : Nat) : lft zs rs t i (d * W + m) = lft zs rs t i m := by
  induction d with
  | zero => rw [Nat.zero_mul, Nat.zero_add]
  | succ d ih => rw [Nat.succ_mul, show d * W + W + m = W + (d * W + m) by omega, h, ih]
end
section
variable {P : Program} {w : World} {K : PySem.W.Frag} {mg : Str → Option Value} {base : Heap}
def nNl : List Str := ["plan", "state", "parcel", "shelf", "number", "start", "lefts", "ticks", "rounds", "rest", "step", "left"]
theorem scNthLeft : FnScope ["plan", "state", "parcel", "shelf", "number", "start", "lefts", "ticks", "rounds", "rest", "step", "left"] ["plan", "state", "parcel", "shelf", "number"] (defScope sNthLeft) := ⟨rfl, rfl, rfl, by decide +kernel, rfl, by decide +kernel, by decide +kernel⟩
def spNthLeft (K : PySem.W.Frag) (C CS CU CV CC : Addr) : Sp := fun vs H Q E => ∃ (p s : Addr) (zs : List Int) (rs : List Ro) (t x y c : Int) (L : Lay Int), vs = [.ref p, .ref s, .int x, .int y, .int c] ∧ PlanAt K H p zs rs ∧ Small zs rs ∧ StateAt K H s t L ∧ PreE C CS CU zs rs t x L H E ∧
  (bad zs rs = none → StOk zs rs t L → x ∈ join L → ¬ (0 ≤ y ∧ y < (zs.length : Nat)) → ∀ H', Same H H' → E (.ref CV) none H') ∧
  (bad zs rs = none → StOk zs rs t L → x ∈ join L → (0 ≤ y ∧ y < (zs.length : Nat)) → ¬ NrOk c → ∀ H', Same H H' → E (.ref CC) none H') ∧
  (bad zs rs = none → StOk zs rs t L → (0 ≤ y ∧ y < (zs.length : Nat)) → NrOk c → ∀ i : Nat, (join L)[i]? = some x → ∀ H' v, Same H H' → NthV (lfB zs rs t i y) c v → Q v H')
theorem ok_nthLeft (T : Bd P K mg) : FnOk P w K mg base (L2.CX P w) 6 T.aNthLeft T.dNthLeft ["plan", "state", "parcel", "shelf", "number"] (spNthLeft K T.C T.CS T.CUr T.CUs T.CC) := by
  have GI : FnOk P w K mg base CX0 3 T.aLap T.dLap ["self", "plan", "time"] (spLapInit K T.CLap) := ok_lapInit T
  have GT : FnOk P w K mg base (L2.CX P w) 5 T.aStartOf T.dStartOf ["plan", "state", "parcel"] (spStart K T.C T.CS T.CUr) := ok_startOf T
  have GH : FnOk P w K mg base (L2.CX P w) 2 T.aCheckShelf T.dCheckShelf ["plan", "shelf"] (spCheckShelf K T.CUs) := ok_checkShelf T
  have GD : FnOk P w K mg base (L2.CX P w) 3 T.aCheckOrdinal T.dCheckOrdinal ["number"] (spCheckOrdinal T.CC) := ok_checkOrdinal T
  have GL : FnOk P w K mg base CX0 2 T.aLeftsJ T.dLeftsJ ["lap", "start"] (spLeftsJ K T.CLap) := ok_leftsJ T
  refine T.NthLeft.F.okX scNthLeft (fun vs H Q E h => ?_) (fun cdv A outer s H vs Q E hr h => ?_)
  · obtain ⟨p, s, zs, rs, t, x, y, c, L, rfl, _⟩ := h
    rfl
  · obtain ⟨p, s, zs, rs, t, x, y, c, L, rfl, hp, hs, hst, ⟨q1, q2, q3⟩, q4, q5, q6⟩ := h
    have hr1 : Room 4 _ := hr.mono (by decide)
    refine ⟨_, (pss_cons (ps_set (i := 5) scNthLeft.nd rfl (Or.inl rfl) (pe_call (E := E) GT (hr.mono (by decide)) (by rfl) T.StartOf.g T.StartOf.F.kp T.StartOf.b .nil (passes_call (takes_of rfl rfl rfl rfl) fun _ _ _ _ h => h) (pa_cons (pv 0) (pa_cons (pv 1) (pa_cons (pv 2) pa_nil)))))
      (pss_cons (ps_expr (pe_call (E := E) GH (hr.mono (by decide)) (by rfl) T.CheckShelf.g T.CheckShelf.F.kp T.CheckShelf.b .nil (passes_call (takes_of rfl rfl rfl rfl) fun _ _ _ _ h => h) (pa_cons (pv 0) (pa_cons (pv 3) pa_nil))))
      (pss_cons (ps_expr (pe_call (E := E) GD (hr.mono (by decide)) (by rfl) T.CheckOrdinal.g T.CheckOrdinal.F.kp T.CheckOrdinal.b .nil (passes_call (takes_of rfl rfl rfl rfl) fun _ _ _ _ h => h) (pa_cons (pv 4) pa_nil)))
      (pss_cons (ps_set (i := 6) scNthLeft.nd rfl (Or.inl rfl) (pe_call (E := E0) GL (hr.mono (by decide)) (by rfl) T.LeftsJ.g T.LeftsJ.F.kp T.LeftsJ.b .nil pass0 (pa_cons (pe_make T.lap.m GI hr1 (by rfl) T.lap.g T.lap.b .nil pass0 (pa_cons (pv 0) (pa_cons (pe_ix ix_tup (pv 1) pe_int (fun _ _ => rfl)) pa_nil))) (pa_cons (pv 5) pa_nil))))
      (pss_cons (ps_setLc (i := 7) (own := [("step", 10), ("left", 11)]) (g := gTup K 2 (gCons (gName 10) (gCons (gName 11) gNil))) rfl scNthLeft.nd rfl rfl (sw_true rfl rfl rfl (by decide +kernel)) (pi_enum (by rfl) T.bt.enumerate (pa_cons (pv 6) pa_nil)) (blkOk_by (N := nNl) (sc := defScope sNthLeft) (by decide +kernel)) (fun _ _ _ _ _ => (pg_tup rfl (pgs_cons (pg_name (i := 10) scNthLeft.nd rfl (.inl rfl)) (pgs_cons (pg_name (i := 11) scNthLeft.nd rfl (.inl rfl)) pgs_nil)))) (fun _ _ _ _ _ => pts_one (pt_cmpR op_eq (pv 11) (pv 3) (nomark _))) (fun _ _ _ _ _ => pe_op op_add (pv 10) pe_int))
      (pss_cons (ps_if (pt_not (pt_truth (pv 7) (fun _ => rfl))) (pss_one (ps_ret pe_non)) pss_nil)
      (pss_cons (ps_asg (pe_callB call_divmod (by rfl) T.bt.divmod (by decide +kernel) (pa_cons (pe_op op_sub (pv 4) pe_int) (pa_cons (pe_callB call_len_seq (by rfl) T.bt.len b_len (pa_cons (pv 7) pa_nil)) pa_nil))) (pg_tup rfl (pgs_cons (pg_name (i := 8) scNthLeft.nd rfl (.inl rfl)) (pgs_cons (pg_name (i := 9) scNthLeft.nd rfl (.inl rfl)) pgs_nil))))
      (pss_one (ps_ret (pe_op op_add (pe_op op_mul (pv 8) (pe_callB call_len_seq (by rfl) T.bt.len b_len (pa_cons (pv 6) pa_nil))) (pe_ix ix_list (pv 7) (pv 9) (fun _ _ => rfl)))))))))))), ?_⟩
    refine ⟨.ref p, rfl, .ref s, rfl, .int x, rfl, p, s, zs, rs, t, x, L, rfl, hp, hs, hst, q1, q2, fun e1 hok i hi H1 sm1 => ?_, q3⟩
    have hv := val_of e1
    have n120 := hv.num120
    have hxm := List.mem_of_getElem? hi
    have jl := join_len hok.f
    have il := (List.getElem?_eq_some_iff.mp hi).1
    have hi' : i < rs.length + sumN zs := by omega
    obtain ⟨l1, l60⟩ := lc_le hv.r2
    have wl := wh_len rs.length zs rs t
    have we := wh_eff rs.length zs rs t
    have pp := per_pos we (show i < (wh rs.length zs rs t).length by omega)
    have ple := (per_spec we (show i < (wh rs.length zs rs t).length by omega)).2.2.2
    have Wp : 0 < per (wh rs.length zs rs t) i * lc rs := Nat.mul_pos (by omega) (by omega)
    have Wl : per (wh rs.length zs rs t) i * lc rs ≤ 120 * 60 := Nat.mul_le_mul (by omega) l60
    refine ⟨.ref p, rfl, .int y, rfl, p, zs, rs, y, rfl, hp.same sm1, hv, fun hy => ?_, fun hy => q4 e1 hok hxm hy H1 sm1⟩
    refine ⟨.int c, rfl, c, rfl, fun hc => ?_, fun hc => q5 e1 hok hxm hy hc H1 sm1⟩
    obtain ⟨nn, rfl⟩ : ∃ nn : Nat, c = (nn : Int) + 1 := ⟨(c - 1).toNat, by have := hc.1; omega⟩
    have q := q6 e1 hok hy hc i hi
    have perf := lfB_per hv t hi' y
    obtain ⟨ca, sh, hs1, hL⟩ := (hst.same sm1).ex
    refine ⟨.ref p, rfl, .ref s, rfl, s, _, 0, .int t, rfl, rfl, hs1, rfl, fun la dl n1 n2 ne => ⟨la, dl, p, t, zs, rs, rfl, upd_same, (hp.same sm1).same (same_of (same_upd n2) n1), hv, fun HL o lap => ⟨rfl, ?_⟩⟩⟩
    have smL := sm1.trans (same_make n1 n2 o)
    refine ⟨.int (i : Nat), rfl, la, zs, rs, t, i, rfl, hv, lap, hi', fun H3 m sm3 nm km => ?_⟩
    have smB := smL.trans sm3
    generalize per (wh rs.length zs rs t) i * lc rs = W at km Wp Wl perf
    have lenL : (leJ zs rs t i W).length = W := by unfold leJ; rw [List.length_map, List.length_range]
    refine ⟨.ref m, rfl, m, _, rfl, .inl (.inl km), fun D hD => lc_it (walk_enum (xs := leJ zs rs t i W)) (fun k H' => Same H3 H' ∧ H' D = some (.lst (tkJ zs rs t i y k))) ⟨same_upd hD, upd_same⟩ (fun k H' _ h => .inl (.inl (h.1 _ _ km))) (fun k v H' H2 hk ⟨sm, kD⟩ hY => ?_) (fun H' ⟨sm, kD⟩ => ?_)⟩
    · obtain ⟨U, x1, x2, rfl, nU, rfl, e2, e3⟩ := hY
      obtain rfl := Option.some.inj e2
      rw [lenL] at hk
      dsimp only at e3
      unfold leJ at e3
      rw [List.getElem?_map, List.getElem?_range hk] at e3
      obtain rfl := Option.some.inj e3
      have smU : Same H3 (upd H' U (.tup [.int (k : Nat), tagV (lft zs rs t i k)])) := same_of sm (Same.free sm nU)
      have DU : D ≠ U := ne_of_none kD nU
      have kU : (upd H' U (.tup [.int (k : Nat), tagV (lft zs rs t i k)])) D = some (.lst (tkJ zs rs t i y k)) := by rw [upd_ne DU]; exact kD
      refine ⟨U, _, rfl, .inl (.inl upd_same), rfl, _, _, rfl, _, _, rfl, rfl, rfl, tagV (lft zs rs t i k), rfl, .int y, rfl, tag_scal _ _, _, rfl, ?_⟩
      generalize upd H' U (.tup [.int (k : Nat), tagV (lft zs rs t i k)]) = H5 at smU kU ⊢
      by_cases h : tagV (lft zs rs t i k) = .int y
      · rw [decide_eq_true h]
        refine iteT ⟨.int (k : Nat), rfl, _, 1, rfl, rfl, _, kU, ?_, same_of smU hD, ?_⟩
        · rw [tkJ_len, sizeLine_eq]
          have := cntM_le (lfB zs rs t i y) k
          omega
        · rw [upd_same, tkJ_yes (decide_eq_true h)]
      · rw [decide_eq_false h]
        exact iteF ⟨smU, by rw [kU, tkJ_no (decide_eq_false h)]⟩
    · rw [lenL] at kD
      have smC := smB.trans sm
      refine ⟨.ref D, rfl, _, .inl ⟨_, .inl (.inl kD), rfl⟩, ?_⟩
      have lenT := tkJ_len zs rs t i y W
      by_cases h0 : cntM (lfB zs rs t i y) W = 0
      · have en : tkJ zs rs t i y W = [] := List.eq_nil_of_length_eq_zero (lenT.trans h0)
        rw [en]
        exact iteT (q H' _ smC (.inl ⟨rfl, cnt_none Wp perf h0⟩))
      · have en : (tkJ zs rs t i y W).isEmpty = false := by
          cases hT : tkJ zs rs t i y W with
          | nil => rw [hT] at lenT; exact absurd lenT.symm h0
          | cons a b => rfl
        rw [en]
        have cle := cntM_le (lfB zs rs t i y) W
        have e5 : ((nn : Nat) : Int) + 1 - 1 = ((nn : Nat) : Int) := by omega
        refine iteF ⟨.int ((nn : Nat) + 1 : Int), rfl, _, 1, rfl, rfl, .ref D, rfl, D, _, rfl, .inl (.inl (.inl kD)), (nn : Nat), (cntM (lfB zs rs t i y) W : Nat), by dsimp only; rw [e5, lenT], ⟨by omega, by omega⟩, fun tp htp => ?_⟩
        rw [← Int.natCast_ediv, ← Int.natCast_emod]
        have hlt : nn % cntM (lfB zs rs t i y) W < ((List.range W).filter (lfB zs rs t i y)).length := Nat.mod_lt _ (by omega)
        obtain ⟨m0, hm0⟩ : ∃ m0, ((List.range W).filter (lfB zs rs t i y))[nn % cntM (lfB zs rs t i y) W]? = some m0 := ⟨_, List.getElem?_eq_getElem hlt⟩
        obtain ⟨r1, r2⟩ := nth_round perf nn hm0
        have d1 : nn / cntM (lfB zs rs t i y) W ≤ nn := Nat.div_le_self _ _
        have hat : (tkJ zs rs t i y W)[nn % cntM (lfB zs rs t i y) W]? = some (.int ((m0 : Nat) + 1 : Int)) := by
          unfold tkJ
          rw [List.getElem?_map, hm0]
          rfl
        have hc2 := hc.2
        generalize nn / cntM (lfB zs rs t i y) W = dd at r1 r2 d1 ⊢
        generalize nn % cntM (lfB zs rs t i y) W = rr at hat ⊢
        have sm1 : Same H' (upd H' tp (.tup [.int (dd : Nat), .int (rr : Nat)])) := same_upd htp
        have k1 : (upd H' tp (.tup [.int (dd : Nat), .int (rr : Nat)])) tp = some (.tup [.int (dd : Nat), .int (rr : Nat)]) := upd_same
        generalize upd H' tp (.tup [.int (dd : Nat), .int (rr : Nat)]) = H6 at sm1 k1 ⊢
        have p64 : (1000000000000000000 : Int) < 2 ^ 64 := by decide
        have m64 : -(2 ^ 64 : Int) < 0 := by decide
        refine ⟨tp, _, rfl, .inl (.inl k1), rfl, _, _, rfl, _, _, rfl, rfl, ?_⟩
        refine ⟨.int (dd : Nat), rfl, .ref m, rfl, m, _, rfl, .inl (.inl (.inl (sm1 _ _ (sm _ _ km)))), _, _, rfl, rfl, .inl (by omega), .ref D, rfl, .int (rr : Nat), rfl, D, _, _, .int ((m0 : Nat) + 1 : Int), rfl, rfl, .inl (.inl (sm1 _ _ kD)), atI_nat hat, _, _, rfl, rfl, q _ _ (smC.trans sm1) (.inr ⟨dd * W + m0, ?_, r1, by rw [r2]; omega⟩)⟩
        dsimp only
        rw [lenL, Int.natCast_add, Int.natCast_mul, Int.add_assoc]
theorem scStampsJ : FnScope ["plan", "state", "start", "left"] ["plan", "state", "start"] (defScope sStampsJ) := ⟨rfl, rfl, rfl, by decide +kernel, rfl, by decide +kernel, by decide +kernel⟩
def spStampsJ (K : PySem.W.Frag) : Sp := fun vs H Q _ => ∃ (p s : Addr) (zs : List Int) (rs : List Ro) (t : Int) (L : Lay Int) (i : Nat), vs = [.ref p, .ref s, .int (i : Nat)] ∧ PlanAt K H p zs rs ∧ Val zs rs ∧ StateAt K H s t L ∧ i < rs.length + sumN zs ∧ NewLv H (anJ zs rs t i (per (wh rs.length zs rs t) i * lc rs)) Q
theorem ok_stampsJ (T : Bd P K mg) : FnOk P w K mg base CX0 5 T.aStampsJ T.dStampsJ ["plan", "state", "start"] (spStampsJ K) := by
  have GI : FnOk P w K mg base CX0 3 T.aLap T.dLap ["self", "plan", "time"] (spLapInit K T.CLap) := ok_lapInit T
  have GL : FnOk P w K mg base CX0 2 T.aLeftsJ T.dLeftsJ ["lap", "start"] (spLeftsJ K T.CLap) := ok_leftsJ T
  refine T.StampsJ.F.ok scStampsJ (fun vs H Q E h => ?_) (fun cdv A outer s H vs Q E hr h => ?_)
  · obtain ⟨p, s, zs, rs, t, L, i, rfl, _⟩ := h
    rfl
  · obtain ⟨p, s, zs, rs, t, L, i, rfl, hp, hv, hst, hi', q⟩ := h
    have hr1 : Room 4 _ := hr.mono (by decide)
    refine ⟨_, (pss_one (ps_ret (pe_lc (own := [("left", 3)]) (g := gName 3) rfl scStampsJ.nd (pi_list (pe_call (E := E0) GL (hr.mono (by decide)) (by rfl) T.LeftsJ.g T.LeftsJ.F.kp T.LeftsJ.b .nil pass0 (pa_cons (pe_make T.lap.m GI hr1 (by rfl) T.lap.g T.lap.b .nil pass0 (pa_cons (pv 0) (pa_cons (pe_ix ix_tup (pv 1) pe_int (fun _ _ => rfl)) pa_nil))) (pa_cons (pv 2) pa_nil)))) (blkOk_by (N := ["plan", "state", "start", "left"]) (sc := defScope sStampsJ) (by decide +kernel)) (fun _ _ _ _ _ => pg_name (i := 3) scStampsJ.nd rfl (Or.inl rfl)) (fun _ _ _ _ _ => pts_one (pt_cmpR op_notN (pv 3) pe_non (nomark _))) (fun _ _ _ _ _ => pv 3)))), ?_⟩
    have n120 := hv.num120
    obtain ⟨l1, l60⟩ := lc_le hv.r2
    have wl := wh_len rs.length zs rs t
    have we := wh_eff rs.length zs rs t
    have ple := (per_spec we (show i < (wh rs.length zs rs t).length by omega)).2.2.2
    have Wl : per (wh rs.length zs rs t) i * lc rs ≤ 120 * 60 := Nat.mul_le_mul (by omega) l60
    have sm1 := Same.refl H
    obtain ⟨ca, sh, hs1, hL⟩ := (hst.same sm1).ex
    refine ⟨.ref p, rfl, .ref s, rfl, s, _, 0, .int t, rfl, rfl, hs1, rfl, fun la dl n1 n2 ne => ⟨la, dl, p, t, zs, rs, rfl, upd_same, (hp.same sm1).same (same_of (same_upd n2) n1), hv, fun HL o lap => ⟨rfl, ?_⟩⟩⟩
    have smL := sm1.trans (same_make n1 n2 o)
    refine ⟨.int (i : Nat), rfl, la, zs, rs, t, i, rfl, hv, lap, hi', fun H3 m sm3 nm km => ?_⟩
    have smB := smL.trans sm3
    generalize per (wh rs.length zs rs t) i * lc rs = W at km Wl q
    have lenL : (leJ zs rs t i W).length = W := by unfold leJ; rw [List.length_map, List.length_range]
    refine ⟨m, rfl, ⟨_, .inl (.inl km)⟩, fun D hD => lc_list (xs := leJ zs rs t i W) (fun k H' => Same H3 H' ∧ H' D = some (.lst (anJ zs rs t i k))) ⟨same_upd hD, upd_same⟩ (fun k H' _ h => .inl (.inl (h.1 _ _ km))) (fun k v H' hx ⟨sm, kD⟩ => ?_) (fun H' ⟨sm, kD⟩ => ?_)⟩
    · have hk := (List.getElem?_eq_some_iff.mp hx).1
      rw [lenL] at hk
      unfold leJ at hx
      rw [List.getElem?_map, List.getElem?_range hk] at hx
      obtain rfl := Option.some.inj hx
      refine ⟨rfl, tagV (lft zs rs t i k), rfl, rfl, _, rfl, ?_⟩
      cases hl : lft zs rs t i k with
      | none => exact iteF ⟨sm, by rw [kD, anJ_no hl]⟩
      | some b =>
        have c1 : (!decide (tagV (some b) = V.non)) = true := by
          rw [decide_eq_false (show ¬ tagV (some b) = V.non from fun z => by cases z)]
          rfl
        rw [c1]
        refine iteT ⟨_, rfl, _, kD, ?_, same_of sm hD, ?_⟩
        · rw [anJ_len, sizeLine_eq]
          have := cntM_le (anB zs rs t i) k
          omega
        · dsimp only
          rw [upd_same, hl, anJ_yes hl]
    · rw [lenL] at kD
      exact q H' D (smB.trans sm) (Same.free smB hD) kD
def nSm : List Str := ["plan", "state", "parcel", "count", "start", "shelves", "index"]
def spStamps (K : PySem.W.Frag) (C CS CU CC : Addr) : Sp := fun vs H Q E => ∃ (p s : Addr) (zs : List Int) (rs : List Ro) (t x c : Int) (L : Lay Int), vs = [.ref p, .ref s, .int x, .int c] ∧ PlanAt K H p zs rs ∧ Small zs rs ∧ StateAt K H s t L ∧ PreE C CS CU zs rs t x L H E ∧
  (bad zs rs = none → StOk zs rs t L → x ∈ join L → ¬ (0 ≤ c ∧ c ≤ 200) → ∀ H', Same H H' → E (.ref CC) none H') ∧
  (bad zs rs = none → StOk zs rs t L → (0 ≤ c ∧ c ≤ 200) → ∀ i : Nat, (join L)[i]? = some x → ∀ H' f xs, Same H H' → H f = none → H' f = some (.lst xs) → StampsV (lft zs rs t i) c.toNat xs → Q (.ref f) H')
theorem scStampAt : FnScope ["plan", "state", "parcel", "number", "start", "shelves"] ["plan", "state", "parcel", "number"] (defScope sStampAt) := ⟨rfl, rfl, rfl, by decide +kernel, rfl, by decide +kernel, by decide +kernel⟩
def spStampAt (K : PySem.W.Frag) (C CS CU CC : Addr) : Sp := fun vs H Q E => ∃ (p s : Addr) (zs : List Int) (rs : List Ro) (t x c : Int) (L : Lay Int), vs = [.ref p, .ref s, .int x, .int c] ∧ PlanAt K H p zs rs ∧ Small zs rs ∧ StateAt K H s t L ∧ PreE C CS CU zs rs t x L H E ∧
  (bad zs rs = none → StOk zs rs t L → x ∈ join L → ¬ NrOk c → ∀ H', Same H H' → E (.ref CC) none H') ∧
  (bad zs rs = none → StOk zs rs t L → NrOk c → ∀ i : Nat, (join L)[i]? = some x → ∀ H' v, Same H H' → (v = .non ∧ (∀ k, (lft zs rs t i k).isSome = false) ∨ StV (lft zs rs t i) (c - 1).toNat v) → Q v H')
theorem ok_stampAt (T : Bd P K mg) : FnOk P w K mg base (L2.CX P w) 6 T.aStampAt T.dStampAt ["plan", "state", "parcel", "number"] (spStampAt K T.C T.CS T.CUr T.CC) := by
  have GI : FnOk P w K mg base CX0 3 T.aLap T.dLap ["self", "plan", "time"] (spLapInit K T.CLap) := ok_lapInit T
  have GT : FnOk P w K mg base (L2.CX P w) 5 T.aStartOf T.dStartOf ["plan", "state", "parcel"] (spStart K T.C T.CS T.CUr) := ok_startOf T
  have GD : FnOk P w K mg base (L2.CX P w) 3 T.aCheckOrdinal T.dCheckOrdinal ["number"] (spCheckOrdinal T.CC) := ok_checkOrdinal T
  have GS : FnOk P w K mg base CX0 5 T.aStampsJ T.dStampsJ ["plan", "state", "start"] (spStampsJ K) := ok_stampsJ T
  refine T.StampAt.F.okX scStampAt (fun vs H Q E h => ?_) (fun cdv A outer s H vs Q E hr h => ?_)
  · obtain ⟨p, s, zs, rs, t, x, c, L, rfl, _⟩ := h
    rfl
  · obtain ⟨p, s, zs, rs, t, x, c, L, rfl, hp, hs, hst, ⟨q1, q2, q3⟩, q4, q5⟩ := h
    refine ⟨_, (pss_cons (ps_set (i := 4) scStampAt.nd rfl (Or.inl rfl) (pe_call (E := E) GT (hr.mono (by decide)) (by rfl) T.StartOf.g T.StartOf.F.kp T.StartOf.b .nil (passes_call (takes_of rfl rfl rfl rfl) fun _ _ _ _ h => h) (pa_cons (pv 0) (pa_cons (pv 1) (pa_cons (pv 2) pa_nil)))))
      (pss_cons (ps_expr (pe_call (E := E) GD (hr.mono (by decide)) (by rfl) T.CheckOrdinal.g T.CheckOrdinal.F.kp T.CheckOrdinal.b .nil (passes_call (takes_of rfl rfl rfl rfl) fun _ _ _ _ h => h) (pa_cons (pv 3) pa_nil)))
      (pss_cons (ps_set (i := 5) scStampAt.nd rfl (Or.inl rfl) (pe_call (E := E0) GS (hr.mono (by decide)) (by rfl) T.StampsJ.g T.StampsJ.F.kp T.StampsJ.b .nil pass0 (pa_cons (pv 0) (pa_cons (pv 1) (pa_cons (pv 4) pa_nil)))))
      (pss_cons (ps_if (pt_not (pt_truth (pv 5) (fun _ => rfl))) (pss_one (ps_ret pe_non)) pss_nil)
      (pss_one (ps_ret (pe_ix ix_list (pv 5) (pe_op op_modN (pe_op op_sub (pv 3) pe_int) (pe_callB call_len_seq (by rfl) T.bt.len b_len (pa_cons (pv 5) pa_nil))) (fun _ _ => rfl)))))))), ?_⟩
    refine ⟨.ref p, rfl, .ref s, rfl, .int x, rfl, p, s, zs, rs, t, x, L, rfl, hp, hs, hst, q1, q2, fun e1 hok i hi H1 sm1 => ?_, q3⟩
    have hv := val_of e1
    have n120 := hv.num120
    have hxm := List.mem_of_getElem? hi
    have jl := join_len hok.f
    have il := (List.getElem?_eq_some_iff.mp hi).1
    have hi' : i < rs.length + sumN zs := by omega
    obtain ⟨l1, l60⟩ := lc_le hv.r2
    have wl := wh_len rs.length zs rs t
    have we := wh_eff rs.length zs rs t
    have pp := per_pos we (show i < (wh rs.length zs rs t).length by omega)
    have ple := (per_spec we (show i < (wh rs.length zs rs t).length by omega)).2.2.2
    have Wp : 0 < per (wh rs.length zs rs t) i * lc rs := Nat.mul_pos (by omega) (by omega)
    have Wl : per (wh rs.length zs rs t) i * lc rs ≤ 120 * 60 := Nat.mul_le_mul (by omega) l60
    refine ⟨.int c, rfl, c, rfl, fun hc => ?_, fun hc => q4 e1 hok hxm hc H1 sm1⟩
    have q := q5 e1 hok hc i hi
    obtain ⟨nn, rfl⟩ : ∃ nn : Nat, c = (nn : Int) + 1 := ⟨(c - 1).toNat, by have := hc.1; omega⟩
    have e5 : ((nn : Nat) : Int) + 1 - 1 = ((nn : Nat) : Int) := by omega
    rw [e5, Int.toNat_natCast] at q
    refine ⟨.ref p, rfl, .ref s, rfl, .int (i : Nat), rfl, p, s, zs, rs, t, L, i, rfl, hp.same sm1, hv, hst.same sm1, hi', fun H2 f sm2 nf kf => ?_⟩
    have smA := sm1.trans sm2
    have pern := anB_per hv t hi'
    have lper := lft_per hv t hi' (Nat.dvd_refl _)
    generalize per (wh rs.length zs rs t) i * lc rs = W at kf Wp Wl pern lper
    have lenT := anJ_len zs rs t i W
    refine ⟨.ref f, rfl, _, .inl ⟨_, .inl (.inl kf), rfl⟩, ?_⟩
    by_cases h0 : cntM (anB zs rs t i) W = 0
    · have en : anJ zs rs t i W = [] := List.eq_nil_of_length_eq_zero (lenT.trans h0)
      rw [en]
      exact iteT (q _ _ smA (.inl ⟨rfl, cnt_none Wp pern h0⟩))
    · have en : (anJ zs rs t i W).isEmpty = false := by
        cases hT : anJ zs rs t i W with
        | nil => rw [hT] at lenT; exact absurd lenT.symm h0
        | cons a b => rfl
      rw [en]
      have cle := cntM_le (anB zs rs t i) W
      have zlen : ((anJ zs rs t i W).length : Int) ≠ 0 := by rw [lenT]; omega
      have at1 : ∀ nn : Nat, ∃ z, (anJ zs rs t i W)[nn % cntM (anB zs rs t i) W]? = some z ∧ StV (lft zs rs t i) nn z := fun nn => by
        have hlt : nn % cntM (anB zs rs t i) W < ((List.range W).filter (anB zs rs t i)).length := Nat.mod_lt _ (by omega)
        obtain ⟨m0, hm0⟩ : ∃ m0, ((List.range W).filter (anB zs rs t i))[nn % cntM (anB zs rs t i) W]? = some m0 := ⟨_, List.getElem?_eq_getElem hlt⟩
        obtain ⟨r1, r2⟩ := nth_round pern nn hm0
        refine ⟨tagV (lft zs rs t i m0), ?_, nn / cntM (anB zs rs t i) W * W + m0, r1, r2, ?_⟩
        · unfold anJ
          rw [List.getElem?_map, hm0]
          rfl
        · rw [lft_tm lper (nn / cntM (anB zs rs t i) W) m0]
      have ef : ∀ nn : Nat, Int.fmod (nn : Nat) ((anJ zs rs t i W).length : Nat) = ((nn % cntM (anB zs rs t i) W : Nat) : Int) := fun nn => by
        rw [lenT, Int.fmod_eq_emod_of_nonneg _ (by omega)]
        rfl
      obtain ⟨z, hz1, hz2⟩ := at1 nn
      exact iteF ⟨.ref f, rfl, .int ((nn : Nat) + 1 : Int), rfl, _, 1, rfl, rfl, .ref f, rfl, f, _, rfl, .inl (.inl (.inl kf)), _, _, rfl, rfl, zlen, f, _, _, z, rfl, rfl, .inl (.inl kf), by rw [e5, ef]; exact atI_nat hz1, q _ _ smA (.inr hz2)⟩
end
end Sv


set_option maxHeartbeats 4000000
namespace Sv
open PySem PySem.Spec PyProof.Rows L2
section
variable {P : Program} {w : World} {K : PySem.W.Frag} {mg : Str → Option Value} {base : Heap}
/-! ### arrival -/
theorem pos0 {zs : List Int} {rs : List Ro} (hv : Val zs rs) (t : Int) {i : Nat} (hi : i < rs.length + sumN zs) : pos zs rs t 0 i = i := pos_zero hv t hi
def spArrival (K : PySem.W.Frag) (C CS CU : Addr) : Sp := fun vs H Q E => ∃ (p s u : Addr) (zs : List Int) (rs : List Ro) (t x : Int) (L : Lay Int) (j : Nat) (pl : List V), vs = [.ref p, .ref s, .int x, .ref u] ∧ PlanAt K H p zs rs ∧ Small zs rs ∧ StateAt K H s t L ∧ SqT K H u pl ∧ (placesV zs rs.length)[j]? = some pl ∧ PreE C CS CU zs rs t x L H E ∧
  (bad zs rs = none → StOk zs rs t L → ∀ i : Nat, (join L)[i]? = some x → ∀ H' v, Same H H' → FirstV (fun k => decide (pos zs rs t k i = j)) v → Q v H')
end
end Sv


set_option maxHeartbeats 4000000
namespace Sv
open PySem PySem.Spec PyProof.Rows L2
section
variable {P : Program} {w : World} {K : PySem.W.Frag} {mg : Str → Option Value} {base : Heap}
/-! ### follows_by -/
def spCycleFromF (K : PySem.W.Frag) : Sp := fun vs H Q _ => ∃ (a : Addr) (e : List Nat) (s : Nat), vs = [.ref a, .int (s : Nat)] ∧ SqT K H a (vN e) ∧ Eff e ∧ s < e.length ∧ e.length ≤ 1000 ∧ NewF H (cyc e s) Q
theorem ok_cycleFromF (T : Bd P K mg) : FnOk P w K mg base CX0 1 T.aCycleFrom T.dCycleFrom ["effect", "start"] (spCycleFromF K) := by
  refine T.CycleFrom.F.ok scCycleFrom (fun vs H Q E h => ?_) (fun cdv A outer s H vs Q E hr h => ?_)
  · obtain ⟨a, e, s, rfl, _⟩ := h
    rfl
  · obtain ⟨a, e, s0, rfl, hA, he, hs, hl, q⟩ := h
    refine ⟨_, pss_cons (ps_set (i := 2) scCycleFrom.nd rfl (Or.inl rfl) (pe_lst (pa_cons (pv 1) pa_nil)))
      (pss_cons (ps_set (i := 3) scCycleFrom.nd rfl (Or.inl rfl) (pe_ix ix_tup (pv 0) (pv 1) (fun _ _ => rfl)))
      (pss_cons (ps_while PassesOwn.never (pt_cmpR op_ne (pv 3) (pv 1) (nomark _))
        (pss_cons (ps_expr (pe_bm PySem.F.plainAttrs_list PySem.F.slot_list_append PySem.F.type_list_append mt_append (pv 2) (pa_cons (pv 3) pa_nil)))
        (pss_one (ps_set (i := 3) scCycleFrom.nd rfl (Or.inl rfl) (pe_ix ix_tup (pv 0) (pv 3) (fun _ _ => rfl))))))
      (pss_one (ps_ret (pe_callTy mk_tupF (by rfl) T.bt.tuple b_tuple (pa_cons (pv 2) pa_nil)))))), ?_⟩
    obtain ⟨p1, p2, p3, p4⟩ := per_spec he hs
    refine ⟨.int s0, rfl, (by show 1 ≤ sizeLine; decide), fun c hc => ?_⟩
    have sm0 : Same H (upd H c (.lst [.int s0])) := same_upd hc
    refine ⟨.ref a, rfl, .int s0, rfl, a, vN e, _, _, rfl, rfl, sqT_same sm0 hA, atI_nat (vN_get hs), ?_⟩
    refine while_by (fun σ H' => ∃ k, 1 ≤ k ∧ k ≤ per e s0 ∧ σ = [some (.ref a), some (.int (s0 : Nat)), some (.ref c), some (.int (it e k s0 : Nat))] ∧ Same H H' ∧ H' c = some (.lst (vN (walkL e s0 k)))) (fun σ H' => match H' c with | some (.lst xs) => per e s0 + 1 - xs.length | _ => 0)
      ⟨1, Nat.le_refl _, p1, rfl, sm0, upd_same⟩ (fun σ H' hP => ?_) (fun σ H' Q1 Q2 mono h => ?_)
    · obtain ⟨k, h1, h2, rfl, sm, hd⟩ := hP
      have hm : (match H' c with | some (.lst xs) => per e s0 + 1 - xs.length | _ => 0) = per e s0 + 1 - k := by
        rw [hd]
        show per e s0 + 1 - (vN (walkL e s0 k)).length = _
        rw [vN_len, walkL_len]
      refine ⟨_, rfl, _, rfl, rfl, _, rfl, ?_⟩
      by_cases hk : it e k s0 = s0
      · rw [decide_eq_true (by rw [hk])]
        refine iteF ?_
        have ek : k = per e s0 := by
          by_cases h : k = per e s0
          · exact h
          · exact absurd hk (p3 k h1 (by omega))
        rw [ek] at hd
        exact ⟨.ref c, rfl, c, _, rfl, .inl (.inl hd), .inr fun l o hl2 ho => q _ _ o (same_of sm (Same.free sm hl2)) (Same.free sm hl2) upd_same ho⟩
      · rw [decide_eq_false fun z => hk (by have := V.int.inj z; omega)]
        refine iteT ?_
        have hk2 : k < per e s0 := by
          by_cases h : k = per e s0
          · rw [h] at hk
            exact absurd p2 hk
          · omega
        refine ⟨.ref c, rfl, .inl ⟨rfl, _, .inl (.inl hd)⟩, .int (it e k s0 : Nat), rfl, c, _, _, rfl, rfl, hd, ?_, ?_⟩
        · rw [vN_len, walkL_len]
          exact small1000 (by omega)
        · have sm2 : Same H (upd H' c (.lst (vN (walkL e s0 k) ++ [.int (it e k s0 : Nat)]))) := same_of sm hc
          refine ⟨.ref a, rfl, .int (it e k s0 : Nat), rfl, a, vN e, _, _, rfl, rfl, sqT_same sm2 hA, atI_nat (vN_get (it_lt he hs)), ⟨k + 1, by omega, hk2, rfl, sm2, ?_⟩, ?_⟩
          · rw [upd_same, walkL_succ, vN_app]
            rfl
          · show (match (upd H' c (.lst (vN (walkL e s0 k) ++ [.int (it e k s0 : Nat)]))) c with | some (.lst xs) => per e s0 + 1 - xs.length | _ => 0) < (match H' c with | some (.lst xs) => per e s0 + 1 - xs.length | _ => 0)
            rw [hm, upd_same]
            show per e s0 + 1 - (vN (walkL e s0 k) ++ [V.int (it e k s0 : Nat)]).length < _
            rw [List.length_append, vN_len, walkL_len]
            simp
            omega
    · obtain ⟨x, hx, y, hy, hz, b, hb, hq⟩ := h
      exact ⟨x, hx, y, hy, hz, b, hb, mono _ _ hq⟩
theorem scFollows : FnScope ["plan", "state", "one", "other", "start", "target", "lap", "cycle"] ["plan", "state", "one", "other"] (defScope sFollowsBy) := ⟨rfl, rfl, rfl, by decide +kernel, rfl, by decide +kernel, by decide +kernel⟩
/-- by how many ticks the parcel from place i follows the one from place j -/
def FolV (zs : List Int) (rs : List Ro) (t : Int) (i j : Nat) (v : V) : Prop := (∃ k : Nat, v = .int (lc rs * k : Nat) ∧ k < per (wh rs.length zs rs t) i ∧ it (wh rs.length zs rs t) k i = j) ∨ (v = .non ∧ ∀ k, it (wh rs.length zs rs t) k i ≠ j)
def spFollows (K : PySem.W.Frag) (C CS CU : Addr) : Sp := fun vs H Q E => ∃ (p s : Addr) (zs : List Int) (rs : List Ro) (t x y : Int) (L : Lay Int), vs = [.ref p, .ref s, .int x, .int y] ∧ PlanAt K H p zs rs ∧ Small zs rs ∧ StateAt K H s t L ∧ PreE C CS CU zs rs t x L H E ∧
  (bad zs rs = none → StOk zs rs t L → x ∈ join L → y ∉ join L → ∀ H', Same H H' → E (.ref CU) none H') ∧
  (bad zs rs = none → StOk zs rs t L → ∀ i j : Nat, (join L)[i]? = some x → (join L)[j]? = some y → ∀ H' v, Same H H' → FolV zs rs t i j v → Q v H')
theorem ok_follows (T : Bd P K mg) : FnOk P w K mg base (L2.CX P w) 6 T.aFollowsBy T.dFollowsBy ["plan", "state", "one", "other"] (spFollows K T.C T.CS T.CUr) := by
  have GI : FnOk P w K mg base CX0 3 T.aLap T.dLap ["self", "plan", "time"] (spLapInit K T.CLap) := ok_lapInit T
  have GT : FnOk P w K mg base (L2.CX P w) 5 T.aStartOf T.dStartOf ["plan", "state", "parcel"] (spStart K T.C T.CS T.CUr) := ok_startOf T
  have GO : FnOk P w K mg base (L2.CX P w) 3 T.aPlaceOfParcel T.dPlaceOfParcel ["state", "parcel"] (spPlaceOfParcel K T.CUr) := ok_placeOfParcel T
  have GC : FnOk P w K mg base CX0 1 T.aCycleFrom T.dCycleFrom ["effect", "start"] (spCycleFromF K) := ok_cycleFromF T
  refine T.FollowsBy.F.okX scFollows (fun vs H Q E h => ?_) (fun cdv A outer s H vs Q E hr h => ?_)
  · obtain ⟨p, s, zs, rs, t, x, y, L, rfl, _⟩ := h
    rfl
  · obtain ⟨p, s, zs, rs, t, x, y, L, rfl, hp, hs, hst, ⟨q1, q2, q3⟩, q4, q5⟩ := h
    have hr1 : Room 4 _ := hr.mono (by decide)
    refine ⟨_, (pss_cons (ps_set (i := 4) scFollows.nd rfl (Or.inl rfl) (pe_call (E := E) GT (hr.mono (by decide)) (by rfl) T.StartOf.g T.StartOf.F.kp T.StartOf.b .nil (passes_call (takes_of rfl rfl rfl rfl) fun _ _ _ _ h => h) (pa_cons (pv 0) (pa_cons (pv 1) (pa_cons (pv 2) pa_nil)))))
      (pss_cons (ps_set (i := 5) scFollows.nd rfl (Or.inl rfl) (pe_call (E := E) GO (hr.mono (by decide)) (by rfl) T.PlaceOfParcel.g T.PlaceOfParcel.F.kp T.PlaceOfParcel.b .nil (passes_call (takes_of rfl rfl rfl rfl) fun _ _ _ _ h => h) (pa_cons (pv 1) (pa_cons (pv 3) pa_nil))))
      (pss_cons (ps_set (i := 6) scFollows.nd rfl (Or.inl rfl) (pe_make T.lap.m GI hr1 (by rfl) T.lap.g T.lap.b .nil pass0 (pa_cons (pv 0) (pa_cons (pe_ix ix_tup (pv 1) pe_int (fun _ _ => rfl)) pa_nil))))
      (pss_cons (ps_set (i := 7) scFollows.nd rfl (Or.inl rfl) (pe_call (E := E0) GC (hr.mono (by decide)) (by rfl) T.CycleFrom.g T.CycleFrom.F.kp T.CycleFrom.b .nil pass0 (pa_cons (pe_fld (pv 6) rfl) (pa_cons (pv 4) pa_nil))))
      (pss_cons (ps_if (pt_cmpR op_notIn_seq (pv 5) (pv 7) (by rfl)) (pss_one (ps_ret pe_non)) pss_nil)
      (pss_one (ps_ret (pe_op op_mul (pe_fld (pv 6) rfl) (pe_tupM PySem.F.slot_tuple_index PySem.F.type_tuple_index mt_tupIx (pv 7) (pa_cons (pv 5) pa_nil)))))))))), ?_⟩
    refine ⟨.ref p, rfl, .ref s, rfl, .int x, rfl, p, s, zs, rs, t, x, L, rfl, hp, hs, hst, q1, q2, fun e1 hok i hi H1 sm1 => ?_, q3⟩
    have hv := val_of e1
    have n120 := hv.num120
    have hxm := List.mem_of_getElem? hi
    have jl := join_len hok.f
    refine ⟨.ref s, rfl, .int y, rfl, s, y, t, L, rfl, hst.same sm1, by omega, hok.p, fun j hj H2 sm2 => ?_, fun hno H2 sm2 => q4 e1 hok hxm hno H2 (sm1.trans sm2)⟩
    have smA := sm1.trans sm2
    have il := (List.getElem?_eq_some_iff.mp hi).1
    have jl2 := (List.getElem?_eq_some_iff.mp hj).1
    have hi' : i < rs.length + sumN zs := by omega
    obtain ⟨l1, l60⟩ := lc_le hv.r2
    have wl := wh_len rs.length zs rs t
    have we := wh_eff rs.length zs rs t
    have hiw : i < (wh rs.length zs rs t).length := by omega
    have ple := (per_spec we hiw).2.2.2
    have ans := q5 e1 hok i j hi hj
    obtain ⟨ca, sh, hs1, hL⟩ := (hst.same smA).ex
    refine ⟨.ref p, rfl, .ref s, rfl, s, _, 0, .int t, rfl, rfl, hs1, rfl, fun la dl n1 n2 ne => ⟨la, dl, p, t, zs, rs, rfl, upd_same, (hp.same smA).same (same_of (same_upd n2) n1), hv, fun HL o lap => ⟨rfl, ?_⟩⟩⟩
    have smL := smA.trans (same_make n1 n2 o)
    obtain ⟨dx, st, le, ef, fs, srw, lrw, h1, h2, h3, h4, h5, h6, h7, h8, h9, h10⟩ := lap.ex
    refine ⟨.ref la, rfl, la, T.CLap, dx, fs, _, rfl, h1, T.lap.c, T.lap.n4, h5, .int (i : Nat), rfl, ef, wh rs.length zs rs t, i, rfl, .inl (.inl h10), we, hiw, by omega, fun H3 c ob sm3 nc kc od => ?_⟩
    have smB := smL.trans sm3
    have fl : (vN (cyc (wh rs.length zs rs t) i)).all flatV = true := by
      unfold vN
      rw [List.all_map]
      exact List.all_eq_true.mpr fun _ _ => rfl
    have inc : inV (.int (j : Nat)) (vN (cyc (wh rs.length zs rs t) i)) = decide (j ∈ cyc (wh rs.length zs rs t) i) := by
      have e : vN (cyc (wh rs.length zs rs t) i) = ((cyc (wh rs.length zs rs t) i).map fun k => ((k : Nat) : Int)).map V.int := by
        unfold vN
        rw [List.map_map]
        rfl
      rw [e, inV_ints]
      refine decide_eq_decide.mpr ⟨fun h => ?_, fun h => List.mem_map.mpr ⟨j, h, rfl⟩⟩
      obtain ⟨k, hk, ek⟩ := List.mem_map.mp h
      have : k = j := by omega
      rw [← this]
      exact hk
    refine ⟨.int (j : Nat), rfl, .ref c, rfl, c, _, rfl, .inr (.inl (.inr ⟨ob, kc⟩)), rfl, fl, _, rfl, ?_⟩
    rw [inc]
    by_cases hm : j ∈ cyc (wh rs.length zs rs t) i
    · rw [decide_eq_true hm]
      obtain ⟨k, hk⟩ := List.mem_iff_getElem?.mp hm
      have hkl := (List.getElem?_eq_some_iff.mp hk).1
      rw [cyc_len] at hkl
      have ek : it (wh rs.length zs rs t) k i = j := by
        rw [cyc_at hkl] at hk
        exact Option.some.inj hk
      have nd := cyc_nodup we hiw
      refine iteF ⟨.ref la, rfl, la, T.CLap, dx, fs, _, rfl, sm3 _ _ h1, T.lap.c, T.lap.n1, h2, .ref c, rfl, ⟨c, ob, _, rfl, kc, od⟩, .int (j : Nat), rfl, c, _, .int (j : Nat), .int (j : Nat), k, rfl, rfl, .inl (.inr ⟨ob, kc⟩), rfl, fl, by unfold vN; rw [List.getElem?_map, hk]; rfl, by rw [eqV_int]; exact decide_eq_true rfl, fun d z hd hz => ?_, _, _, rfl, rfl, .inl ⟨by omega, by omega⟩, ?_⟩
      · unfold vN at hz
        rw [List.getElem?_map] at hz
        cases hd2 : (cyc (wh rs.length zs rs t) i)[d]? with
        | none => rw [hd2] at hz; cases hz
        | some z2 =>
          rw [hd2] at hz
          have ez : z = .int (z2 : Nat) := (Option.some.inj hz).symm
          rw [ez, eqV_int]
          refine decide_eq_false fun e => ?_
          have e3 : z2 = j := by omega
          rw [e3] at hd2
          obtain ⟨a1, b1⟩ := List.getElem?_eq_some_iff.mp hd2
          obtain ⟨a2, b2⟩ := List.getElem?_eq_some_iff.mp hk
          have := (List.getElem_inj nd).mp (b1.trans b2.symm)
          omega
      · dsimp only
        rw [← Int.natCast_mul]
        exact ans H3 _ smB (.inl ⟨k, rfl, hkl, ek⟩)
    · rw [decide_eq_false hm]
      exact iteT (ans H3 _ smB (.inr ⟨rfl, fun k e => hm ((cyc_mem we hiw).mpr ⟨k, e.symm⟩)⟩))
end
end Sv


set_option maxHeartbeats 4000000
namespace Sv
open PySem PySem.Spec PyProof.Rows L2
/-! ### families -/
theorem idx_at2 {l : List Int} (nd : l.Nodup) {i : Nat} {x : Int} (h : l[i]? = some x) : l.idxOf x = i := by
  obtain ⟨hi, e⟩ := List.getElem?_eq_some_iff.mp h
  have h1 : l.idxOf x < l.length := List.idxOf_lt_length_iff.mpr (List.mem_of_getElem? h)
  have h2 : l[l.idxOf x] = x := List.getElem_idxOf h1
  exact (List.getElem_inj nd).mp (h2.trans e.symm)
/-- the family of a parcel: those at the places of its cycle -/
noncomputable def famX (cs : List Int) (b : List Nat) (x : Int) : List Int := (cyc b (cs.idxOf x)).map fun q => cs.getD q 0
theorem famX_len (cs : List Int) (b : List Nat) (x : Int) : (famX cs b x).length = per b (cs.idxOf x) := by
  unfold famX
  rw [List.length_map, cyc_len]
open Classical in
noncomputable def famS (cs : List Int) (b : List Nat) (acc : List (List Int)) (x : Int) : List (List Int) := if x ∈ acc.flatten then acc else acc ++ [famX cs b x]
noncomputable def fams (cs : List Int) (b : List Nat) (xs : List Int) : List (List Int) := xs.foldl (famS cs b) []
theorem fams_snoc (cs : List Int) (b : List Nat) (xs : List Int) (x : Int) : fams cs b (xs ++ [x]) = famS cs b (fams cs b xs) x := by
  unfold fams
  rw [List.foldl_append]
  rfl
theorem fams_take {cs : List Int} {b : List Nat} {xs : List Int} {i : Nat} {x : Int} (h : xs[i]? = some x) : fams cs b (xs.take (i + 1)) = famS cs b (fams cs b (xs.take i)) x := by
  rw [List.take_add_one, h]
  exact fams_snoc _ _ _ _
theorem famS_yes {cs : List Int} {b : List Nat} {acc : List (List Int)} {x : Int} (h : x ∈ acc.flatten) : famS cs b acc x = acc := by
  unfold famS
  rw [if_pos h]
theorem famS_no {cs : List Int} {b : List Nat} {acc : List (List Int)} {x : Int} (h : x ∉ acc.flatten) : famS cs b acc x = acc ++ [famX cs b x] := by
  unfold famS
  rw [if_neg h]
theorem fams_len (cs : List Int) (b : List Nat) : ∀ xs : List Int, (fams cs b xs).length ≤ xs.length := by
  intro xs
  refine snoc_ind (P := fun xs => (fams cs b xs).length ≤ xs.length) (Nat.le_refl _) (fun l a ih => ?_) xs
  rw [fams_snoc, List.length_append]
  unfold famS
  split
  · exact Nat.le_succ_of_le ih
  · rw [List.length_append]
    exact Nat.succ_le_succ ih
theorem fams_mem (cs : List Int) (b : List Nat) : ∀ xs : List Int, ∀ r ∈ fams cs b xs, ∃ x ∈ xs, r = famX cs b x := by
  intro xs
  refine snoc_ind (P := fun xs => ∀ r ∈ fams cs b xs, ∃ x ∈ xs, r = famX cs b x) (fun r h => by cases h) (fun l a ih r hr => ?_) xs
  rw [fams_snoc] at hr
  unfold famS at hr
  split at hr
  · obtain ⟨x, h1, h2⟩ := ih r hr
    exact ⟨x, List.mem_append_left _ h1, h2⟩
  · rcases List.mem_append.mp hr with h | h
    · obtain ⟨x, h1, h2⟩ := ih r h
      exact ⟨x, List.mem_append_left _ h1, h2⟩
    · exact ⟨a, by simp, List.mem_singleton.mp h⟩
theorem flat_bound {ss : List (List Int)} {m : Nat} (h : ∀ r ∈ ss, r.length ≤ m) : ss.flatten.length ≤ ss.length * m := by
  induction ss with
  | nil => simp
  | cons r ss ih =>
    rw [List.flatten_cons, List.length_append, List.length_cons, Nat.succ_mul]
    have := h r (List.mem_cons_self ..)
    have := ih fun x hx => h x (List.mem_cons_of_mem _ hx)
    omega
/-- a list of lists of numbers -/
def RowsI (H : Hp) (f : Addr) (ss : List (List Int)) : Prop := ∃ rw : List Addr, H f = some (.lst (rw.map V.ref)) ∧ RowV H rw (ss.map (List.map V.int)) ∧ f ∉ rw
theorem RowsI.push {H : Hp} {f l : Addr} {ss : List (List Int)} {r : List Int} (h : RowsI H f ss) (hl : H l = some (.lst (r.map V.int))) (n : l ≠ f) : ∃ acc, H f = some (.lst acc) ∧ acc.length = ss.length ∧ RowsI (upd H f (.lst (acc ++ [.ref l]))) f (ss ++ [r]) := by
  obtain ⟨rw, h1, h2, h3⟩ := h
  have e := rowV_len h2
  rw [List.length_map] at e
  refine ⟨rw.map V.ref, h1, by rw [List.length_map, e], rw ++ [l], ?_, ?_, ?_⟩
  · rw [upd_same, List.map_append]
    rfl
  · rw [List.map_append]
    refine rowV_snoc (by rw [upd_ne n]; exact hl) (rowV_imp (fun q hq o ho => ?_) h2)
    rw [upd_ne (fun z => h3 (by rw [← z]; exact hq))]
    exact ho
  · intro hm
    rcases List.mem_append.mp hm with hm | hm
    · exact h3 hm
    · exact n (List.mem_singleton.mp hm).symm
theorem RowsI.dk {H : Hp} {f d : Addr} {ss : List (List Int)} {kvs : List (Key × V)} {o : HO} (h : RowsI H f ss) (hd : H d = some (.dK kvs)) : RowsI (upd H d o) f ss := by
  obtain ⟨rw, h1, h2, h3⟩ := h
  refine ⟨rw, by rw [upd_ne (fun z => by rw [z, hd] at h1; cases h1)]; exact h1, rowV_imp (fun q hq o ho => ?_) h2, h3⟩
  obtain ⟨xs, hx⟩ := rowV_mem h2 hq
  rw [upd_ne (fun z => by rw [z, hd] at hx; cases hx)]
  exact ho
theorem RowsI.same {H H' : Hp} {f : Addr} {ss : List (List Int)} (h : RowsI H f ss) (e : Same H H') : RowsI H' f ss := by
  obtain ⟨rw, h1, h2, h3⟩ := h
  exact ⟨rw, e _ _ h1, rowV_imp (fun q _ o ho => e _ _ ho) h2, h3⟩
section
variable {P : Program} {w : World} {K : PySem.W.Frag} {mg : Str → Option Value} {base : Heap}
theorem scFamilies : FnScope ["plan", "state", "parcels", "back", "found", "done", "parcel", "family", "member", "place"] ["plan", "state"] (defScope sFamilies) := ⟨rfl, rfl, rfl, by decide +kernel, rfl, by decide +kernel, by decide +kernel⟩
def nFm : List Str := ["plan", "state", "parcels", "back", "found", "done", "parcel", "family", "member", "place"]
def spFamilies (K : PySem.W.Frag) (C CS : Addr) : Sp := fun vs H Q E => ∃ (p s : Addr) (zs : List Int) (rs : List Ro) (t : Int) (L : Lay Int), vs = [.ref p, .ref s] ∧ PlanAt K H p zs rs ∧ Small zs rs ∧ StateAt K H s t L ∧ BadE C zs rs H E ∧
  (bad zs rs = none → ¬ StOk zs rs t L → ∀ H', Same H H' → E (.ref CS) none H') ∧
  (bad zs rs = none → StOk zs rs t L → ∀ ys : List Int, ys.Perm (join L) → ys.Pairwise (· ≤ ·) → ∀ H' f, Same H H' → RowsI H' f (fams (join L) (inv (wh rs.length zs rs t)) ys) → Q (.ref f) H')
theorem ok_families (T : Bd P K mg) : FnOk P w K mg base (L2.CX P w) 6 T.aFamilies T.dFamilies ["plan", "state"] (spFamilies K T.C T.CS) := by
  have GP : FnOk P w K mg base (L2.CX P w) 4 T.aCheckPlan T.dCheckPlan ["plan"] (spCheckPlan K T.C) := ok_checkPlan T
  have GS : FnOk P w K mg base (L2.CX P w) 3 T.aCheckState T.dCheckState ["plan", "state"] (spCheckState K T.CS) := ok_checkState T
  have GI : FnOk P w K mg base CX0 3 T.aLap T.dLap ["self", "plan", "time"] (spLapInit K T.CLap) := ok_lapInit T
  have GI2 : FnOk P w K mg base CX0 2 T.aParcelsIn T.dParcelsIn ["state"] (spParcelsIn K) := ok_parcelsIn T
  have GV : FnOk P w K mg base CX0 1 T.aInverse T.dInverse ["effect"] (spInverse K) := ok_inverse T
  have GC : FnOk P w K mg base CX0 1 T.aCycleFrom T.dCycleFrom ["effect", "start"] (spCycleFrom K) := ok_cycleFrom T
  refine T.Families.F.okX scFamilies (fun vs H Q E h => ?_) (fun cdv A outer s H vs Q E hr h => ?_)
  · obtain ⟨p, s, zs, rs, t, L, rfl, _⟩ := h
    rfl
  · obtain ⟨p, s, zs, rs, t, L, rfl, hp, hs, hst, q1, q2, q3⟩ := h
    have hr1 : Room 4 _ := hr.mono (by decide)
    refine ⟨_, (pss_cons (ps_expr (pe_call (E := E) GP (hr.mono (by decide)) (by rfl) T.CheckPlan.g T.CheckPlan.F.kp T.CheckPlan.b .nil (passes_call (takes_of rfl rfl rfl rfl) fun _ _ _ _ h => h) (pa_cons (pv 0) pa_nil)))
      (pss_cons (ps_expr (pe_call (E := E) GS (hr.mono (by decide)) (by rfl) T.CheckState.g T.CheckState.F.kp T.CheckState.b .nil (passes_call (takes_of rfl rfl rfl rfl) fun _ _ _ _ h => h) (pa_cons (pv 0) (pa_cons (pv 1) pa_nil))))
      (pss_cons (ps_set (i := 2) scFamilies.nd rfl (Or.inr rfl) (pe_call (E := E0) GI2 (hr.mono (by decide)) (by rfl) T.ParcelsIn.g T.ParcelsIn.F.kp T.ParcelsIn.b .nil pass0 (pa_cons (pv 1) pa_nil)))
      (pss_cons (ps_set (i := 3) scFamilies.nd rfl (Or.inl rfl) (pe_call (E := E0) GV (hr.mono (by decide)) (by rfl) T.Inverse.g T.Inverse.F.kp T.Inverse.b .nil pass0 (pa_cons (pe_fld (pe_make T.lap.m GI hr1 (by rfl) T.lap.g T.lap.b .nil pass0 (pa_cons (pv 0) (pa_cons (pe_ix ix_tup (pv 1) pe_int (fun _ _ => rfl)) pa_nil))) rfl) pa_nil)))
      (pss_cons (ps_set (i := 4) scFamilies.nd rfl (Or.inl rfl) (pe_lst pa_nil))
      (pss_cons (ps_set (i := 5) scFamilies.nd rfl (Or.inl rfl) pe_dnewK)
      (pss_cons (ps_for (passes_of rfl) rfl (pi_list (pe_callB cr_sortedI (by rfl) T.bt.sorted (by decide +kernel) (pa_cons (pv 2) pa_nil))) (pg_name (i := 6) scFamilies.nd rfl (.inl rfl)) (pss_one (ps_if (pt_cmp (pc_dnotin (hu_of hr) (pv 6) (pv 5))) (pss_cons (ps_setLc (i := 7) (own := [("place", 9)]) (g := gName 9) (tt := tYes) (te := tOp (rIxL K) (tVar 2) (tVar 9)) rfl scFamilies.nd rfl rfl (sw_true rfl rfl rfl (by decide +kernel)) (pi_tup (pe_call (E := E0) GC (hr.mono (by decide)) (by rfl) T.CycleFrom.g T.CycleFrom.F.kp T.CycleFrom.b .nil pass0 (pa_cons (pv 3) (pa_cons (pe_bm PySem.F.plainAttrs_list PySem.F.slot_list_index PySem.F.type_list_index mt_index (pv 2) (pa_cons (pv 6) pa_nil)) pa_nil)))) (blkOk_by (N := nFm) (sc := defScope sFamilies) (by decide +kernel)) (fun _ _ _ _ _ => pg_name (i := 9) scFamilies.nd rfl (Or.inl rfl)) (fun _ _ _ _ _ => pts_nil) (fun _ _ _ _ _ => pe_ix ix_list (pv 2) (pv 9) (fun _ _ => rfl)))
      (pss_cons (ps_for (passes_of rfl) rfl (pi_list (pv 7)) (pg_name (i := 8) scFamilies.nd rfl (.inl rfl)) (pss_one (ps_dput (hu_of hr) (pv 5) (pv 8) pe_bl rfl)))
      (pss_one (ps_expr (pe_bm PySem.F.plainAttrs_list PySem.F.slot_list_append PySem.F.type_list_append mt_append (pv 4) (pa_cons (pv 7) pa_nil)))))) pss_nil)))
      (pss_one (ps_ret (pv 4)))))))))), ?_⟩
    refine ⟨.ref p, rfl, p, zs, rs, rfl, hp, hs, fun e1 H1 sm1 => ?_, q1⟩
    have hv := val_of e1
    have n120 := hv.num120
    refine ⟨.ref p, rfl, .ref s, rfl, p, s, zs, rs, t, L, rfl, hp.same sm1, hv, hst.same sm1, fun hok H2 sm2 => ?_, fun hno H2 sm2 => q2 e1 hno H2 (sm1.trans sm2)⟩
    have q := q3 e1 hok
    have smA := sm1.trans sm2
    have jl := join_len hok.f
    have nd := hok.p.2
    have wl := wh_len rs.length zs rs t
    have we := wh_eff rs.length zs rs t
    have ie := inv_eff we
    have il := inv_len (wh rs.length zs rs t)
    refine ⟨.ref s, rfl, s, t, L, rfl, hst.same smA, by omega, fun H3 g sm3 ng kg => ?_⟩
    have smB := smA.trans sm3
    obtain ⟨ca, sh, hs1, hL⟩ := (hst.same smB).ex
    refine ⟨.ref p, rfl, .ref s, rfl, s, _, 0, .int t, rfl, rfl, hs1, rfl, fun la dl n1 n2 ne => ⟨la, dl, p, t, zs, rs, rfl, upd_same, (hp.same smB).same (same_of (same_upd n2) n1), hv, fun HL o lap => ⟨rfl, ?_⟩⟩⟩
    have smL := same_make n1 n2 o
    obtain ⟨dx, st, le, ef, fs, srw, lrw, h1, h2, h3, h4, h5, h6, h7, h8, h9, h10⟩ := lap.ex
    refine ⟨la, T.CLap, dx, fs, _, rfl, h1, T.lap.c, T.lap.n4, h5, ef, wh rs.length zs rs t, rfl, .inl (.inl h10), we, by omega, fun H4 bk sm4 nb kb => ?_⟩
    have smC := smL.trans sm4
    have smD := smB.trans smC
    have kg4 := smC _ _ kg
    clear h1 h2 h3 h4 h5 h6 h7 h8 h9 h10 lap o n1 n2 ne hs1 hL
    refine ⟨Nat.zero_le _, fun f hf => fun dn hdn => ⟨.ref g, rfl, g, join L, rfl, .inl (.inl ?_), fun ys r pm so hr => ?_⟩⟩
    · exact (same_of (same_upd hf) (Same.free (same_upd hf) hdn)) _ _ kg4
    · have fdn : f ≠ dn := ne_of_none (upd_same (H := H4) (a := f) (o := .lst [])) hdn
      have kf : (upd (upd (upd H4 f (.lst [])) dn (.dK [])) r (.lst (ys.map V.int))) f = some (.lst []) := by
        have e1 : (upd (upd H4 f (.lst [])) dn (.dK [])) f = some (.lst []) := by rw [upd_ne fdn]; exact upd_same
        rw [upd_ne (ne_of_none e1 hr)]
        exact e1
      have kd : (upd (upd (upd H4 f (.lst [])) dn (.dK [])) r (.lst (ys.map V.int))) dn = some (.dK []) := by
        rw [upd_ne (ne_of_none (upd_same (H := upd H4 f (.lst [])) (a := dn) (o := .dK [])) hr)]
        exact upd_same
      have sm5 : Same H4 (upd (upd (upd H4 f (.lst [])) dn (.dK [])) r (.lst (ys.map V.int))) := ((same_upd hf).trans (same_upd hdn)).trans (same_upd hr)
      have kr : (upd (upd (upd H4 f (.lst [])) dn (.dK [])) r (.lst (ys.map V.int))) r = some (.lst (ys.map V.int)) := upd_same
      have rf : r ≠ f := fun z => by
        have e1 : (upd (upd H4 f (.lst [])) dn (.dK [])) f = some (.lst []) := by rw [upd_ne fdn]; exact upd_same
        rw [z, e1] at hr; cases hr
      have hdn0 : H4 dn = none := by
        have := hdn
        rw [upd_ne (Ne.symm fdn)] at this
        exact this
      generalize upd (upd (upd H4 f (.lst [])) dn (.dK [])) r (.lst (ys.map V.int)) = H5 at kf kd sm5 kr ⊢
      have d0 : ∀ x : Int, (valV ([] : List (Key × V)) (Sum.inl x)).isSome = true ↔ x ∈ (fams (join L) (inv (wh rs.length zs rs t)) (ys.take 0)).flatten := fun x => by simp [fams, valV]
      have ysl : ys.length ≤ 120 := by rw [pm.length_eq]; omega
      refine ⟨r, rfl, ⟨_, .inl (.inl kr)⟩, for_list (xs := ys.map V.int) (fun j σ H' => (∃ x6 x7 x8 x9, σ = [some (.ref p), some (.ref s), some (.ref g), some (.ref bk), some (.ref f), some (.ref dn), x6, x7, x8, x9]) ∧ Same H4 H' ∧ H' r = some (.lst (ys.map V.int)) ∧ RowsI H' f (fams (join L) (inv (wh rs.length zs rs t)) (ys.take j)) ∧
          ∃ kvs, H' dn = some (.dK kvs) ∧ (∀ x, (valV kvs (Sum.inl x)).isSome = true ↔ x ∈ (fams (join L) (inv (wh rs.length zs rs t)) (ys.take j)).flatten) ∧ kvs.length ≤ j * 120)
        ⟨⟨_, _, _, _, rfl⟩, sm5, kr, ⟨[], kf, .nil, by simp⟩, [], kd, d0, Nat.zero_le _⟩ (fun j σ H' _ h => .inl (.inl h.2.2.1)) (fun j v σ H' hv2 ⟨⟨x6, x7, x8, x9, es⟩, sm, kr', rw', kvs, kd', dmem, dlen⟩ => ?_) (fun σ H' ⟨⟨x6, x7, x8, x9, es⟩, sm, kr', rw', kvs, kd', dmem, dlen⟩ => ?_)⟩
      · subst es
        obtain ⟨x, hx, rfl⟩ := iV_lt hv2
        have hjl := (List.getElem?_eq_some_iff.mp hx).1
        refine ⟨.int x, rfl, .ref dn, rfl, dn, _, rfl, .inl ⟨kvs, .inl x, .inl kd', rfl, rfl⟩, _, rfl, ?_⟩
        rw [fams_take hx]
        by_cases hm : x ∈ (fams (join L) (inv (wh rs.length zs rs t)) (ys.take j)).flatten
        · rw [(dmem x).mpr hm, famS_yes hm]
          exact iteF ⟨⟨_, _, _, _, rfl⟩, sm, kr', rw', kvs, kd', dmem, by omega⟩
        · rw [show (valV kvs (Sum.inl x)).isSome = false from Bool.eq_false_iff.mpr fun e => hm ((dmem x).mp e), famS_no hm]
          refine iteT ?_
          obtain ⟨i, hi⟩ := List.mem_iff_getElem?.mp (pm.mem_iff.mp (List.mem_of_getElem? hx))
          have hii := (List.getElem?_eq_some_iff.mp hi).1
          have eix := idx_at2 nd hi
          have kg' := sm _ _ kg4
          have kb' := sm _ _ kb
          have hib : i < (inv (wh rs.length zs rs t)).length := by omega
          have ple := (per_spec ie hib).2.2.2
          refine ⟨.ref bk, rfl, .ref g, rfl, .inl ⟨rfl, _, .inl (.inl kg')⟩, .int x, rfl, g, _, .int x, i, .int x, rfl, rfl, .inl (.inl kg'), rfl, flat_ints _, by rw [List.getElem?_map, hi]; rfl, by rw [eqV_int]; exact decide_eq_true rfl, fun m z hm2 hz => ?_, bk, inv (wh rs.length zs rs t), i, rfl, .inl (.inl kb'), ie, hib, by omega, fun H6 c sm6 nc kc => ?_⟩
          · obtain ⟨y, hy, rfl⟩ := iV_lt hz
            rw [eqV_int]
            refine decide_eq_false fun e => ?_
            rw [e] at hy
            have := nodup_ix nd hy hi
            omega
          have kg6 := sm6 _ _ kg'
          refine ⟨c, rfl, ⟨_, .inl (.inl kc)⟩, fun D hD => lc_tup (xs := vN (cyc (inv (wh rs.length zs rs t)) i)) (fun m G => Same H6 G ∧ G D = some (.lst (((cyc (inv (wh rs.length zs rs t)) i).take m).map fun q => V.int ((join L).getD q 0)))) ⟨same_upd hD, upd_same⟩ (fun m G _ h => .inl (.inl (h.1 _ _ kc))) (fun m v G hv3 ⟨smg, kD⟩ => ?_) (fun G ⟨smg, kD⟩ => ?_)⟩
          · obtain ⟨hml, rfl⟩ := vN_lt hv3
            have hml2 := hml
            rw [cyc_len] at hml2
            have eit : ap (cyc (inv (wh rs.length zs rs t)) i) m = it (inv (wh rs.length zs rs t)) m i := by
              unfold ap
              rw [List.getD_eq_getElem?_getD, cyc_at hml2]
              rfl
            have hlt := it_lt ie (k := m) hib
            rw [eit]
            have hat : (join L)[it (inv (wh rs.length zs rs t)) m i]? = some ((join L).getD (it (inv (wh rs.length zs rs t)) m i) 0) := by
              rw [List.getD_eq_getElem?_getD, List.getElem?_eq_getElem (by omega)]
              rfl
            refine ⟨rfl, yes_go ⟨.ref g, rfl, .int (it (inv (wh rs.length zs rs t)) m i : Nat), rfl, g, _, _, .int ((join L).getD (it (inv (wh rs.length zs rs t)) m i) 0), rfl, rfl, .inl (.inl (smg _ _ kg6)), atI_nat (by rw [List.getElem?_map, hat]; rfl), _, kD, ?_, same_of smg hD, ?_⟩⟩
            · rw [List.length_map, List.length_take, cyc_len]
              exact small1000 (by omega)
            · rw [upd_same, List.take_add_one, cyc_at hml2, Option.toList_some, List.map_append]
              rfl
          rw [vN_len, List.take_length] at kD
          have eD : ((cyc (inv (wh rs.length zs rs t)) i).map fun q => V.int ((join L).getD q 0)) = (famX (join L) (inv (wh rs.length zs rs t)) x).map V.int := by
            unfold famX
            rw [eix, List.map_map]
            rfl
          rw [eD] at kD
          have fxl := famX_len (join L) (inv (wh rs.length zs rs t)) x
          rw [eix] at fxl
          have smG := sm6.trans smg
          have rwG := rw'.same smG
          have kdG := smG _ _ kd'
          have krG := smG _ _ kr'
          have Dn : D ≠ dn := fun z => by rw [z, sm6 _ _ kd'] at hD; cases hD
          have Df : D ≠ f := fun z => by
            obtain ⟨rw1, q1', _, _⟩ := rw'
            rw [z, sm6 _ _ q1'] at hD
            cases hD
          generalize famX (join L) (inv (wh rs.length zs rs t)) x = fx at kD fxl ⊢
          refine ⟨.ref D, rfl, D, rfl, ⟨_, .inl (.inl kD)⟩, for_list (xs := fx.map V.int) (fun m σ H2 => (∃ x8 x9, σ = [some (.ref p), some (.ref s), some (.ref g), some (.ref bk), some (.ref f), some (.ref dn), some (.int x), some (.ref D), x8, x9]) ∧ Same H4 H2 ∧ H2 r = some (.lst (ys.map V.int)) ∧ H2 D = some (.lst (fx.map V.int)) ∧ RowsI H2 f (fams (join L) (inv (wh rs.length zs rs t)) (ys.take j)) ∧
              ∃ kvs, H2 dn = some (.dK kvs) ∧ (∀ x, (valV kvs (Sum.inl x)).isSome = true ↔ x ∈ (fams (join L) (inv (wh rs.length zs rs t)) (ys.take j)).flatten ∨ x ∈ fx.take m) ∧ kvs.length ≤ j * 120 + m)
            ⟨⟨_, _, rfl⟩, sm.trans smG, krG, kD, rwG, kvs, kdG, (fun x => by rw [dmem]; simp), dlen⟩ (fun m σ H2 _ h => .inl (.inl h.2.2.2.1)) (fun m v σ H2 hv4 ⟨⟨x8, x9, es⟩, s1, s2, s3, s4, kv2, s5, s6, s7⟩ => ?_) (fun σ H2 ⟨⟨x8, x9, es⟩, s1, s2, s3, s4, kv2, s5, s6, s7⟩ => ?_)⟩
          · subst es
            obtain ⟨z, hz, rfl⟩ := iV_lt hv4
            have hml := (List.getElem?_eq_some_iff.mp hz).1
            have rn : r ≠ dn := fun z => by rw [z, s5] at s2; cases s2
            refine ⟨.ref dn, rfl, .int z, rfl, dn, _, rfl, DPut.k (k := Sum.inl z) s5 ?_, ⟨_, _, rfl⟩, ?_, by rw [upd_ne rn]; exact s2, by rw [upd_ne Dn]; exact s3, s4.dk s5, _, upd_same, fun x' => ?_, ?_⟩
            · have : j * 120 ≤ 120 * 120 := Nat.mul_le_mul (by omega) (Nat.le_refl _)
              rw [sizeLine_eq]
              omega
            · exact same_of s1 hdn0
            · rw [valV_put]
              have tk : fx.take (m + 1) = fx.take m ++ [z] := by rw [List.take_add_one, hz]; rfl
              rw [tk, List.mem_append, List.mem_singleton]
              by_cases e : x' = z
              · rw [if_pos (by rw [e])]
                exact ⟨fun _ => .inr (.inr e), fun _ => rfl⟩
              · rw [if_neg (fun h => e (Sum.inl.inj h)), s6]
                simp [e]
            · have := length_putK kv2 (Sum.inl z) (.bl true)
              omega
          · subst es
            rw [List.length_map, List.take_length] at s6
            obtain ⟨acc, a1, a2, a3⟩ := s4.push s3 Df
            have fl := fams_len (join L) (inv (wh rs.length zs rs t)) (ys.take j)
            rw [List.length_take] at fl
            refine ⟨.ref f, rfl, .inl ⟨rfl, _, .inl (.inl a1)⟩, .ref D, rfl, f, acc, _, rfl, rfl, a1, small1000 (by omega), ⟨_, _, _, _, rfl⟩, same_of s1 hf, by rw [upd_ne rf]; exact s2, a3, kv2, by rw [upd_ne (Ne.symm fdn)]; exact s5, fun x' => ?_, ?_⟩
            · rw [s6, List.flatten_append, List.flatten_cons, List.flatten_nil, List.append_nil, List.mem_append]
            · rw [List.length_map] at s7
              omega
      · subst es
        rw [List.length_map, List.take_length] at rw'
        exact ⟨.ref f, rfl, q ys pm so H' f (smD.trans sm) rw'⟩
end
end Sv


set_option maxHeartbeats 4000000
namespace Sv
open PySem PySem.Spec PyProof.Rows L2
/-! ### initial_state -/
theorem parc_at {n i : Nat} (h : i < n) : (parc n)[i]? = some (1 + (i : Nat) : Int) := by
  unfold parc
  rw [List.getElem?_map, List.getElem?_range h]
  rfl
section
variable {P : Program} {w : World} {K : PySem.W.Frag} {mg : Str → Option Value} {base : Heap}
theorem scInitial : FnScope ["plan"] ["plan"] (defScope sInitial) := ⟨rfl, rfl, rfl, by decide +kernel, rfl, by decide +kernel, by decide +kernel⟩
def spInit0 (K : PySem.W.Frag) (C : Addr) : Sp := fun vs H Q E => ∃ (p : Addr) (zs : List Int) (rs : List Ro), vs = [.ref p] ∧ PlanAt K H p zs rs ∧ Small zs rs ∧ BadE C zs rs H E ∧
  (bad zs rs = none → NewSt K H 0 (spl rs.length zs (parc (rs.length + sumN zs))) Q)
theorem ok_initial (T : Bd P K mg) : FnOk P w K mg base (L2.CX P w) 5 T.aInitial T.dInitial ["plan"] (spInit0 K T.C) := by
  have GP : FnOk P w K mg base (L2.CX P w) 4 T.aCheckPlan T.dCheckPlan ["plan"] (spCheckPlan K T.C) := ok_checkPlan T
  have GN : FnOk P w K mg base CX0 1 T.aNumPlaces T.dNumPlaces ["plan"] (spNum K) := ok_num T
  have GS : FnOk P w K mg base CX0 2 T.aStateOf T.dStateOf ["plan", "time", "parcels"] (spStateOf K) := ok_stateOf T
  refine T.Initial.F.okX scInitial (fun vs H Q E h => ?_) (fun cdv A outer s H vs Q E hr h => ?_)
  · obtain ⟨p, zs, rs, rfl, _⟩ := h
    rfl
  · obtain ⟨p, zs, rs, rfl, hp, hs, q1, q2⟩ := h
    refine ⟨_, (pss_cons (ps_expr (pe_call (E := E) GP (hr.mono (by decide)) (by rfl) T.CheckPlan.g T.CheckPlan.F.kp T.CheckPlan.b .nil (passes_call (takes_of rfl rfl rfl rfl) fun _ _ _ _ h => h) (pa_cons (pv 0) pa_nil)))
      (pss_one (ps_ret (pe_call (E := E0) GS (hr.mono (by decide)) (by rfl) T.StateOf.g T.StateOf.F.kp T.StateOf.b .nil pass0 (pa_cons (pv 0) (pa_cons pe_int (pa_cons (pe_listRg rfl (by rfl) T.bt.list (prg_2 (by rfl) T.bt.range pe_int (pe_op op_add (pe_call (E := E0) GN (hr.mono (by decide)) (by rfl) T.NumPlaces.g T.NumPlaces.F.kp T.NumPlaces.b .nil pass0 (pa_cons (pv 0) pa_nil)) pe_int))) pa_nil))))))), ?_⟩
    refine ⟨.ref p, rfl, p, zs, rs, rfl, hp, hs, fun e1 H1 sm1 => ?_, q1⟩
    have hv := val_of e1
    have n120 := hv.num120
    have b62 : (1000 : Int) < 2 ^ 62 := by decide
    have b24 : (1000 : Nat) < 2 ^ 24 := by decide
    refine ⟨.ref p, rfl, .ref p, rfl, p, zs, rs, rfl, hp.same sm1, fun z hz => (hv.z2 z hz).1, (rs.length + sumN zs : Nat), 1, rfl, rfl, 1, _, rfl, rfl, ⟨by omega, by omega, by omega, by omega, by omega⟩, fun c hc => ?_⟩
    rw [rgV_parc]
    have sm2 := sm1.trans (same_upd (o := .lst ((parc (rs.length + sumN zs)).map V.int)) hc)
    exact ⟨p, c, zs, rs, 0, parc (rs.length + sumN zs), rfl, hp.same sm2, hv, .inl (.inl upd_same), by rw [parc_len]; omega, (q2 e1).imp sm2⟩
end
end Sv


set_option maxHeartbeats 4000000
namespace Sv
open PySem PySem.Spec PyProof.Rows L2
/-! ### what the functions of counting do where all is valid -/
def vTimesLeft (K : PySem.W.Frag) : Sp := fun vs H Q _ => ∃ (p s : Addr) (zs : List Int) (rs : List Ro) (t x y : Int) (i c : Nat) (L : Lay Int), vs = [.ref p, .ref s, .int x, .int y, .int (c : Nat)] ∧ PS0 K H p s zs rs t L ∧ ((join L)[i]? = some x ∧ (0 ≤ y ∧ y < (zs.length : Nat)) ∧ c ≤ 1000000000000000000) ∧ ∀ H', Same H H' → Q (.int (cntM (lfB zs rs t i y) c : Nat)) H'
@[irreducible] def qTimesLeft (K : PySem.W.Frag) : Sp := vTimesLeft K
def vTicksCarried (K : PySem.W.Frag) : Sp := fun vs H Q _ => ∃ (p s : Addr) (zs : List Int) (rs : List Ro) (t x y : Int) (i c : Nat) (L : Lay Int), vs = [.ref p, .ref s, .int x, .int y, .int (c : Nat)] ∧ PS0 K H p s zs rs t L ∧ ((join L)[i]? = some x ∧ (0 ≤ y ∧ y < (rs.length : Nat)) ∧ c ≤ 1000000000000000000) ∧ ∀ H', Same H H' → Q (.int (cntM (poB zs rs t i y) c : Nat)) H'
@[irreducible] def qTicksCarried (K : PySem.W.Frag) : Sp := vTicksCarried K
def vTicksOnShelf (K : PySem.W.Frag) : Sp := fun vs H Q _ => ∃ (p s : Addr) (zs : List Int) (rs : List Ro) (t x y : Int) (i c : Nat) (L : Lay Int), vs = [.ref p, .ref s, .int x, .int y, .int (c : Nat)] ∧ PS0 K H p s zs rs t L ∧ ((join L)[i]? = some x ∧ (0 ≤ y ∧ y < (zs.length : Nat)) ∧ c ≤ 1000000000000000000) ∧ ∀ H', Same H H' → Q (.int (cntM (tgB zs rs t i y) c : Nat)) H'
@[irreducible] def qTicksOnShelf (K : PySem.W.Frag) : Sp := vTicksOnShelf K
def vNthLeft (K : PySem.W.Frag) : Sp := fun vs H Q _ => ∃ (p s : Addr) (zs : List Int) (rs : List Ro) (t x y c : Int) (i : Nat) (L : Lay Int), vs = [.ref p, .ref s, .int x, .int y, .int c] ∧ PS0 K H p s zs rs t L ∧ ((join L)[i]? = some x ∧ (0 ≤ y ∧ y < (zs.length : Nat)) ∧ NrOk c) ∧ ∀ H' v, Same H H' → NthV (lfB zs rs t i y) c v → Q v H'
@[irreducible] def qNthLeft (K : PySem.W.Frag) : Sp := vNthLeft K
def vStamps (K : PySem.W.Frag) : Sp := fun vs H Q _ => ∃ (p s : Addr) (zs : List Int) (rs : List Ro) (t x : Int) (i c : Nat) (L : Lay Int), vs = [.ref p, .ref s, .int x, .int (c : Nat)] ∧ PS0 K H p s zs rs t L ∧ ((join L)[i]? = some x ∧ c ≤ 200) ∧ ∀ H' f xs, Same H H' → H f = none → H' f = some (.lst xs) → StampsV (lft zs rs t i) c xs → Q (.ref f) H'
@[irreducible] def qStamps (K : PySem.W.Frag) : Sp := vStamps K
def vStampAt (K : PySem.W.Frag) : Sp := fun vs H Q _ => ∃ (p s : Addr) (zs : List Int) (rs : List Ro) (t x c : Int) (i : Nat) (L : Lay Int), vs = [.ref p, .ref s, .int x, .int c] ∧ PS0 K H p s zs rs t L ∧ ((join L)[i]? = some x ∧ NrOk c) ∧ ∀ H' v, Same H H' → (v = .non ∧ (∀ k, (lft zs rs t i k).isSome = false) ∨ StV (lft zs rs t i) (c - 1).toNat v) → Q v H'
@[irreducible] def qStampAt (K : PySem.W.Frag) : Sp := vStampAt K
def vArrival (K : PySem.W.Frag) : Sp := fun vs H Q _ => ∃ (p s u : Addr) (zs : List Int) (rs : List Ro) (t x : Int) (i j : Nat) (pl : List V) (L : Lay Int), vs = [.ref p, .ref s, .int x, .ref u] ∧ PS0 K H p s zs rs t L ∧ ((join L)[i]? = some x ∧ SqT K H u pl ∧ (placesV zs rs.length)[j]? = some pl) ∧ ∀ H' v, Same H H' → FirstV (fun k => decide (pos zs rs t k i = j)) v → Q v H'
@[irreducible] def qArrival (K : PySem.W.Frag) : Sp := vArrival K
section
variable {K : PySem.W.Frag} {H : Hp} {Q : VK} {E : XK} {p s : Addr} {zs : List Int} {rs : List Ro} {t : Int} {L : Lay Int} {i : Nat}
theorem go_TimesLeft {x y : Int} {c : Nat} (X : PS0 K H p s zs rs t L) (h : (join L)[i]? = some x ∧ (0 ≤ y ∧ y < (zs.length : Nat)) ∧ c ≤ 1000000000000000000) (q : ∀ H', Same H H' → Q (.int (cntM (lfB zs rs t i y) c : Nat)) H') : qTimesLeft K [.ref p, .ref s, .int x, .int y, .int (c : Nat)] H Q E := by
  unfold qTimesLeft
  exact ⟨p, s, zs, rs, t, x, y, i, c, L, rfl, X, h, q⟩
theorem go_TicksCarried {x y : Int} {c : Nat} (X : PS0 K H p s zs rs t L) (h : (join L)[i]? = some x ∧ (0 ≤ y ∧ y < (rs.length : Nat)) ∧ c ≤ 1000000000000000000) (q : ∀ H', Same H H' → Q (.int (cntM (poB zs rs t i y) c : Nat)) H') : qTicksCarried K [.ref p, .ref s, .int x, .int y, .int (c : Nat)] H Q E := by
  unfold qTicksCarried
  exact ⟨p, s, zs, rs, t, x, y, i, c, L, rfl, X, h, q⟩
theorem go_TicksOnShelf {x y : Int} {c : Nat} (X : PS0 K H p s zs rs t L) (h : (join L)[i]? = some x ∧ (0 ≤ y ∧ y < (zs.length : Nat)) ∧ c ≤ 1000000000000000000) (q : ∀ H', Same H H' → Q (.int (cntM (tgB zs rs t i y) c : Nat)) H') : qTicksOnShelf K [.ref p, .ref s, .int x, .int y, .int (c : Nat)] H Q E := by
  unfold qTicksOnShelf
  exact ⟨p, s, zs, rs, t, x, y, i, c, L, rfl, X, h, q⟩
theorem go_NthLeft {x y c : Int} (X : PS0 K H p s zs rs t L) (h : (join L)[i]? = some x ∧ (0 ≤ y ∧ y < (zs.length : Nat)) ∧ NrOk c) (q : ∀ H' v, Same H H' → NthV (lfB zs rs t i y) c v → Q v H') : qNthLeft K [.ref p, .ref s, .int x, .int y, .int c] H Q E := by
  unfold qNthLeft
  exact ⟨p, s, zs, rs, t, x, y, c, i, L, rfl, X, h, q⟩
theorem go_Stamps {x : Int} {c : Nat} (X : PS0 K H p s zs rs t L) (h : (join L)[i]? = some x ∧ c ≤ 200) (q : ∀ H' f xs, Same H H' → H f = none → H' f = some (.lst xs) → StampsV (lft zs rs t i) c xs → Q (.ref f) H') : qStamps K [.ref p, .ref s, .int x, .int (c : Nat)] H Q E := by
  unfold qStamps
  exact ⟨p, s, zs, rs, t, x, i, c, L, rfl, X, h, q⟩
theorem go_StampAt {x c : Int} (X : PS0 K H p s zs rs t L) (h : (join L)[i]? = some x ∧ NrOk c) (q : ∀ H' v, Same H H' → (v = .non ∧ (∀ k, (lft zs rs t i k).isSome = false) ∨ StV (lft zs rs t i) (c - 1).toNat v) → Q v H') : qStampAt K [.ref p, .ref s, .int x, .int c] H Q E := by
  unfold qStampAt
  exact ⟨p, s, zs, rs, t, x, c, i, L, rfl, X, h, q⟩
theorem go_Arrival {u : Addr} {pl : List V} {x : Int} {j : Nat} (X : PS0 K H p s zs rs t L) (h : (join L)[i]? = some x ∧ SqT K H u pl ∧ (placesV zs rs.length)[j]? = some pl) (q : ∀ H' v, Same H H' → FirstV (fun k => decide (pos zs rs t k i = j)) v → Q v H') : qArrival K [.ref p, .ref s, .int x, .ref u] H Q E := by
  unfold qArrival
  exact ⟨p, s, u, zs, rs, t, x, i, j, pl, L, rfl, X, h, q⟩
end
section
variable {P : Program} {w : World} {K : PySem.W.Frag} {mg : Str → Option Value} {base : Heap}
theorem timesLeft_ok (T : Bd P K mg) : FnOk P w K mg base (L2.CX P w) 12 T.aTimesLeft T.dTimesLeft ["plan", "state", "parcel", "shelf", "count"] (qTimesLeft K) := by
  unfold qTimesLeft
  refine ((ok_timesLeft T).mono (by decide)).imp fun vs H Q E h => ?_
  obtain ⟨p, s, zs, rs, t, x, y, i, c, L, rfl, X, ⟨hi, hy, hc⟩, q⟩ := h
  have hb := X.bad
  have hx := List.mem_of_getElem? hi
  have ht : TkOk (c : Int) := ⟨by omega, by omega⟩
  exact ⟨p, s, zs, rs, t, x, y, (c : Int), L, rfl, X.p, X.v.small, X.s, ⟨fun part i e => (by rw [hb] at e; cases e), fun _ h => absurd X.o h, fun _ _ h => absurd hx h⟩, fun _ _ _ h => absurd hy h, fun _ _ _ _ h => absurd ht h, fun _ _ _ _ i2 hi2 => by rw [nodup_ix X.o.p.2 hi2 hi, Int.toNat_natCast]; exact q⟩
theorem ticksCarried_ok (T : Bd P K mg) : FnOk P w K mg base (L2.CX P w) 12 T.aTicksCarried T.dTicksCarried ["plan", "state", "parcel", "carrier", "count"] (qTicksCarried K) := by
  unfold qTicksCarried
  refine ((ok_ticksCarried T).mono (by decide)).imp fun vs H Q E h => ?_
  obtain ⟨p, s, zs, rs, t, x, y, i, c, L, rfl, X, ⟨hi, hy, hc⟩, q⟩ := h
  have hb := X.bad
  have hx := List.mem_of_getElem? hi
  have ht : TkOk (c : Int) := ⟨by omega, by omega⟩
  exact ⟨p, s, zs, rs, t, x, y, (c : Int), L, rfl, X.p, X.v.small, X.s, ⟨fun part i e => (by rw [hb] at e; cases e), fun _ h => absurd X.o h, fun _ _ h => absurd hx h⟩, fun _ _ _ h => absurd hy h, fun _ _ _ _ h => absurd ht h, fun _ _ _ _ i2 hi2 => by rw [nodup_ix X.o.p.2 hi2 hi, Int.toNat_natCast]; exact q⟩
theorem nthLeft_ok (T : Bd P K mg) : FnOk P w K mg base (L2.CX P w) 12 T.aNthLeft T.dNthLeft ["plan", "state", "parcel", "shelf", "number"] (qNthLeft K) := by
  unfold qNthLeft
  refine ((ok_nthLeft T).mono (by decide)).imp fun vs H Q E h => ?_
  obtain ⟨p, s, zs, rs, t, x, y, c, i, L, rfl, X, ⟨hi, hy, hc⟩, q⟩ := h
  have hb := X.bad
  have hx := List.mem_of_getElem? hi
  exact ⟨p, s, zs, rs, t, x, y, c, L, rfl, X.p, X.v.small, X.s, ⟨fun part i e => (by rw [hb] at e; cases e), fun _ h => absurd X.o h, fun _ _ h => absurd hx h⟩, fun _ _ _ h => absurd hy h, fun _ _ _ _ h => absurd hc h, fun _ _ _ _ i2 hi2 => by rw [nodup_ix X.o.p.2 hi2 hi]; exact q⟩
theorem stampAt_ok (T : Bd P K mg) : FnOk P w K mg base (L2.CX P w) 12 T.aStampAt T.dStampAt ["plan", "state", "parcel", "number"] (qStampAt K) := by
  unfold qStampAt
  refine ((ok_stampAt T).mono (by decide)).imp fun vs H Q E h => ?_
  obtain ⟨p, s, zs, rs, t, x, c, i, L, rfl, X, ⟨hi, hc⟩, q⟩ := h
  have hb := X.bad
  have hx := List.mem_of_getElem? hi
  exact ⟨p, s, zs, rs, t, x, c, L, rfl, X.p, X.v.small, X.s, ⟨fun part i e => (by rw [hb] at e; cases e), fun _ h => absurd X.o h, fun _ _ h => absurd hx h⟩, fun _ _ _ h => absurd hc h, fun _ _ _ i2 hi2 => by rw [nodup_ix X.o.p.2 hi2 hi]; exact q⟩
end
end Sv


set_option maxHeartbeats 4000000
namespace Sv
open PySem PySem.Spec PyProof.Rows L2
/-! ### sums -/
def sg (F : Nat → Nat) : Nat → Nat
  | 0 => 0
  | n + 1 => sg F n + F n
theorem sg_congr {F G : Nat → Nat} : ∀ {n}, (∀ k, k < n → F k = G k) → sg F n = sg G n
  | 0, _ => rfl
  | n + 1, h => by
    unfold sg
    rw [sg_congr fun k hk => h k (by omega), h n (by omega)]
theorem sg_add (F G : Nat → Nat) : ∀ n, sg (fun k => F k + G k) n = sg F n + sg G n
  | 0 => rfl
  | n + 1 => by
    unfold sg
    rw [sg_add F G n]
    omega
theorem sg_zero {F : Nat → Nat} : ∀ {n}, (∀ k, k < n → F k = 0) → sg F n = 0
  | 0, _ => rfl
  | n + 1, h => by
    unfold sg
    rw [sg_zero fun k hk => h k (by omega), h n (by omega)]
theorem sg_one {F : Nat → Nat} {s : Nat} : ∀ {n}, s < n → (∀ k, k < n → F k = if k = s then 1 else 0) → sg F n = 1
  | 0, h, _ => by omega
  | n + 1, h, e => by
    unfold sg
    by_cases hs : s = n
    · rw [sg_zero fun k hk => by rw [e k (by omega), if_neg (by omega)], e n (by omega), if_pos hs.symm]
    · rw [sg_one (by omega) fun k hk => e k (by omega), e n (by omega), if_neg (by omega)]
def b01 (b : Bool) : Nat := if b = true then 1 else 0
theorem sg_cnt (F : Nat → Nat → Bool) (S c : Nat) : sg (fun y => cntM (F y) (c + 1)) S = sg (fun y => cntM (F y) c) S + sg (fun y => b01 (F y c)) S := by
  rw [← sg_add]
  exact sg_congr fun y _ => cntM_succ _ _
theorem sg_cnt0 (F : Nat → Nat → Bool) (S : Nat) : sg (fun y => cntM (F y) 0) S = 0 := sg_zero fun _ _ => rfl
theorem sg_range (F : Nat → Nat) : ∀ n, ((List.range n).map F).sum = sg F n
  | 0 => rfl
  | n + 1 => by
    rw [List.range_succ, List.map_append, List.sum_append, sg_range F n]
    show _ = sg F n + F n
    simp
/-! ### places and shelves -/
theorem tagN_some (zs : List Int) : ∀ k, none ∉ tagN zs k
  | 0, h => by cases h
  | k + 1, h => by
    unfold tagN at h
    rcases List.mem_append.mp h with h | h
    · exact tagN_some zs k h
    · have := List.eq_of_mem_replicate h
      cases this
theorem tag_car {zs : List Int} {n q : Nat} (h : q < n) : tag zs n q = none := by
  unfold tag tags
  rw [List.getD_eq_getElem?_getD, List.getElem?_append_left (by rw [List.length_replicate]; exact h), List.getElem?_replicate, if_pos h]
  rfl
theorem tag_sh {zs : List Int} {n q : Nat} (h : n ≤ q) (h2 : q < n + sumN zs) : ∃ s, s < zs.length ∧ tag zs n q = some s := by
  have hl := tags_len zs n
  have e : (tags zs n)[q]? = some (tag zs n q) := by
    unfold tag
    rw [List.getD_eq_getElem?_getD, List.getElem?_eq_getElem (by omega)]
    rfl
  unfold tags at e
  rw [List.getElem?_append_right (by rw [List.length_replicate]; exact h)] at e
  have m := List.mem_of_getElem? e
  cases ht : tag zs n q with
  | none => rw [ht] at m; exact absurd m (tagN_some _ _)
  | some s =>
    rw [ht] at m
    exact ⟨s, tagN_lt _ _ _ m, rfl⟩
theorem one_each {zs : List Int} {n q : Nat} (h2 : q < n + sumN zs) : sg (fun y => b01 (decide (tagV (tag zs n q) = .int ((y : Nat) : Int)))) zs.length + sg (fun z => b01 (decide (((q : Nat) : Int) = ((z : Nat) : Int)))) n = 1 := by
  by_cases h : q < n
  · have z0 : sg (fun y => b01 (decide (tagV none = V.int ((y : Nat) : Int)))) zs.length = 0 := sg_zero fun y _ => rfl
    rw [tag_car h, z0, sg_one h fun z hz => by
      unfold b01
      by_cases e : z = q
      · rw [if_pos e, if_pos (by rw [e]; exact decide_eq_true rfl)]
      · rw [if_neg e, if_neg (by rw [decide_eq_false (by omega)]; exact Bool.false_ne_true)]]
  · obtain ⟨s, hs, e⟩ := tag_sh (by omega : n ≤ q) h2
    rw [e, sg_one hs fun y hy => by
      unfold b01
      by_cases e : y = s
      · rw [if_pos e, if_pos (by rw [e]; exact decide_eq_true rfl)]
      · rw [if_neg e, if_neg (by rw [decide_eq_false (fun z => e (by have := V.int.inj z; omega))]; exact Bool.false_ne_true)], sg_zero fun z hz => by
      unfold b01
      rw [if_neg (by rw [decide_eq_false (by omega)]; exact Bool.false_ne_true)]]
section
variable {zs : List Int} {rs : List Ro} (hv : Val zs rs) (t : Int) {i : Nat} (hi : i < rs.length + sumN zs)
include hv hi
theorem tot_all (c : Nat) : sg (fun y => cntM (tgB zs rs t i ((y : Nat) : Int)) c) zs.length + sg (fun z => cntM (poB zs rs t i ((z : Nat) : Int)) c) rs.length = c := by
  induction c with
  | zero => rw [sg_cnt0 (fun y => tgB zs rs t i ((y : Nat) : Int)), sg_cnt0 (fun z => poB zs rs t i ((z : Nat) : Int))]
  | succ c ih =>
    rw [sg_cnt (fun y => tgB zs rs t i ((y : Nat) : Int)), sg_cnt (fun z => poB zs rs t i ((z : Nat) : Int))]
    have := one_each (pos_lt hv t hi (c + 1))
    unfold tgB poB at ih ⊢
    omega
theorem lft_lt {k s : Nat} (h : lft zs rs t i k = some s) : s < zs.length := by
  unfold lft vsh at h
  split at h
  · cases hf : (vis rs (t + (k : Nat))).find? fun p => decide (p.1 = pos zs rs t k i) with
    | none => rw [hf] at h; cases h
    | some p =>
      rw [hf] at h
      have := (vis_ok hv.ro _ p (List.mem_of_find?_eq_some hf)).2
      rw [← Option.some.inj h]
      exact this
  · cases h
theorem every_all (c : Nat) : sg (fun y => cntM (lfB zs rs t i ((y : Nat) : Int)) c) zs.length = cntM (anB zs rs t i) c := by
  induction c with
  | zero => exact sg_cnt0 (fun y => lfB zs rs t i ((y : Nat) : Int)) _
  | succ c ih =>
    rw [sg_cnt (fun y => lfB zs rs t i ((y : Nat) : Int)), cntM_succ, ih]
    congr 1
    unfold lfB anB b01
    cases h : lft zs rs t i c with
    | none => exact sg_zero fun y _ => rfl
    | some s =>
      show _ = 1
      refine sg_one (lft_lt hv t hi h) fun y hy => ?_
      by_cases e : y = s
      · rw [if_pos e, if_pos (by rw [e]; exact decide_eq_true rfl)]
      · rw [if_neg e, if_neg (by rw [decide_eq_false (fun z => e (by have := V.int.inj z; omega))]; exact Bool.false_ne_true)]
/-! ### later -/
theorem pos_sh (a k : Nat) : pos zs rs (t + (a : Nat)) k (pos zs rs t a i) = pos zs rs t (a + k) i := by
  unfold pos
  rw [Int.natCast_add, effT_add rs.length zs hv.rne hv.lc1, comp_ap (by rw [effT_len]; exact hi)]
theorem lft_sh (a k : Nat) : lft zs rs (t + (a : Nat)) (pos zs rs t a i) k = lft zs rs t i (a + k) := by
  unfold lft
  rw [pos_sh hv t hi, Int.natCast_add, Int.add_assoc]
theorem lfB_cut (y : Int) (a b : Nat) : cntM (lfB zs rs t i y) a + cntM (lfB zs rs (t + (a : Nat)) (pos zs rs t a i) y) b = cntM (lfB zs rs t i y) (a + b) := by
  rw [cntM_add]
  congr 2
  funext k
  unfold lfB
  rw [lft_sh hv t hi]
theorem poB_cut (y : Int) (a b : Nat) : cntM (poB zs rs t i y) a + cntM (poB zs rs (t + (a : Nat)) (pos zs rs t a i) y) b = cntM (poB zs rs t i y) (a + b) := by
  rw [cntM_add]
  congr 2
  funext k
  unfold poB
  rw [pos_sh hv t hi, ← Nat.add_assoc]
theorem tgB_cut (y : Int) (a b : Nat) : cntM (tgB zs rs t i y) a + cntM (tgB zs rs (t + (a : Nat)) (pos zs rs t a i) y) b = cntM (tgB zs rs t i y) (a + b) := by
  rw [cntM_add]
  congr 2
  funext k
  unfold tgB
  rw [pos_sh hv t hi, ← Nat.add_assoc]
theorem pos_adv {L : Lay Int} (hf : Fits rs.length zs L) {x : Int} (hx : (join L)[i]? = some x) (k : Nat) : (join (advA 0 zs rs t (k : Nat) L))[pos zs rs t k i]? = some x := by
  have jl := join_len hf
  unfold pos
  rw [join_advA, moveA_at 0 (effT_eff ..) (by rw [effT_len, jl]) (by rw [effT_len]; exact hi)]
  exact hx
end
/-! ### all parcels together -/
def cvis (rs : List Ro) (y : Nat) (m : Int) : Nat := ((vis rs m).filter fun p => decide (p.2 = y)).length
theorem vsh_iff {zs : List Int} {rs : List Ro} (hv : Val zs rs) (m : Int) (q y : Nat) : vsh rs.length rs m q = some y ↔ (q, y) ∈ vis rs m := by
  unfold vsh
  constructor
  · intro h
    split at h
    · cases hf : (vis rs m).find? fun p => decide (p.1 = q) with
      | none => rw [hf] at h; cases h
      | some p =>
        rw [hf] at h
        have h1 := List.mem_of_find?_eq_some hf
        have h2 := List.find?_some hf
        have e1 : p.1 = q := by simpa using h2
        have e2 : p.2 = y := Option.some.inj h
        rw [← e1, ← e2]
        exact h1
    · cases h
  · intro h
    have hq := (vis_ok hv.ro m _ h).1
    rw [if_pos hq]
    cases hf : (vis rs m).find? fun p => decide (p.1 = q) with
    | none =>
      have := List.find?_eq_none.mp hf _ h
      simp at this
    | some p =>
      have h1 := List.mem_of_find?_eq_some hf
      have h2 := List.find?_some hf
      have e1 : p.1 = q := by simpa using h2
      obtain ⟨a, ha⟩ := List.mem_iff_getElem?.mp h
      obtain ⟨b, hb⟩ := List.mem_iff_getElem?.mp h1
      have nd := vis_nd rs m
      have f1 : ((vis rs m).map (·.1))[a]? = some q := by rw [List.getElem?_map, ha]; rfl
      have f2 : ((vis rs m).map (·.1))[b]? = some q := by rw [List.getElem?_map, hb]; show some p.1 = _; rw [e1]
      obtain ⟨l1, g1⟩ := List.getElem?_eq_some_iff.mp f1
      obtain ⟨l2, g2⟩ := List.getElem?_eq_some_iff.mp f2
      have := (List.getElem_inj nd).mp (g1.trans g2.symm)
      subst this
      rw [ha] at hb
      rw [← Option.some.inj hb]
      rfl
theorem cnt_vis {zs : List Int} {rs : List Ro} (hv : Val zs rs) (m : Int) (y : Nat) : (List.range (rs.length + sumN zs)).countP (fun q => decide (vsh rs.length rs m q = some y)) = cvis rs y m := by
  unfold cvis
  rw [List.countP_eq_length_filter]
  have nd := vis_nd rs m
  have e : ((vis rs m).filter fun p => decide (p.2 = y)).length = (((vis rs m).filter fun p => decide (p.2 = y)).map (·.1)).length := (List.length_map _).symm
  rw [e]
  refine List.Perm.length_eq ((List.perm_ext_iff_of_nodup (List.Pairwise.filter _ List.nodup_range) (nd.sublist (List.Sublist.map _ List.filter_sublist))).mpr fun q => ?_)
  rw [List.mem_filter, List.mem_map, List.mem_range]
  constructor
  · intro ⟨h1, h2⟩
    exact ⟨(q, y), List.mem_filter.mpr ⟨(vsh_iff hv m q y).mp (of_decide_eq_true h2), decide_eq_true rfl⟩, rfl⟩
  · intro ⟨p, h1, h2⟩
    obtain ⟨h3, h4⟩ := List.mem_filter.mp h1
    have e2 : p.2 = y := of_decide_eq_true h4
    have e1 : p.1 = q := h2
    have h5 := (vis_ok hv.ro m p h3).1
    refine ⟨by omega, decide_eq_true ((vsh_iff hv m q y).mpr ?_)⟩
    rw [← e1, ← e2]
    exact h3
theorem sg_cut (F : Nat → Nat) (a : Nat) : ∀ b, sg F (a + b) = sg F a + sg (fun k => F (a + k)) b
  | 0 => rfl
  | b + 1 => by
    show sg F (a + b) + F (a + b) = sg F a + (sg (fun k => F (a + k)) b + F (a + b))
    rw [sg_cut F a b]
    omega
theorem eff_perm {e : List Nat} (E : Eff e) : e.Perm (List.range e.length) := (List.perm_ext_iff_of_nodup E.2 List.nodup_range).mpr fun q => by
  rw [List.mem_range]
  exact ⟨E.1 q, eff_all E⟩
section
variable {zs : List Int} {rs : List Ro} (hv : Val zs rs) (t : Int) (y : Nat)
include hv
theorem lft_all (k : Nat) : sg (fun i => b01 (lfB zs rs t i (y : Nat) k)) (rs.length + sumN zs) = cvis rs y (t + (k : Nat)) := by
  have e1 : ∀ n (f : Nat → Bool), sg (fun i => b01 (f i)) n = (List.range n).countP f := fun n f => by
    induction n with
    | zero => rfl
    | succ n ih =>
      rw [List.range_succ, List.countP_append, ← ih, List.countP_cons, List.countP_nil]
      show _ + b01 (f n) = _ + (0 + if f n = true then 1 else 0)
      rw [Nat.zero_add]
      rfl
  rw [e1, ← cnt_vis hv]
  have el := effT_len rs.length zs rs t (k : Nat)
  have pe := eff_perm (effT_eff rs.length zs rs t (k : Nat))
  rw [el] at pe
  have em : (List.range (rs.length + sumN zs)).map (fun i => pos zs rs t k i) = effT rs.length zs rs t (k : Nat) := by
    refine List.ext_getElem? fun j => ?_
    rw [List.getElem?_map]
    by_cases hj : j < rs.length + sumN zs
    · rw [List.getElem?_range hj, ap_at (by rw [el]; exact hj)]
      rfl
    · rw [List.getElem?_eq_none (by rw [List.length_range]; omega), List.getElem?_eq_none (by rw [el]; omega)]
      rfl
  have er : (List.range (rs.length + sumN zs)).countP (fun q => decide (vsh rs.length rs (t + (k : Nat)) q = some y)) = (List.range (rs.length + sumN zs)).countP (fun i => decide (vsh rs.length rs (t + (k : Nat)) (pos zs rs t k i) = some y)) := (List.Perm.countP_eq _ pe).symm.trans (by rw [← em, List.countP_map]; rfl)
  rw [er]
  refine List.countP_congr fun i hi => ?_
  show lfB zs rs t i (y : Nat) k = true ↔ decide (vsh rs.length rs (t + (k : Nat)) (pos zs rs t k i) = some y) = true
  unfold lfB
  rw [decide_eq_true_eq, decide_eq_true_eq]
  show tagV (vsh rs.length rs (t + (k : Nat)) (pos zs rs t k i)) = _ ↔ _
  cases vsh rs.length rs (t + (k : Nat)) (pos zs rs t k i) with
  | none => exact ⟨(fun h => by cases h), (fun h => by cases h)⟩
  | some s => exact ⟨(fun h => by have := V.int.inj h; rw [show s = y by omega]), (fun h => by rw [Option.some.inj h]; rfl)⟩
theorem lft_sum (c : Nat) : sg (fun i => cntM (lfB zs rs t i (y : Nat)) c) (rs.length + sumN zs) = sg (fun k => cvis rs y (t + (k : Nat))) c := by
  induction c with
  | zero => exact sg_cnt0 (fun i => lfB zs rs t i (y : Nat)) _
  | succ c ih =>
    rw [sg_cnt (fun i => lfB zs rs t i (y : Nat)), ih, lft_all hv t y c]
    rfl
theorem cvis_mod {m m' : Int} (e : (lc rs : Int) ∣ m - m') : cvis rs y m = cvis rs y m' := by
  unfold cvis
  rw [vis_mod hv.rne e]
theorem rot_vis (t' : Int) : sg (fun k => cvis rs y (t' + (k : Nat))) (lc rs) = sg (fun k => cvis rs y ((k : Nat) : Int)) (lc rs) := by
  have l1 := hv.lc1
  have one : ∀ s : Int, sg (fun k => cvis rs y (s + 1 + (k : Nat))) (lc rs) = sg (fun k => cvis rs y (s + (k : Nat))) (lc rs) := fun s => by
    have c1 := sg_cut (fun k => cvis rs y (s + (k : Nat))) 1 (lc rs)
    have c2 := sg_cut (fun k => cvis rs y (s + (k : Nat))) (lc rs) 1
    rw [Nat.add_comm 1] at c1
    rw [c1] at c2
    have e1 : sg (fun k => cvis rs y (s + ((1 + k : Nat) : Int))) (lc rs) = sg (fun k => cvis rs y (s + 1 + (k : Nat))) (lc rs) := sg_congr fun k _ => by rw [Int.natCast_add, Int.add_assoc]; rfl
    have e2 : sg (fun k => cvis rs y (s + (k : Nat))) 1 = cvis rs y (s + ((0 : Nat) : Int)) := Nat.zero_add _
    have e3 : sg (fun k => cvis rs y (s + ((lc rs + k : Nat) : Int))) 1 = cvis rs y (s + ((lc rs + 0 : Nat) : Int)) := Nat.zero_add _
    have e4 : cvis rs y (s + ((lc rs + 0 : Nat) : Int)) = cvis rs y (s + ((0 : Nat) : Int)) := cvis_mod hv y ⟨1, by omega⟩
    rw [e1, e2, e3, e4] at c2
    omega
  have up : ∀ n : Nat, sg (fun k => cvis rs y (((n : Nat) : Int) + (k : Nat))) (lc rs) = sg (fun k => cvis rs y ((k : Nat) : Int)) (lc rs) := fun n => by
    induction n with
    | zero => exact sg_congr fun k _ => by rw [show ((0 : Nat) : Int) + (k : Nat) = (k : Nat) by omega]
    | succ n ih =>
      rw [← ih, ← one n]
      rfl
  have e : (lc rs : Int) ∣ t' - ((t' % (lc rs : Int)).toNat : Nat) := by
    rw [Int.toNat_of_nonneg (Int.emod_nonneg _ (by omega))]
    exact ⟨t' / (lc rs : Int), by have := Int.mul_ediv_add_emod t' (lc rs : Int); omega⟩
  rw [← up (t' % (lc rs : Int)).toNat]
  refine sg_congr fun k _ => cvis_mod hv y ?_
  obtain ⟨d, hd⟩ := e
  exact ⟨d, by omega⟩
/-- all parcels together, whole patterns -/
theorem all_vis (r : Nat) : sg (fun i => cntM (lfB zs rs t i (y : Nat)) (lc rs * r)) (rs.length + sumN zs) = sg (fun k => cvis rs y ((k : Nat) : Int)) (lc rs) * r := by
  rw [lft_sum hv t y]
  induction r with
  | zero => rfl
  | succ r ih =>
    rw [Nat.mul_succ, sg_cut, ih, Nat.mul_succ]
    congr 1
    rw [← rot_vis hv y (t + ((lc rs * r : Nat) : Int))]
    exact sg_congr fun k _ => by rw [Int.natCast_add, Int.add_assoc]
end
end Sv


set_option maxHeartbeats 8000000
namespace Sv
open PySem PySem.Spec PyProof.Rows L2
/-! ### cycles, there and back -/
section
variable {e : List Nat}
theorem rp_dvd2 (E : Eff e) {c : Int} {p : Nat} (hp : p < e.length) : rp e c p = p ↔ (per e p : Int) ∣ c := by
  have pp := per_pos E hp
  have h1 := Int.emod_nonneg c (show (per e p : Int) ≠ 0 by omega)
  have h2 := Int.emod_lt_of_pos c (show (0 : Int) < per e p by omega)
  unfold rp
  rw [it_eq_iff E hp]
  constructor
  · intro h
    have h3 : (c % (per e p : Int)).toNat = 0 := Nat.eq_zero_of_dvd_of_lt h (by omega)
    exact Int.dvd_of_emod_eq_zero (by omega)
  · intro h
    rw [Int.emod_eq_zero_of_dvd h]
    exact Nat.dvd_zero _
theorem rp_eq2 (E : Eff e) {c d : Int} {p : Nat} (hp : p < e.length) : rp e c p = rp e d p ↔ (per e p : Int) ∣ c - d := by
  constructor
  · intro h
    have h1 := congrArg (rp e (-d)) h
    rw [rp_add E _ _ hp, rp_add E _ _ hp, show d + -d = 0 by omega, rp_zero] at h1
    exact (rp_dvd2 E hp).mp h1
  · intro h
    have h1 := congrArg (rp e d) ((rp_dvd2 E hp).mpr h)
    rw [rp_add E _ _ hp, show c - d + d = c by omega] at h1
    exact h1
theorem inv_it (E : Eff e) {p : Nat} (hp : p < e.length) : ∀ k : Nat, it (inv e) k p = rp e (-(k : Int)) p
  | 0 => by
    rw [show (-((0 : Nat) : Int)) = 0 from rfl, rp_zero]
    rfl
  | k + 1 => by
    show ap (inv e) (it (inv e) k p) = _
    rw [inv_it E hp k, inv_eq E, rep_ap (rp_lt E hp), rp_add E _ _ hp]
    congr 1
    omega
theorem inv_per (E : Eff e) {p : Nat} (hp : p < e.length) : per (inv e) p = per e p := by
  have I := inv_eff E
  have il := inv_len e
  have key : ∀ k : Nat, it (inv e) k p = p ↔ it e k p = p := fun k => by
    rw [inv_it E hp, rp_dvd2 E hp, it_eq_iff E hp, Int.dvd_neg, Int.natCast_dvd_natCast]
  refine Nat.dvd_antisymm ?_ ?_
  · exact (it_eq_iff I (by omega) _).mp ((key _).mpr ((it_eq_iff E hp _).mpr (Nat.dvd_refl _)))
  · exact (it_eq_iff E hp _).mp ((key _).mp ((it_eq_iff I (by omega) _).mpr (Nat.dvd_refl _)))
/-- how far one place of a cycle is ahead of another one -/
theorem fol_at (E : Eff e) {q a c k : Nat} (hq : q < e.length) (hk : k < per e q) (h : it e k (it (inv e) a q) = it (inv e) c q) : ((a : Int) - (c : Int)) % (per e q : Int) = (k : Int) := by
  have hl := rp_lt E (c := -(a : Int)) hq
  rw [inv_it E hq, inv_it E hq, ← rp_nat E k hl, rp_add E _ _ hq, rp_eq2 E hq] at h
  have h1 : (per e q : Int) ∣ ((a : Int) - c) - k := by
    have := Int.dvd_neg.mpr h
    rw [show -(-(a : Int) + (k : Int) - -(c : Int)) = (a : Int) - c - k by omega] at this
    exact this
  have h2 := Int.emod_emod_of_dvd ((a : Int) - c) (Int.dvd_refl (per e q : Int))
  have h3 : ((a : Int) - c) % (per e q : Int) = (k : Int) % (per e q : Int) := Int.emod_eq_emod_iff_emod_sub_eq_zero.mpr (Int.emod_eq_zero_of_dvd h1)
  rw [h3]
  exact Int.emod_eq_of_lt (by omega) (by omega)
theorem fol_in (E : Eff e) {q a k : Nat} (hq : q < e.length) : ∃ m, it e k (it (inv e) a q) = it (inv e) m q := by
  have I := inv_eff E
  have il := inv_len e
  have hl : it (inv e) a q < (inv e).length := it_lt I (by omega)
  have h1 := inv_it I hl k
  rw [inv_inv E] at h1
  refine ⟨((-(k : Int)) % (per (inv e) (it (inv e) a q) : Int)).toNat + a, ?_⟩
  rw [h1, it_add]
  rfl
theorem fol_ex (E : Eff e) {q a c : Nat} (hq : q < e.length) : ∃ k, it e k (it (inv e) a q) = it (inv e) c q := by
  have hl := rp_lt E (c := -(a : Int)) hq
  have pp := per_pos E hq
  have h0 := Int.emod_nonneg ((a : Int) - c) (show (per e q : Int) ≠ 0 by omega)
  refine ⟨(((a : Int) - c) % (per e q : Int)).toNat, ?_⟩
  rw [inv_it E hq, inv_it E hq, ← rp_nat E _ hl, rp_add E _ _ hq, rp_eq2 E hq, Int.toNat_of_nonneg h0]
  have := Int.dvd_neg.mpr (Int.dvd_self_sub_emod (x := (a : Int) - c) (m := (per e q : Int)))
  rw [show -(a : Int) + ((a : Int) - c) % (per e q : Int) - -(c : Int) = -((a : Int) - c - ((a : Int) - c) % (per e q : Int)) by omega]
  exact this
theorem per_back (E : Eff e) {q a : Nat} (hq : q < e.length) : per e (it (inv e) a q) = per e q := by
  rw [inv_it E hq]
  exact per_rp E hq
end
/-! ### families and laps -/
theorem famX_at {cs : List Int} {b : List Nat} {x : Int} {k : Nat} (hk : k < per b (cs.idxOf x)) : (famX cs b x)[k]? = some (cs.getD (it b k (cs.idxOf x)) 0) := by
  unfold famX
  rw [List.getElem?_map, cyc_at hk]
  rfl
theorem famX_nd {cs : List Int} {b : List Nat} {x : Int} (nd : cs.Nodup) (E : Eff b) (hb : b.length = cs.length) (hx : x ∈ cs) : (famX cs b x).Nodup := by
  have hi : cs.idxOf x < b.length := by rw [hb]; exact List.idxOf_lt_length_iff.mpr hx
  have h := cyc_nodup E hi
  unfold famX
  rw [List.Nodup, List.pairwise_map]
  refine List.Pairwise.imp_of_mem (fun {p q} hp hq hpq e => hpq ?_) h
  obtain ⟨k1, e1⟩ := (cyc_mem E hi).mp hp
  obtain ⟨k2, e2⟩ := (cyc_mem E hi).mp hq
  have l1 : p < cs.length := by rw [e1, ← hb]; exact it_lt E hi
  have l2 : q < cs.length := by rw [e2, ← hb]; exact it_lt E hi
  rw [List.getD_eq_getElem?_getD, List.getD_eq_getElem?_getD, List.getElem?_eq_getElem l1, List.getElem?_eq_getElem l2] at e
  exact (List.getElem_inj nd).mp e
theorem famX_self {cs : List Int} {b : List Nat} {x : Int} (E : Eff b) (hb : b.length = cs.length) (hx : x ∈ cs) : x ∈ famX cs b x := by
  have hi : cs.idxOf x < cs.length := List.idxOf_lt_length_iff.mpr hx
  have pp := per_pos E (s := cs.idxOf x) (by omega)
  refine List.mem_iff_getElem?.mpr ⟨0, ?_⟩
  rw [famX_at pp]
  show some (cs.getD (cs.idxOf x) 0) = some x
  rw [List.getD_eq_getElem?_getD, List.getElem?_eq_getElem hi]
  exact congrArg some (List.getElem_idxOf hi)
theorem fams_mono (cs : List Int) (b : List Nat) (acc : List (List Int)) (x y : Int) (h : y ∈ acc.flatten) : y ∈ (famS cs b acc x).flatten := by
  unfold famS
  split
  · exact h
  · rw [List.flatten_append]
    exact List.mem_append_left _ h
theorem fams_all {cs : List Int} {b : List Nat} (E : Eff b) (hb : b.length = cs.length) : ∀ xs : List Int, (∀ x ∈ xs, x ∈ cs) → ∀ x ∈ xs, x ∈ (fams cs b xs).flatten := by
  intro xs
  refine snoc_ind (P := fun xs => (∀ x ∈ xs, x ∈ cs) → ∀ x ∈ xs, x ∈ (fams cs b xs).flatten) (fun _ x h => by cases h) (fun l a ih hs x hx => ?_) xs
  rw [fams_snoc]
  rcases List.mem_append.mp hx with h | h
  · exact fams_mono _ _ _ _ _ (ih (fun y hy => hs y (List.mem_append_left _ hy)) x h)
  · rw [List.mem_singleton.mp h]
    by_cases hm : a ∈ (fams cs b l).flatten
    · exact fams_mono _ _ _ _ _ hm
    · rw [famS_no hm, List.flatten_append]
      refine List.mem_append_right _ ?_
      rw [List.flatten_cons, List.flatten_nil, List.append_nil]
      exact famX_self E hb (hs a (by simp))
section
variable {zs : List Int} {rs : List Ro} (hv : Val zs rs) (t : Int) {i : Nat} (hi : i < rs.length + sumN zs)
include hv hi
theorem pos_k (k m : Nat) : pos zs rs t (lc rs * k + m) i = pos zs rs t m (it (wh rs.length zs rs t) k i) := by
  have we := wh_eff rs.length zs rs t
  have wl := wh_len rs.length zs rs t
  have hit : it (wh rs.length zs rs t) k i < rs.length + sumN zs := by
    have := it_lt we (k := k) (x := i) (by omega)
    omega
  have e0 := Nat.div_add_mod m (lc rs)
  have e1 : lc rs * k + m = (m / lc rs + k) * lc rs + m % lc rs := by
    rw [Nat.add_mul, Nat.mul_comm (m / lc rs), Nat.mul_comm k]
    omega
  have e2 : m = (m / lc rs) * lc rs + m % lc rs := by
    rw [Nat.mul_comm (m / lc rs)]
    omega
  rw [e1, pos_lap zs t hv.rne hv.lc1 hi]
  conv => rhs; rw [e2]
  rw [pos_lap zs t hv.rne hv.lc1 hit, it_add]
theorem pos_kk (k : Nat) : pos zs rs t (lc rs * k) i = it (wh rs.length zs rs t) k i := by
  have we := wh_eff rs.length zs rs t
  have wl := wh_len rs.length zs rs t
  have h := pos_k hv t hi k 0
  rw [Nat.add_zero] at h
  rw [h]
  refine pos_zero hv t ?_
  have := it_lt we (k := k) (x := i) (by omega)
  omega
theorem lft_k (k m : Nat) : lft zs rs (t + (lc rs * k : Nat)) (it (wh rs.length zs rs t) k i) m = lft zs rs t (it (wh rs.length zs rs t) k i) m := by
  have h := lft_sh hv t hi (lc rs * k) m
  rw [pos_kk hv t hi k] at h
  rw [h]
  unfold lft vsh
  rw [pos_k hv t hi, vis_mod hv.rne (m := t + ((lc rs * k + m : Nat) : Int)) (m' := t + (m : Nat)) ⟨(k : Int), by
    rw [Int.natCast_add, Int.natCast_mul]
    omega⟩]
end
/-- who is where a parcel is, after a lap -/
theorem lap_at {zs : List Int} {rs : List Ro} (hv : Val zs rs) (t : Int) {L : Lay Int} (hf : Fits rs.length zs L) {i : Nat} (hi : i < rs.length + sumN zs) : (join (advA 0 zs rs t ((lc rs : Nat) : Int) L))[i]? = some ((join L).getD (ap (inv (wh rs.length zs rs t)) i) 0) := by
  have we := wh_eff rs.length zs rs t
  have wl := wh_len rs.length zs rs t
  have ie := inv_eff we
  have il := inv_len (wh rs.length zs rs t)
  have jl := join_len hf
  have hb : ap (inv (wh rs.length zs rs t)) i < rs.length + sumN zs := by
    have := ap_lt ie (x := i) (by omega)
    omega
  have hx : (join L)[ap (inv (wh rs.length zs rs t)) i]? = some ((join L).getD (ap (inv (wh rs.length zs rs t)) i) 0) := by
    rw [List.getD_eq_getElem?_getD, List.getElem?_eq_getElem (by omega)]
    rfl
  have h := pos_adv hv t hb hf hx (lc rs)
  have e1 := pos_kk hv t hb 1
  rw [Nat.mul_one] at e1
  have e2 : ap (wh rs.length zs rs t) (ap (inv (wh rs.length zs rs t)) i) = i := by
    have := inv_ap ie (i := i) (by omega)
    rw [inv_inv we] at this
    exact this
  have e3 : it (wh rs.length zs rs t) 1 (ap (inv (wh rs.length zs rs t)) i) = i := e2
  rw [e1, e3] at h
  exact h
/-! ### the law's dicts -/
def kO : List V → List Key := fun pl => pl.map fun v => match v with
  | .int i => Sum.inl i
  | .str x => Sum.inr x
  | _ => Sum.inl 0
theorem kO_kV : ∀ {pl : List V}, (∀ v ∈ pl, flI v = true) → (kO pl).map kV = pl
  | [], _ => rfl
  | v :: pl, h => by
    have ih := kO_kV fun x hx => h x (List.mem_cons_of_mem _ hx)
    have h1 := h v (List.mem_cons_self ..)
    unfold kO at ih ⊢
    rw [List.map_cons, List.map_cons, ih]
    cases v <;> first | rfl | cases h1
def ownKV (ts : List (List V)) (xs : List Int) : List (List Key × V) := (ts.zip xs).map fun p => (kO p.1, V.int p.2)
def aftKV (xs ys : List Int) : List (Key × V) := (xs.zip ys).map fun p => (Sum.inl p.1, V.int p.2)
theorem zip_take {α β : Type} {a : List α} {b : List β} {i : Nat} {x : α} {y : β} (h1 : a[i]? = some x) (h2 : b[i]? = some y) : (a.take (i + 1)).zip (b.take (i + 1)) = (a.take i).zip (b.take i) ++ [(x, y)] := by
  rw [List.take_add_one, List.take_add_one, h1, h2, List.zip_append (by
    have := (List.getElem?_eq_some_iff.mp h1).1
    have := (List.getElem?_eq_some_iff.mp h2).1
    rw [List.length_take, List.length_take]
    omega)]
  rfl
theorem own_snoc {ts : List (List V)} {xs : List Int} {i : Nat} {pl : List V} {x : Int} (hf : ∀ t ∈ ts, ∀ v ∈ t, flI v = true) (nd : ts.Nodup) (h1 : ts[i]? = some pl) (h2 : xs[i]? = some x) : putK (ownKV (ts.take i) (xs.take i)) (kO pl) (.int x) = ownKV (ts.take (i + 1)) (xs.take (i + 1)) := by
  rw [putK_new]
  · unfold ownKV
    rw [zip_take h1 h2, List.map_append]
    rfl
  · unfold valV ownKV
    rw [List.find?_eq_none.mpr fun kv hkv => ?_]
    · rfl
    · obtain ⟨p, hp, rfl⟩ := List.mem_map.mp hkv
      simp only [decide_eq_true_eq]
      intro e
      have hp1 := (List.of_mem_zip hp).1
      obtain ⟨j, hj⟩ := List.mem_iff_getElem?.mp hp1
      have hjl := (List.getElem?_eq_some_iff.mp hj).1
      rw [List.length_take] at hjl
      rw [List.getElem?_take_of_lt (by omega)] at hj
      have e2 := congrArg (List.map kV) e
      rw [kO_kV (hf _ (List.mem_of_getElem? hj)), kO_kV (hf _ (List.mem_of_getElem? h1))] at e2
      rw [e2] at hj
      obtain ⟨a1, b1⟩ := List.getElem?_eq_some_iff.mp hj
      obtain ⟨a2, b2⟩ := List.getElem?_eq_some_iff.mp h1
      have := (List.getElem_inj nd).mp (b1.trans b2.symm)
      omega
theorem own_get : ∀ {ts : List (List V)} {xs : List Int} {i : Nat} {pl : List V} {x : Int}, (∀ t ∈ ts, ∀ v ∈ t, flI v = true) → ts.Nodup → ts[i]? = some pl → xs[i]? = some x → valV (ownKV ts xs) (kO pl) = some (.int x)
  | [], _, _, _, _, _, _, h, _ => by simp at h
  | _ :: _, [], _, _, _, _, _, _, h => by simp at h
  | u :: ts, z :: xs, 0, pl, x, hf, nd, h1, h2 => by
    obtain rfl := Option.some.inj h1
    obtain rfl := Option.some.inj h2
    unfold valV ownKV
    rw [List.zip_cons_cons, List.map_cons, List.find?_cons_of_pos (by simp)]
    rfl
  | u :: ts, z :: xs, i + 1, pl, x, hf, nd, h1, h2 => by
    obtain ⟨n1, n2⟩ := List.nodup_cons.mp nd
    have hf2 : ∀ t ∈ ts, ∀ v ∈ t, flI v = true := fun t ht => hf t (List.mem_cons_of_mem _ ht)
    have h1' : ts[i]? = some pl := h1
    have h2' : xs[i]? = some x := h2
    have ih := own_get hf2 n2 h1' h2'
    have hne : ¬ kO u = kO pl := fun e => by
      have e2 := congrArg (List.map kV) e
      rw [kO_kV (hf u (List.mem_cons_self ..)), kO_kV (hf2 _ (List.mem_of_getElem? h1'))] at e2
      rw [e2] at n1
      exact n1 (List.mem_of_getElem? h1')
    unfold valV ownKV at ih ⊢
    rw [List.zip_cons_cons, List.map_cons, List.find?_cons_of_neg (by simpa using hne)]
    exact ih
theorem aft_snoc {xs ys : List Int} {i : Nat} {x y : Int} (nd : xs.Nodup) (h1 : xs[i]? = some x) (h2 : ys[i]? = some y) : putK (aftKV (xs.take i) (ys.take i)) (Sum.inl x) (.int y) = aftKV (xs.take (i + 1)) (ys.take (i + 1)) := by
  rw [putK_new]
  · unfold aftKV
    rw [zip_take h1 h2, List.map_append]
    rfl
  · unfold valV aftKV
    rw [List.find?_eq_none.mpr fun kv hkv => ?_]
    · rfl
    · obtain ⟨p, hp, rfl⟩ := List.mem_map.mp hkv
      simp only [decide_eq_true_eq]
      intro e
      have hp1 := (List.of_mem_zip hp).1
      rw [Sum.inl.inj e] at hp1
      exact nodup_take nd h1 hp1
theorem aft_get : ∀ {xs ys : List Int} {i : Nat} {x y : Int}, xs.Nodup → xs[i]? = some x → ys[i]? = some y → valV (aftKV xs ys) (Sum.inl x) = some (.int y)
  | [], _, _, _, _, _, h, _ => by simp at h
  | _ :: _, [], _, _, _, _, _, h => by simp at h
  | u :: xs, z :: ys, 0, x, y, nd, h1, h2 => by
    obtain rfl := Option.some.inj h1
    obtain rfl := Option.some.inj h2
    unfold valV aftKV
    rw [List.zip_cons_cons, List.map_cons, List.find?_cons_of_pos (by simp)]
    rfl
  | u :: xs, z :: ys, i + 1, x, y, nd, h1, h2 => by
    obtain ⟨n1, n2⟩ := List.nodup_cons.mp nd
    have h1' : xs[i]? = some x := h1
    have h2' : ys[i]? = some y := h2
    have ih := aft_get n2 h1' h2'
    have hne : ¬ (Sum.inl u : Key) = Sum.inl x := fun e => n1 (by rw [Sum.inl.inj e]; exact List.mem_of_getElem? h1')
    unfold valV aftKV at ih ⊢
    rw [List.zip_cons_cons, List.map_cons, List.find?_cons_of_neg (by simpa using hne)]
    exact ih
theorem own_len (ts : List (List V)) (xs : List Int) : (ownKV ts xs).length ≤ xs.length := by
  unfold ownKV
  rw [List.length_map, List.length_zip]
  exact Nat.min_le_right _ _
theorem aft_len (xs ys : List Int) : (aftKV xs ys).length ≤ xs.length := by
  unfold aftKV
  rw [List.length_map, List.length_zip]
  exact Nat.min_le_left _ _
end Sv


set_option maxHeartbeats 8000000
namespace Sv
open PySem PySem.Spec PyProof.Rows L2
theorem pos_run19 {zs : List Int} {rs : List Ro} (hv : Val zs rs) (t : Int) {L : Lay Int} (hf : Fits rs.length zs L) {i : Nat} {x : Int} (hi : (join L)[i]? = some x) (k : Nat) : (join (run rs t k L))[pos zs rs t k i]? = some x := by
  have jl := join_len hf
  have il := (List.getElem?_eq_some_iff.mp hi).1
  rw [← advA_nat 0 zs hv.rne hv.lc1 t k hf]
  unfold pos
  rw [join_advA, moveA_at 0 (effT_eff ..) (by rw [effT_len, jl]) (by rw [effT_len]; omega)]
  exact hi
/-! ### plans that are valid -/
theorem badS_ok {zs : List Int} (h1 : 1 ≤ zs.length ∧ zs.length ≤ 12) (h2 : ∀ z ∈ zs, 0 ≤ z ∧ z ≤ 9) : badS zs = none := by
  unfold badS
  rw [if_pos h1, fst_none (p := okZ) (l := zs) (k := 0) fun j z hz => decide_eq_true (h2 z (List.mem_of_getElem? hz))]
  rfl
theorem badR_ok {n : Int} {rs : List Ro} (h1 : 1 ≤ rs.length ∧ rs.length ≤ 6) (h2 : ∀ r ∈ rs, okR n r = true) : badR n rs = none := by
  unfold badR
  rw [if_pos h1, fst_none (p := okR n) (l := rs) (k := 0) fun j r hr => h2 r (List.mem_of_getElem? hr)]
  rfl
theorem val_mk {zs : List Int} {rs : List Ro} (h1 : 1 ≤ zs.length ∧ zs.length ≤ 12) (h2 : ∀ z ∈ zs, 0 ≤ z ∧ z ≤ 9) (h3 : 1 ≤ rs.length ∧ rs.length ≤ 6) (h4 : ∀ r ∈ rs, okR zs.length r = true) : Val zs rs := val_of (by
  unfold bad
  rw [badS_ok h1 h2, badR_ok h3 h4]
  rfl)
theorem ok_start {zs : List Int} {rs : List Ro} (hv : Val zs rs) : StOk zs rs 0 (spl rs.length zs (parc (rs.length + sumN zs))) ∧ join (spl rs.length zs (parc (rs.length + sumN zs))) = parc (rs.length + sumN zs) := by
  have n120 := hv.num120
  have e : join (spl rs.length zs (parc (rs.length + sumN zs))) = parc (rs.length + sumN zs) := join_spl (parc_len _)
  refine ⟨⟨⟨by decide, by decide⟩, spl_fits (parc_len _), ?_⟩, e⟩
  rw [e]
  refine ⟨fun x hx => ?_, ?_⟩
  · obtain ⟨i, hi, rfl⟩ := List.mem_map.mp hx
    have := List.mem_range.mp hi
    exact ⟨by omega, by omega⟩
  · unfold parc
    rw [List.Nodup, List.pairwise_map]
    refine List.Pairwise.imp (fun h e => ?_) (List.pairwise_lt_range (n := rs.length + sumN zs))
    omega
/-! ### carriers in a row at one shelf -/
def rowR (w : Nat) : List Ro := List.replicate w [some 0]
theorem rowR_len (w : Nat) : (rowR w).length = w := by unfold rowR; simp
theorem prs_row (w : Nat) (m : Int) : ∀ k, k ≤ w → prs (rowR w) m k = (List.range k).map fun c => (c, (0 : Int))
  | 0, _ => rfl
  | k + 1, h => by
    unfold prs
    rw [prs_row w m k (by omega)]
    have e : (rowR w)[k]? = some [some 0] := by
      unfold rowR
      rw [List.getElem?_replicate, if_pos (by omega)]
    have e2 : ent [some 0] m = some 0 := by
      unfold ent
      rw [show (([some (0 : Int)] : Ro).length : Int) = 1 from rfl, Int.emod_one]
      rfl
    rw [e]
    dsimp only
    rw [e2, List.range_succ, List.map_append]
    rfl
theorem vis_row (w : Nat) (m : Int) : vis (rowR w) m = (List.range w).map fun c => (c, 0) := by
  unfold vis
  rw [rowR_len, prs_row w m w (Nat.le_refl _), List.map_map]
  rfl
theorem steps_row {cs q : List Int} (hw : cs.length ≤ q.length) : ∀ j, j ≤ cs.length → steps ((List.range j).map fun c => (c, 0)) (cs, [q]) = ((q ++ cs).take j ++ cs.drop j, [(q ++ cs.take j).drop j])
  | 0, _ => by
    show (cs, [q]) = _
    simp
  | j + 1, h => by
    rw [List.range_succ, List.map_append]
    show steps (((List.range j).map fun c => (c, 0)) ++ [(j, 0)]) (cs, [q]) = _
    rw [steps_snoc, steps_row hw j (by omega)]
    have lt : ((q ++ cs).take j).length = j := by rw [List.length_take, List.length_append]; omega
    have dj : cs.drop j = (cs[j]'(by omega)) :: cs.drop (j + 1) := List.drop_eq_getElem_cons (by omega)
    have hc : ((q ++ cs).take j ++ cs.drop j)[j]? = some (cs[j]'(by omega)) := by
      rw [List.getElem?_append_right (by omega), lt, dj, Nat.sub_self]
      rfl
    have hl : j < (q ++ cs.take j).length := by rw [List.length_append]; omega
    have hq : (q ++ cs.take j).drop j = (q[j]'(by omega)) :: (q ++ cs.take j).drop (j + 1) := by
      rw [List.drop_eq_getElem_cons hl, List.getElem_append_left (by omega)]
    have hx : (q ++ cs)[j]? = some (q[j]'(by omega)) := by rw [List.getElem?_append_left (by omega), List.getElem?_eq_getElem (by omega)]
    unfold step1
    dsimp only
    rw [hc, show ([(q ++ cs.take j).drop j] : List (List Int))[0]? = some ((q ++ cs.take j).drop j) from rfl]
    dsimp only
    rw [hq]
    have e1 : ((q ++ cs).take j ++ cs.drop j).set j (q[j]'(by omega)) = (q ++ cs).take (j + 1) ++ cs.drop (j + 1) := by
      rw [List.set_append_right _ _ (by omega), lt, Nat.sub_self, dj, List.set_cons_zero, List.take_add_one, hx]
      simp
    have e2 : (q ++ cs.take j).drop (j + 1) ++ [cs[j]'(by omega)] = (q ++ cs.take (j + 1)).drop (j + 1) := by
      rw [List.take_add_one, List.getElem?_eq_getElem (by omega), Option.toList_some, ← List.append_assoc]
      exact (List.drop_append_of_le_length (by omega)).symm
    show (((q ++ cs).take j ++ cs.drop j).set j (q[j]'(by omega)), [(q ++ cs.take j).drop (j + 1) ++ [cs[j]'(by omega)]]) = _
    rw [e1, e2]
theorem tick_row {t : Int} {cs q : List Int} (hw : cs.length ≤ q.length) : tickL (rowR cs.length) t (cs, [q]) = ((q ++ cs).take cs.length, [(q ++ cs).drop cs.length]) := by
  unfold tickL
  rw [vis_row, steps_row hw cs.length (Nat.le_refl _), List.drop_length, List.take_length, List.append_nil]
theorem rotq_at {l : List Int} {w j : Nat} (hw : w ≤ l.length) (hj : j < l.length) : (l.drop w ++ l.take w)[j]? = l[(j + w) % l.length]? := by
  by_cases h : j < l.length - w
  · rw [Nat.mod_eq_of_lt (show j + w < l.length by omega), List.getElem?_append_left (by rw [List.length_drop]; exact h), List.getElem?_drop, Nat.add_comm]
  · rw [List.getElem?_append_right (by rw [List.length_drop]; omega), List.length_drop, List.getElem?_take_of_lt (by omega)]
    congr 1
    rw [Nat.mod_eq_sub_mod (by omega), Nat.mod_eq_of_lt (by omega)]
    omega
theorem run_row {t : Int} {cs q : List Int} (hw : cs.length ≤ q.length) : ∀ k : Nat, ∃ cs' q' : List Int, run (rowR cs.length) t k (cs, [q]) = (cs', [q']) ∧ cs'.length = cs.length ∧ q'.length = q.length ∧ ∀ j, j < q.length + cs.length → (q' ++ cs')[j]? = (q ++ cs)[(j + k * cs.length) % (q.length + cs.length)]?
  | 0 => ⟨cs, q, rfl, rfl, rfl, fun j hj => by rw [Nat.zero_mul, Nat.add_zero, Nat.mod_eq_of_lt hj]⟩
  | k + 1 => by
    obtain ⟨cs', q', e, l1, l2, h⟩ := run_row (t := t) hw k
    refine ⟨(q' ++ cs').take cs'.length, (q' ++ cs').drop cs'.length, ?_, ?_, ?_, fun j hj => ?_⟩
    · show tickL (rowR cs.length) (t + (k : Nat)) (run (rowR cs.length) t k (cs, [q])) = _
      rw [e, ← l1, tick_row (by omega)]
    · rw [List.length_take, List.length_append]
      omega
    · rw [List.length_drop, List.length_append]
      omega
    · have hl : (q' ++ cs').length = q.length + cs.length := by rw [List.length_append]; omega
      rw [rotq_at (by rw [List.length_append]; omega) (by omega), hl, h _ (Nat.mod_lt _ (by omega)), l1]
      congr 1
      rw [Nat.mod_add_mod, Nat.succ_mul]
      congr 1
      omega
/-! ### one carrier at one shelf -/
abbrev zs1 (s : Nat) : List Int := [(s : Nat)]
theorem val_row {s w : Nat} (hs : s ≤ 9) (h1 : 1 ≤ w) (h2 : w ≤ 6) : Val (zs1 s) (rowR w) := by
  refine val_mk ⟨Nat.le_refl _, (by show 1 ≤ 12; decide)⟩ (fun z hz => ?_) (by rw [rowR_len]; exact ⟨h1, h2⟩) fun r hr => ?_
  · rw [List.mem_singleton.mp hz]
    omega
  · unfold rowR at hr
    rw [(List.mem_replicate.mp hr).2]
    rfl
theorem sum1 (s : Nat) : sumN (zs1 s) = s := by unfold sumN; simp
theorem lc_row (w : Nat) : lc (rowR w) = 1 := by
  have h : ∀ k, lc (List.replicate k [some 0]) = 1 := by
    intro k
    induction k with
    | zero => rfl
    | succ k ih =>
      rw [List.replicate_succ', lc_snoc, ih]
      obtain ⟨r1, _, _, r4⟩ := rtp_spec (r := ([some 0] : Ro)) (by simp)
      have : rtp ([some 0] : Ro) = 1 := Nat.le_antisymm r4 r1
      rw [this]
      rfl
  exact h w
/-- all parcels at their first places -/
theorem start_row {s w : Nat} : spl (rowR w).length (zs1 s) (parc ((rowR w).length + sumN (zs1 s))) = ((parc (w + s)).take w, [(parc (w + s)).drop w]) := by
  rw [rowR_len, sum1]
  unfold spl segs segs
  rw [List.take_of_length_le (l := (parc (w + s)).drop w) (by rw [List.length_drop, parc_len, Int.toNat_natCast]; omega)]
theorem parc_drop {n w : Nat} (h : w ≤ n) {j : Nat} (hj : j < n) : ((parc n).drop w ++ (parc n).take w)[j]? = some (1 + (((j + w) % n : Nat) : Int)) := by
  have hl := parc_len n
  rw [rotq_at (by omega) (by omega), hl, parc_at (Nat.mod_lt _ (by omega))]
/-- the queue behind the first carrier's shelf, so many ticks later -/
theorem run_start {s w : Nat} (h1 : 1 ≤ w) (hw : w ≤ s) (t : Int) (k : Nat) : ∃ cs' q' : List Int, run (rowR w) t k ((parc (w + s)).take w, [(parc (w + s)).drop w]) = (cs', [q']) ∧ cs'.length = w ∧ q'.length = s ∧ ∀ j, j < s + w → (q' ++ cs')[j]? = some (1 + (((j + k * w + w) % (s + w) : Nat) : Int)) := by
  have lp := parc_len (w + s)
  have l1 : ((parc (w + s)).take w).length = w := by rw [List.length_take]; omega
  have l2 : ((parc (w + s)).drop w).length = s := by rw [List.length_drop]; omega
  obtain ⟨cs', q', e, a1, a2, a3⟩ := run_row (t := t) (cs := (parc (w + s)).take w) (q := (parc (w + s)).drop w) (by omega) k
  rw [l1] at e a1 a3
  rw [l2] at a2 a3
  refine ⟨cs', q', e, a1, a2, fun j hj => ?_⟩
  rw [a3 j hj, parc_drop (by omega) (by have := Nat.mod_lt (j + k * w) (show 0 < s + w by omega); omega), Nat.add_comm w s, Nat.mod_add_mod]
section
variable {s : Nat} (hs : s ≤ 9)
include hs
/-- one carrier: the parcel of a place after k ticks -/
theorem one_at (t : Int) (k : Nat) {p : Nat} (hp : p < s + 1) : (join (run (rowR 1) t k ((parc (1 + s)).take 1, [(parc (1 + s)).drop 1])))[p]? = some (1 + (((p + k) % (s + 1) : Nat) : Int)) := by
  by_cases h0 : s = 0
  · subst h0
    have e : ∀ k, run (rowR 1) t k ((parc (1 + 0)).take 1, [(parc (1 + 0)).drop 1]) = ([1], [[]]) := by
      intro k
      induction k with
      | zero => rfl
      | succ k ih =>
        show tickL (rowR 1) (t + (k : Nat)) (run (rowR 1) t k _) = _
        rw [ih]
        unfold tickL
        rw [vis_row]
        rfl
    rw [e k]
    have : p = 0 := by omega
    subst this
    rw [show (0 + k) % (0 + 1) = 0 from Nat.mod_one _]
    rfl
  · obtain ⟨cs', q', e, a1, a2, a3⟩ := run_start (s := s) (w := 1) (Nat.le_refl _) (by omega) t k
    rw [e]
    obtain ⟨c, rfl⟩ : ∃ c, cs' = [c] := by
      match cs', a1 with
      | [c], _ => exact ⟨c, rfl⟩
    show ([c] ++ [q'].flatten)[p]? = _
    rw [show ([q'] : List (List Int)).flatten = q' by simp]
    cases p with
    | zero =>
      have h := a3 s (by omega)
      rw [List.getElem?_append_right (by omega), a2, Nat.sub_self] at h
      show some c = _
      have h2 : some c = some (1 + (((s + k * 1 + 1) % (s + 1) : Nat) : Int)) := h
      rw [h2, show s + k * 1 + 1 = (0 + k) + (s + 1) by omega, Nat.add_mod_right]
    | succ p =>
      have h := a3 p (by omega)
      rw [List.getElem?_append_left (by omega)] at h
      show q'[p]? = _
      rw [h, show p + k * 1 + 1 = p + 1 + k by omega]
theorem one_pos (t : Int) (k : Nat) {i : Nat} (hi : i < s + 1) : (pos (zs1 s) (rowR 1) t k i + k) % (s + 1) = i := by
  have hv := val_row (s := s) (w := 1) hs (Nat.le_refl _) (by decide)
  have ok := ok_start hv
  rw [start_row] at ok
  have hx : (join ((parc (1 + s)).take 1, [(parc (1 + s)).drop 1]))[i]? = some (1 + (i : Nat) : Int) := by
    rw [ok.2, rowR_len, sum1]
    exact parc_at (by omega)
  have h := pos_run19 hv t ok.1.f hx k
  have pl := pos_lt hv t (i := i) (by rw [rowR_len, sum1]; omega) k
  rw [rowR_len, sum1] at pl
  rw [one_at hs t k (by omega)] at h
  have := Option.some.inj h
  omega
theorem one_it (t : Int) (k : Nat) {i : Nat} (hi : i < s + 1) : (it (wh (rowR 1).length (zs1 s) (rowR 1) t) k i + k) % (s + 1) = i := by
  have hv := val_row (s := s) (w := 1) hs (Nat.le_refl _) (by decide)
  have h := pos_kk hv t (i := i) (by rw [rowR_len, sum1]; omega) k
  rw [lc_row, Nat.one_mul] at h
  rw [← h]
  exact one_pos hs t k hi
theorem one_itlt (t : Int) (k : Nat) {i : Nat} (hi : i < s + 1) : it (wh (rowR 1).length (zs1 s) (rowR 1) t) k i < s + 1 := by
  have we := wh_eff (rowR 1).length (zs1 s) (rowR 1) t
  have wl := wh_len (rowR 1).length (zs1 s) (rowR 1) t
  rw [sum1, rowR_len] at wl
  have := it_lt we (k := k) (x := i) (by rw [rowR_len]; omega)
  rw [rowR_len] at this ⊢
  omega
theorem one_per (t : Int) {i : Nat} (hi : i < s + 1) : per (wh (rowR 1).length (zs1 s) (rowR 1) t) i = s + 1 := by
  have we := wh_eff (rowR 1).length (zs1 s) (rowR 1) t
  have wl := wh_len (rowR 1).length (zs1 s) (rowR 1) t
  rw [sum1, rowR_len] at wl
  have hil : i < (wh (rowR 1).length (zs1 s) (rowR 1) t).length := by rw [rowR_len]; omega
  have key : ∀ k, it (wh (rowR 1).length (zs1 s) (rowR 1) t) k i = i ↔ s + 1 ∣ k := fun k => by
    have h := one_it hs t k hi
    have hl := one_itlt hs t k hi
    constructor
    · intro e
      rw [e] at h
      have h1 : (i + k) % (s + 1) = i % (s + 1) := by rw [h, Nat.mod_eq_of_lt hi]
      have h2 := Nat.sub_mod_eq_zero_of_mod_eq h1
      rw [Nat.add_sub_cancel_left] at h2
      exact Nat.dvd_of_mod_eq_zero h2
    · rintro ⟨m, rfl⟩
      rw [Nat.add_mul_mod_self_left, Nat.mod_eq_of_lt hl] at h
      exact h
  refine Nat.dvd_antisymm ?_ ?_
  · exact (it_eq_iff we hil _).mp ((key _).mpr (Nat.dvd_refl _))
  · exact (key _).mp ((it_eq_iff we hil _).mpr (Nat.dvd_refl _))
theorem one_ord (t : Int) : ord (wh (rowR 1).length (zs1 s) (rowR 1) t) = s + 1 := by
  have we := wh_eff (rowR 1).length (zs1 s) (rowR 1) t
  have wl := wh_len (rowR 1).length (zs1 s) (rowR 1) t
  rw [sum1, rowR_len] at wl
  refine Nat.dvd_antisymm (ord_dvd we fun p hp => ?_) ?_
  · rw [one_per hs t (by rw [rowR_len] at hp; omega)]
    exact Nat.dvd_refl _
  · rw [← one_per hs t (i := 0) (by omega)]
    exact per_dvd_ord we (by rw [rowR_len]; omega)
theorem one_perT (t : Int) : perT (zs1 s) (rowR 1) t = s + 1 := by
  unfold perT
  rw [lc_row, Nat.one_mul, one_ord hs t]
/-- the family of all -/
theorem one_fam (t : Int) : famX (parc (1 + s)) (inv (wh (rowR 1).length (zs1 s) (rowR 1) t)) 1 = parc (1 + s) := by
  have we := wh_eff (rowR 1).length (zs1 s) (rowR 1) t
  have wl := wh_len (rowR 1).length (zs1 s) (rowR 1) t
  rw [sum1, rowR_len] at wl
  have ie := inv_eff we
  have il := inv_len (wh (rowR 1).length (zs1 s) (rowR 1) t)
  have nd : (parc (1 + s)).Nodup := by
    have h := (ok_start (val_row (s := s) (w := 1) hs (Nat.le_refl _) (by decide))).1.p.2
    rw [(ok_start (val_row (s := s) (w := 1) hs (Nat.le_refl _) (by decide))).2, rowR_len, sum1] at h
    exact h
  have e0 : (parc (1 + s)).idxOf 1 = 0 := idx_at2 nd (parc_at (by omega))
  have h0 : 0 < (wh (rowR 1).length (zs1 s) (rowR 1) t).length := by rw [rowR_len]; omega
  have ep := inv_per we h0
  rw [one_per hs t (i := 0) (by omega)] at ep
  have fl := famX_len (parc (1 + s)) (inv (wh (rowR 1).length (zs1 s) (rowR 1) t)) 1
  rw [e0, ep] at fl
  have pl := parc_len (1 + s)
  refine List.ext_getElem? fun k => ?_
  by_cases hk : k < s + 1
  · rw [famX_at (by rw [e0, ep]; exact hk), e0, parc_at (by omega)]
    -- who is at place k: k laps back from the first place
    have hb : it (inv (wh (rowR 1).length (zs1 s) (rowR 1) t)) k 0 = k := by
      have hl : it (inv (wh (rowR 1).length (zs1 s) (rowR 1) t)) k 0 < s + 1 := by
        have := it_lt ie (k := k) (x := 0) (by omega)
        rw [rowR_len] at this ⊢
        rw [rowR_len] at il
        omega
      have h1 := one_it hs t k hl
      have h2 : it (wh (rowR 1).length (zs1 s) (rowR 1) t) k (it (inv (wh (rowR 1).length (zs1 s) (rowR 1) t)) k 0) = 0 := by
        have hl2 := rp_lt we (c := -(k : Int)) h0
        rw [inv_it we h0, ← rp_nat we k hl2, rp_add we _ _ h0, show -(k : Int) + (k : Int) = 0 by omega, rp_zero]
      rw [h2, Nat.zero_add, Nat.mod_eq_of_lt hk] at h1
      exact h1.symm
    rw [hb, List.getD_eq_getElem?_getD, parc_at (by omega)]
    rfl
  · rw [List.getElem?_eq_none (by omega), List.getElem?_eq_none (by omega)]
theorem fams_stay {cs : List Int} {b : List Nat} : ∀ (l : List Int) (acc : List (List Int)), (∀ x ∈ l, x ∈ acc.flatten) → l.foldl (famS cs b) acc = acc
  | [], _, _ => rfl
  | x :: l, acc, h => by
    rw [List.foldl_cons, famS_yes (h x (List.mem_cons_self ..))]
    exact fams_stay l acc fun y hy => h y (List.mem_cons_of_mem _ hy)
theorem one_fams (t : Int) : fams (parc (1 + s)) (inv (wh (rowR 1).length (zs1 s) (rowR 1) t)) (parc (1 + s)) = [parc (1 + s)] := by
  have e : parc (1 + s) = 1 :: (parc (1 + s)).tail := by
    cases h : parc (1 + s) with
    | nil =>
      have := parc_len (1 + s)
      rw [h] at this
      have h5 : ([] : List Int).length = 0 := rfl
      omega
    | cons a l =>
      have := parc_at (n := 1 + s) (i := 0) (by omega)
      rw [h] at this
      have e1 : a = 1 + ((0 : Nat) : Int) := Option.some.inj this
      rw [e1]
      rfl
  have h1 : famS (parc (1 + s)) (inv (wh (rowR 1).length (zs1 s) (rowR 1) t)) [] 1 = [parc (1 + s)] := by
    rw [famS_no (by simp), one_fam hs t]
    rfl
  unfold fams
  conv => lhs; arg 3; rw [e]
  rw [List.foldl_cons, h1]
  refine fams_stay hs (parc (1 + s)).tail [parc (1 + s)] (fun x hx => ?_)
  rw [List.flatten_cons, List.flatten_nil, List.append_nil]
  exact List.mem_of_mem_tail hx
end
/-! ### every so many -/
theorem cnt_mod {N i : Nat} (hi : i < N) (c : Nat) : cntM (fun k => decide (k % N = i)) c = c / N + (if i < c % N then 1 else 0) := by
  have hN : 0 < N := by omega
  have per : ∀ j, (fun k => decide (k % N = i)) (N + j) = (fun k => decide (k % N = i)) j := fun j => by
    dsimp only
    rw [Nat.add_mod_left]
  have low : ∀ c, c ≤ N → cntM (fun k => decide (k % N = i)) c = if i < c then 1 else 0 := by
    intro c
    induction c with
    | zero => intro _; rfl
    | succ c ih =>
      intro h
      rw [cntM_succ, ih (by omega)]
      rw [Nat.mod_eq_of_lt (show c < N by omega)]
      by_cases e : c = i
      · subst e
        simp
      · rw [show decide (c = i) = false from decide_eq_false e]
        by_cases h2 : i < c
        · rw [if_pos h2, if_neg Bool.false_ne_true, if_pos (by omega)]
        · rw [if_neg h2, if_neg Bool.false_ne_true, if_neg (by omega)]
  have h := cntM_per (f := fun k => decide (k % N = i)) (W := N) per (c % N) (c / N)
  rw [Nat.mul_comm, Nat.div_add_mod, low N (Nat.le_refl _), if_pos hi, Nat.mul_one, low (c % N) (Nat.le_of_lt (Nat.mod_lt _ hN))] at h
  exact h
section
variable {s : Nat} (hs : s ≤ 9)
include hs
theorem one_lft (t : Int) {i : Nat} (hi : i < s + 1) (k : Nat) : lft (zs1 s) (rowR 1) t i k = if k % (s + 1) = i then some 0 else none := by
  have hv := val_row (s := s) (w := 1) hs (Nat.le_refl _) (by decide)
  have pl := pos_lt hv t (i := i) (by rw [rowR_len, sum1]; omega) k
  rw [rowR_len, sum1] at pl
  have h := one_pos hs t k hi
  unfold lft vsh
  rw [vis_row, rowR_len]
  by_cases h0 : pos (zs1 s) (rowR 1) t k i = 0
  · rw [h0] at h ⊢
    rw [Nat.zero_add] at h
    rw [if_pos (by decide), if_pos h]
    rfl
  · rw [if_neg (by omega), if_neg fun e => h0 ?_]
    -- k and what is added to it leave the same rest
    have h1 : (pos (zs1 s) (rowR 1) t k i + k) % (s + 1) = k % (s + 1) := by rw [h, e]
    have h2 : (k + pos (zs1 s) (rowR 1) t k i) % (s + 1) = k % (s + 1) := by rw [Nat.add_comm]; exact h1
    have h3 := Nat.sub_mod_eq_zero_of_mod_eq h2
    rw [Nat.add_sub_cancel_left, Nat.mod_eq_of_lt (by omega)] at h3
    exact h3
theorem one_lfB (t : Int) {i : Nat} (hi : i < s + 1) : lfB (zs1 s) (rowR 1) t i 0 = fun k => decide (k % (s + 1) = i) := by
  funext k
  unfold lfB
  rw [one_lft hs t hi k]
  refine decide_eq_decide.mpr ?_
  by_cases h : k % (s + 1) = i
  · rw [if_pos h]
    exact ⟨fun _ => h, fun _ => rfl⟩
  · rw [if_neg h]
    exact ⟨fun e => (by cases e), fun e => absurd e h⟩
/-- left for the n-th time -/
theorem one_nth (t : Int) {i : Nat} (hi : i < s + 1) {n : Int} (hn : 1 ≤ n) {v : V} (h : NthV (lfB (zs1 s) (rowR 1) t i 0) n v) : v = .int ((i : Nat) + 1 + (n - 1) * ((s : Nat) + 1)) := by
  rw [one_lfB hs t hi] at h
  obtain ⟨m0, rfl⟩ : ∃ m0 : Nat, n = (m0 : Int) + 1 := ⟨(n - 1).toNat, by omega⟩
  have f1 : (fun k => decide (k % (s + 1) = i)) (i + m0 * (s + 1)) = true := by
    dsimp only
    rw [Nat.add_mul_mod_self_right, Nat.mod_eq_of_lt hi]
    exact decide_eq_true rfl
  have c1 : cntM (fun k => decide (k % (s + 1) = i)) (i + m0 * (s + 1)) = m0 := by
    rw [cnt_mod hi, Nat.add_mul_mod_self_right, Nat.mod_eq_of_lt hi, if_neg (by omega), Nat.add_mul_div_right _ _ (by omega), Nat.div_eq_of_lt hi, Nat.zero_add, Nat.add_zero]
  rcases h with ⟨_, h⟩ | ⟨m, rfl, h1, h2⟩
  · rw [h] at f1
    cases f1
  · have e : m = i + m0 * (s + 1) := cntM_uniq h1 f1 (by rw [c1]; omega)
    rw [e]
    congr 1
    rw [Int.natCast_add, Int.natCast_mul, Int.natCast_add]
    have : ((m0 : Int) + 1 - 1) = m0 := by omega
    rw [this]
    have : (((1 : Nat) : Int)) = 1 := rfl
    rw [this]
    omega
/-- how often it is carried -/
theorem one_car (t : Int) {i : Nat} (hi : i < s + 1) (c : Nat) : cntM (poB (zs1 s) (rowR 1) t i 0) c = if i = 0 then c / (s + 1) else if i ≤ c then (c - i) / (s + 1) + 1 else 0 := by
  have e : poB (zs1 s) (rowR 1) t i 0 = fun k => decide ((k + 1) % (s + 1) = i) := by
    funext k
    have hv := val_row (s := s) (w := 1) hs (Nat.le_refl _) (by decide)
    have pl := pos_lt hv t (i := i) (by rw [rowR_len, sum1]; omega) (k + 1)
    rw [rowR_len, sum1] at pl
    have h := one_pos hs t (k + 1) hi
    unfold poB
    refine decide_eq_decide.mpr ⟨fun e => ?_, fun e => ?_⟩
    · have e2 : pos (zs1 s) (rowR 1) t (k + 1) i = 0 := by omega
      rw [e2, Nat.zero_add] at h
      exact h
    · have h2 : ((k + 1) + pos (zs1 s) (rowR 1) t (k + 1) i) % (s + 1) = (k + 1) % (s + 1) := by rw [Nat.add_comm, h, e]
      have h3 := Nat.sub_mod_eq_zero_of_mod_eq h2
      rw [Nat.add_sub_cancel_left, Nat.mod_eq_of_lt (by omega)] at h3
      omega
  rw [e]
  have sh : cntM (fun k => decide (k % (s + 1) = i)) (c + 1) = cntM (fun k => decide (k % (s + 1) = i)) 1 + cntM (fun k => decide ((k + 1) % (s + 1) = i)) c := by
    rw [Nat.add_comm c 1, cntM_add]
    congr 2
    funext k
    rw [Nat.add_comm 1 k]
  rw [cnt_mod hi, cnt_mod hi] at sh
  have N0 : 0 < s + 1 := by omega
  have dm : ∀ a d r : Nat, r + (s + 1) * d = a → r < s + 1 → a / (s + 1) = d ∧ a % (s + 1) = r := fun a d r h1 h2 => (Nat.div_mod_unique N0).mpr ⟨h1, h2⟩
  have d1 := Nat.div_add_mod c (s + 1)
  have l1 := Nat.mod_lt c N0
  generalize hX : cntM (fun k => decide ((k + 1) % (s + 1) = i)) c = X at sh ⊢
  generalize hq : c / (s + 1) = q at d1
  generalize hr : c % (s + 1) = r at d1 l1
  -- one more
  have c1 : (r + 1 < s + 1 ∧ (c + 1) / (s + 1) = q ∧ (c + 1) % (s + 1) = r + 1) ∨ (r + 1 = s + 1 ∧ (c + 1) / (s + 1) = q + 1 ∧ (c + 1) % (s + 1) = 0) := by
    by_cases h : r + 1 < s + 1
    · exact .inl ⟨h, dm (c + 1) q (r + 1) (by omega) h⟩
    · exact .inr ⟨by omega, dm (c + 1) (q + 1) 0 (by rw [Nat.mul_add]; omega) N0⟩
  have c2 : (s = 0 ∧ 1 / (s + 1) = 1 ∧ 1 % (s + 1) = 0) ∨ (0 < s ∧ 1 / (s + 1) = 0 ∧ 1 % (s + 1) = 1) := by
    by_cases h : s = 0
    · subst h
      exact .inl ⟨rfl, rfl, rfl⟩
    · exact .inr ⟨by omega, dm 1 0 1 (by omega) (by omega)⟩
  have c3 : i ≤ r → (c - i) / (s + 1) = q := fun h => (dm (c - i) q (r - i) (by omega) (by omega)).1
  have c4 : r < i → 0 < q → (c - i) / (s + 1) = q - 1 := fun h h0 => by
    refine (dm (c - i) (q - 1) (r + (s + 1) - i) ?_ (by omega)).1
    obtain ⟨q', rfl⟩ : ∃ q', q = q' + 1 := ⟨q - 1, by omega⟩
    rw [Nat.mul_add] at d1
    rw [Nat.add_sub_cancel]
    omega
  have c5 : q = 0 → c = r := fun h => by rw [h] at d1; omega
  have c6 : 0 < q → s + 1 ≤ c := fun h => by
    have := Nat.mul_le_mul_left (s + 1) (show 1 ≤ q from h)
    omega
  rcases c1 with ⟨g1, g2, g3⟩ | ⟨g1, g2, g3⟩ <;> rcases c2 with ⟨h1, h2, h3⟩ | ⟨h1, h2, h3⟩ <;> rw [g2, g3, h2, h3] at sh
  all_goals
    by_cases hi0 : i = 0
    · rw [if_pos hi0]
      subst hi0
      repeat' split at sh
      all_goals omega
    · rw [if_neg hi0]
      by_cases hir : i ≤ r
      · rw [if_pos (by omega), c3 hir]
        repeat' split at sh
        all_goals omega
      · by_cases hq0 : q = 0
        · rw [if_neg (by have := c5 hq0; omega)]
          repeat' split at sh
          all_goals omega
        · rw [if_pos (by have := c6 (by omega); omega), c4 (by omega) (by omega)]
          repeat' split at sh
          all_goals omega
end
end Sv


set_option maxHeartbeats 8000000
namespace Sv
open PySem PySem.Spec PyProof.Rows L2
/-! ### a carrier who goes round shelves of one size -/
abbrev zsR (c s : Nat) : List Int := List.replicate c (s : Int)
def rtR (c : Nat) : Ro := (List.range c).map fun i => some ((i : Nat) : Int)
theorem rtR_len (c : Nat) : (rtR c).length = c := by unfold rtR; simp
theorem zsR_len (c s : Nat) : (zsR c s).length = c := List.length_replicate ..
theorem sumR (c s : Nat) : sumN (zsR c s) = c * s := by
  unfold sumN
  rw [List.map_replicate, List.sum_replicate_nat, Int.toNat_natCast]
theorem val_R {c s : Nat} (h1 : 2 ≤ c) (h2 : c ≤ 6) (hs : s ≤ 9) : Val (zsR c s) [rtR c] := by
  refine val_mk (by rw [zsR_len]; omega) (fun z hz => ?_) ⟨Nat.le_refl _, (by show 1 ≤ 6; decide)⟩ fun r hr => ?_
  · rw [(List.mem_replicate.mp hz).2]
    omega
  · rw [List.mem_singleton.mp hr]
    unfold okR
    rw [rtR_len, decide_eq_true (by omega), Bool.true_and, zsR_len]
    refine List.all_eq_true.mpr fun e he => ?_
    obtain ⟨i, hi, rfl⟩ := List.mem_map.mp he
    have := List.mem_range.mp hi
    exact decide_eq_true (by omega)
theorem vis_R {c : Nat} (hc : 0 < c) (k : Nat) : vis [rtR c] ((0 : Int) + (k : Nat)) = [(0, k % c)] := by
  have e : ent (rtR c) ((0 : Int) + (k : Nat)) = some (((k % c : Nat)) : Int) := by
    unfold ent
    rw [rtR_len, Int.zero_add, ← Int.natCast_emod, Int.toNat_natCast, List.getD_eq_getElem?_getD]
    unfold rtR
    rw [List.getElem?_map, List.getElem?_range (Nat.mod_lt _ hc)]
    rfl
  show (prs [rtR c] ((0 : Int) + (k : Nat)) 1).map _ = _
  unfold prs
  show (([] ++ match some (rtR c) with | some r => (match ent r ((0 : Int) + (k : Nat)) with | some z => [(0, z)] | none => []) | none => []) : List (Nat × Int)).map _ = _
  dsimp only
  rw [e]
  rfl
theorem one_step {f : Nat} {y x : Int} {row : List Int} {rows : List (List Int)} (hf : rows[f]? = some (x :: row)) : step1 ([y], rows) (0, f) = ([x], rows.set f (row ++ [y])) := by
  unfold step1
  dsimp only
  rw [show ([y] : List Int)[0]? = some y from rfl, hf]
  rfl
section
variable {c s : Nat} (h1 : 2 ≤ c) (h2 : c ≤ 6) (hs1 : 1 ≤ s) (hs : s ≤ 9)
include h1 hs1
/-- where the first parcel is: the shelf and its position -/
theorem trip {L : Lay Int} (hf : Fits 1 (zsR c s) L) (h0 : L.1 = [1]) : ∀ k m r, k = m * (s * c + 1) + r → r < s * c + 1 → (r = 0 → (run [rtR c] 0 k L).1 = [1]) ∧ (1 ≤ r → ∃ row, (run [rtR c] 0 k L).2[(m * (s * c + 1)) % c]? = some row ∧ row[s - 1 - (r - 1) / c]? = some 1)
  | 0, m, r, hk, hr => by
    have hm : m = 0 := by
      rcases Nat.eq_zero_or_pos m with h | h
      · exact h
      · have := Nat.mul_le_mul_right (s * c + 1) (show 1 ≤ m from h)
        omega
    subst hm
    refine ⟨fun _ => h0, fun h => by omega⟩
  | k + 1, m, r, hk, hr => by
    have hc0 : 0 < c := by omega
    have hN : 2 ≤ s * c := Nat.le_trans h1 (Nat.le_mul_of_pos_left c hs1)
    have fk := run_fits (n := 1) (zs := zsR c s) [rtR c] 0 k hf
    obtain ⟨fl1, fl2⟩ := fit_at fk
    have e1 : run [rtR c] 0 (k + 1) L = step1 (run [rtR c] 0 k L) (0, k % c) := by
      show tickL [rtR c] ((0 : Int) + (k : Nat)) (run [rtR c] 0 k L) = _
      unfold tickL
      rw [vis_R hc0]
      rfl
    rw [zsR_len] at fl2
    have rowlen : ∀ {f : Nat} {row : List Int}, (run [rtR c] 0 k L).2[f]? = some row → row.length = s := fun {f row} h => by
      have := congrArg (fun l => l[f]?) fk.2
      rw [List.getElem?_map, h, List.getElem?_map] at this
      have hfl : f < c := by have := (List.getElem?_eq_some_iff.mp h).1; omega
      rw [List.getElem?_replicate, if_pos hfl] at this
      have e := Option.some.inj this
      rw [Int.toNat_natCast] at e
      exact e
    obtain ⟨rowv, hrowv⟩ : ∃ row, (run [rtR c] 0 k L).2[k % c]? = some row := ⟨_, List.getElem?_eq_getElem (by have := Nat.mod_lt k hc0; omega)⟩
    have rvl := rowlen hrowv
    obtain ⟨x, row, rfl⟩ : ∃ x row, rowv = x :: row := by
      cases rowv with
      | nil =>
        have h5 : ([] : List Int).length = 0 := rfl
        omega
      | cons a b => exact ⟨a, b, rfl⟩
    have rl : row.length + 1 = s := rvl
    obtain ⟨y, hy⟩ : ∃ y, (run [rtR c] 0 k L).1 = [y] := by
      match h : (run [rtR c] 0 k L).1, fl1 with
      | [y], _ => exact ⟨y, rfl⟩
    have e2 : run [rtR c] 0 (k + 1) L = ([x], (run [rtR c] 0 k L).2.set (k % c) (row ++ [y])) := by
      rw [e1]
      have : run [rtR c] 0 k L = ([y], (run [rtR c] 0 k L).2) := by rw [← hy]
      rw [this]
      exact one_step hrowv
    rw [e2]
    dsimp only
    have kc : k % c < (run [rtR c] 0 k L).2.length := by have := Nat.mod_lt k hc0; omega
    -- the tick before
    rcases Nat.eq_zero_or_pos r with h | h
    · -- it has just been taken
      subst h
      obtain ⟨m', rfl⟩ : ∃ m', m = m' + 1 := by
        cases m with
        | zero => omega
        | succ m' => exact ⟨m', rfl⟩
      have hk' : k = m' * (s * c + 1) + s * c := by rw [Nat.succ_mul] at hk; omega
      obtain ⟨_, g⟩ := trip hf h0 k m' (s * c) hk' (by omega)
      obtain ⟨row', a1, a2⟩ := g (by omega)
      have ef : k % c = (m' * (s * c + 1)) % c := by rw [hk', Nat.add_mul_mod_self_right]
      have ep : s - 1 - (s * c - 1) / c = 0 := by
        have : (s * c - 1) / c = s - 1 := (Nat.div_mod_unique (c := c - 1) (d := s - 1) hc0).mpr ⟨by
          obtain ⟨s', rfl⟩ : ∃ s', s = s' + 1 := ⟨s - 1, by omega⟩
          rw [Nat.succ_mul, Nat.add_sub_cancel, Nat.mul_comm]
          omega, by omega⟩ |>.1
        omega
      rw [← ef, hrowv] at a1
      obtain rfl := Option.some.inj a1
      rw [ep] at a2
      refine ⟨fun _ => by rw [show x = 1 from Option.some.inj a2], fun h => by omega⟩
    · refine ⟨fun h => by omega, fun _ => ?_⟩
      rcases Nat.eq_zero_or_pos (r - 1) with h3 | h3
      · -- it is left now
        have hr1 : r = 1 := by omega
        subst hr1
        have hk' : k = m * (s * c + 1) + 0 := by omega
        obtain ⟨g, _⟩ := trip hf h0 k m 0 hk' (by omega)
        have g1 := g rfl
        rw [hy] at g1
        have ey : y = 1 := (List.cons.inj g1).1
        have ef : k % c = (m * (s * c + 1)) % c := by rw [hk', Nat.add_zero]
        refine ⟨row ++ [y], by rw [← ef, List.getElem?_set_self kc], ?_⟩
        rw [Nat.sub_self, Nat.zero_div, Nat.sub_zero, List.getElem?_append_right (by omega), show s - 1 - row.length = 0 by omega, ey]
        rfl
      · have hk' : k = m * (s * c + 1) + (r - 1) := by omega
        obtain ⟨_, g⟩ := trip hf h0 k m (r - 1) hk' (by omega)
        obtain ⟨row', a1, a2⟩ := g (by omega)
        have dm := Nat.div_add_mod (r - 1) c
        have ml := Nat.mod_lt (r - 1) hc0
        by_cases hd : (r - 1) % c = 0
        · -- the carrier is there and takes another one
          have ef : k % c = (m * (s * c + 1)) % c := by
            rw [hk', Nat.add_mod, hd, Nat.add_zero, Nat.mod_mod]
          rw [← ef, hrowv] at a1
          obtain rfl := Option.some.inj a1
          have u1 : (r - 1) / c = (r - 1 - 1) / c + 1 := by
            have h5 : (r - 1 - 1) / c = (r - 1) / c - 1 := ((Nat.div_mod_unique (c := c - 1) (d := (r - 1) / c - 1) hc0).mpr ⟨by
              have hq : 0 < (r - 1) / c := Nat.div_pos (Nat.le_of_dvd h3 (Nat.dvd_of_mod_eq_zero hd)) hc0
              obtain ⟨q, hq'⟩ : ∃ q, (r - 1) / c = q + 1 := ⟨(r - 1) / c - 1, by omega⟩
              rw [hq', Nat.mul_add] at dm
              rw [hq', Nat.add_sub_cancel]
              omega, by omega⟩).1
            have hq : 0 < (r - 1) / c := Nat.div_pos (Nat.le_of_dvd h3 (Nat.dvd_of_mod_eq_zero hd)) hc0
            omega
          have us : (r - 1) / c < s := Nat.div_lt_of_lt_mul (by rw [Nat.mul_comm]; omega)
          refine ⟨row ++ [y], by rw [← ef, List.getElem?_set_self kc], ?_⟩
          have e9 : ∀ u u2 : Nat, u = u2 + 1 → u < s → s - 1 - u2 = (s - 1 - u) + 1 ∧ s - 1 - u < row.length := fun u u2 a b => by omega
          obtain ⟨e91, e92⟩ := e9 _ _ u1 us
          rw [e91, List.getElem?_cons_succ] at a2
          rw [List.getElem?_append_left e92]
          exact a2
        · -- the carrier is elsewhere
          have ef : k % c ≠ (m * (s * c + 1)) % c := fun e => by
            rw [hk'] at e
            have := Nat.sub_mod_eq_zero_of_mod_eq e
            rw [Nat.add_sub_cancel_left] at this
            exact hd this
          have u1 : (r - 1) / c = (r - 1 - 1) / c := ((Nat.div_mod_unique (c := (r - 1) % c - 1) (d := (r - 1) / c) hc0).mpr ⟨by omega, by omega⟩).1.symm
          refine ⟨row', by rw [List.getElem?_set_ne ef]; exact a1, ?_⟩
          rw [u1]
          exact a2
end
theorem flat_at {rows : List (List Int)} {s : Nat} (h : ∀ r ∈ rows, r.length = s) : ∀ {f p : Nat} {row : List Int} {x : Int}, rows[f]? = some row → row[p]? = some x → rows.flatten[f * s + p]? = some x := by
  induction rows with
  | nil => intro f p row x h1; simp at h1
  | cons r rows ih =>
    intro f p row x h1 h2
    have hr := h r (List.mem_cons_self ..)
    have pl := (List.getElem?_eq_some_iff.mp h2).1
    cases f with
    | zero =>
      obtain rfl := Option.some.inj h1
      rw [List.flatten_cons, Nat.zero_mul, Nat.zero_add, List.getElem?_append_left pl]
      exact h2
    | succ f =>
      have h1' : rows[f]? = some row := h1
      rw [List.flatten_cons, List.getElem?_append_right (by rw [hr, Nat.succ_mul]; omega), hr, show (f + 1) * s + p - s = f * s + p by rw [Nat.succ_mul]; omega]
      exact ih (fun r hr => h r (List.mem_cons_of_mem _ hr)) h1' h2
theorem shN_at {c s : Nat} : ∀ k, k ≤ c → (shN (zsR c s) k).length = k * s ∧ ∀ f p, f < k → p < s → (shN (zsR c s) k)[f * s + p]? = some [V.str "shelf", V.int (f : Nat), V.int (p : Nat)]
  | 0, _ => ⟨by rw [Nat.zero_mul]; rfl, fun f p h => by omega⟩
  | k + 1, h => by
    obtain ⟨l, g⟩ := shN_at (c := c) (s := s) k (by omega)
    have ez : ((zsR c s).getD k 0).toNat = s := by
      rw [List.getD_eq_getElem?_getD, List.getElem?_replicate, if_pos (by omega)]
      exact Int.toNat_natCast s
    unfold shN
    rw [ez]
    have pl : (posV k s).length = s := by unfold posV; simp
    refine ⟨by rw [List.length_append, l, pl, Nat.succ_mul], fun f p hf hp => ?_⟩
    by_cases e : f < k
    · have := Nat.mul_le_mul_right s (show f + 1 ≤ k from e)
      rw [Nat.succ_mul] at this
      rw [List.getElem?_append_left (by omega)]
      exact g f p e hp
    · obtain rfl : f = k := by omega
      rw [List.getElem?_append_right (by omega), l, Nat.add_sub_cancel_left]
      unfold posV
      rw [List.getElem?_map, List.getElem?_range hp]
      rfl
theorem place_R {c s f p : Nat} (hf : f < c) (hp : p < s) : (placesV (zsR c s) 1)[1 + (f * s + p)]? = some [V.str "shelf", V.int (f : Nat), V.int (p : Nat)] := by
  unfold placesV
  rw [zsR_len, List.getElem?_append_right (by unfold carV; simp), show 1 + (f * s + p) - (carV 1).length = f * s + p by unfold carV; simp]
  exact (shN_at c (Nat.le_refl _)).2 f p hf hp
/-- the first parcel's place -/
theorem trip_pos {c s : Nat} (h1 : 2 ≤ c) (h2 : c ≤ 6) (hs1 : 1 ≤ s) (hs : s ≤ 9) (m r : Nat) (hr : r < s * c + 1) : pos (zsR c s) [rtR c] 0 (m * (s * c + 1) + r) 0 = if r = 0 then 0 else 1 + ((m * (s * c + 1)) % c * s + (s - 1 - (r - 1) / c)) := by
  have hv := val_R h1 h2 hs
  obtain ⟨ok, ej⟩ := ok_start hv
  have hx : (join (spl [rtR c].length (zsR c s) (parc ([rtR c].length + sumN (zsR c s)))))[0]? = some 1 := by
    rw [ej]
    exact parc_at (by show 0 < 1 + _; omega)
  have hf := ok.f
  have okk : (join (run [rtR c] 0 (m * (s * c + 1) + r) (spl [rtR c].length (zsR c s) (parc ([rtR c].length + sumN (zsR c s)))))).Nodup := by
    rw [← advA_nat 0 (zsR c s) hv.rne hv.lc1 0 _ hf]
    exact (advA_perm 0 _ hf).nodup_iff.mpr ok.p.2
  have h0 : (spl [rtR c].length (zsR c s) (parc ([rtR c].length + sumN (zsR c s)))).1 = [1] := by
    have e : (spl [rtR c].length (zsR c s) (parc ([rtR c].length + sumN (zsR c s)))).1 = (parc (1 + sumN (zsR c s))).take 1 := rfl
    rw [e, List.take_add_one, parc_at (by omega)]
    rfl
  have hp := pos_run19 hv 0 hf hx (m * (s * c + 1) + r)
  have fk := run_fits (n := 1) (zs := zsR c s) [rtR c] 0 (m * (s * c + 1) + r) hf
  obtain ⟨t1, t2⟩ := trip h1 hs1 hf h0 _ m r rfl hr
  by_cases e : r = 0
  · rw [if_pos e]
    refine nodup_ix okk hp ?_
    unfold join
    rw [t1 e]
    rfl
  · rw [if_neg e]
    obtain ⟨row, a1, a2⟩ := t2 (by omega)
    refine nodup_ix okk hp ?_
    unfold join
    rw [List.getElem?_append_right (by rw [fk.1]; omega), fk.1, Nat.add_sub_cancel_left]
    refine flat_at (fun r9 hr9 => ?_) a1 a2
    have := congrArg (fun l => r9.length ∈ l) fk.2
    have h5 : r9.length ∈ (run [rtR c] 0 (m * (s * c + 1) + r) (spl [rtR c].length (zsR c s) (parc ([rtR c].length + sumN (zsR c s))))).2.map List.length := List.mem_map.mpr ⟨r9, hr9, rfl⟩
    rw [fk.2, List.map_replicate, Int.toNat_natCast] at h5
    exact (List.mem_replicate.mp h5).2
theorem trip_lft {c s : Nat} (h1 : 2 ≤ c) (h2 : c ≤ 6) (hs1 : 1 ≤ s) (hs : s ≤ 9) (k : Nat) : lft (zsR c s) [rtR c] 0 0 k = if k % (s * c + 1) = 0 then some (k % c) else none := by
  have hk := Nat.div_add_mod k (s * c + 1)
  rw [Nat.mul_comm] at hk
  have hp := trip_pos h1 h2 hs1 hs (k / (s * c + 1)) (k % (s * c + 1)) (Nat.mod_lt _ (by omega))
  rw [hk] at hp
  unfold lft vsh
  rw [hp, vis_R (by omega)]
  by_cases e : k % (s * c + 1) = 0
  · rw [if_pos e, if_pos e, if_pos (by show 0 < 1; decide)]
    rfl
  · rw [if_neg e, if_neg e, if_neg (by show ¬ (1 + _ < 1); omega)]
theorem trip_st {c s : Nat} (h1 : 2 ≤ c) (h2 : c ≤ 6) (hs1 : 1 ≤ s) (hs : s ≤ 9) {n : Nat} {v : V} (h : v = .non ∧ (∀ k, (lft (zsR c s) [rtR c] 0 0 k).isSome = false) ∨ StV (lft (zsR c s) [rtR c] 0 0) n v) : v = .int ((n * (s * c + 1) % c : Nat)) := by
  have ef : (fun k => (lft (zsR c s) [rtR c] 0 0 k).isSome) = fun k => decide (k % (s * c + 1) = 0) := by
    funext k
    rw [trip_lft h1 h2 hs1 hs]
    by_cases e : k % (s * c + 1) = 0
    · rw [if_pos e, decide_eq_true e]
      rfl
    · rw [if_neg e, decide_eq_false e]
      rfl
  rcases h with ⟨_, h⟩ | ⟨m, m1, m2, m3⟩
  · have h7 := congrFun ef 0
    have h8 : (lft (zsR c s) [rtR c] 0 0 0).isSome = decide (0 % (s * c + 1) = 0) := h7
    rw [h, Nat.zero_mod] at h8
    cases h8
  · rw [ef, cnt_mod (by omega)] at m2
    have m1' := (congrFun ef m).symm.trans m1
    have m4 : m % (s * c + 1) = 0 := of_decide_eq_true m1'
    rw [m4, if_neg (by omega), Nat.add_zero] at m2
    have m5 := Nat.div_add_mod m (s * c + 1)
    rw [m4, m2, Nat.add_zero, Nat.mul_comm] at m5
    rw [m3, trip_lft h1 h2 hs1 hs, if_pos m4, ← m5]
    rfl
/-! ### two carriers, each at a shelf of its own -/
abbrev zsL : List Int := [1, 1]
abbrev rsL : List Ro := [[some 0], [some 1]]
theorem val_L : Val zsL rsL := val_mk ⟨by decide, by decide⟩ (by decide) ⟨by decide, by decide⟩ (by decide)
theorem vis_L (m : Int) : vis rsL m = [(0, 0), (1, 1)] := by
  unfold vis
  show (prs rsL m 2).map _ = _
  have e1 : ent ([some 0] : Ro) m = some 0 := by
    unfold ent
    rw [show (([some (0 : Int)] : Ro).length : Int) = 1 from rfl, Int.emod_one]
    rfl
  have e2 : ent ([some 1] : Ro) m = some 1 := by
    unfold ent
    rw [show (([some (1 : Int)] : Ro).length : Int) = 1 from rfl, Int.emod_one]
    rfl
  have h : prs rsL m 2 = [(0, 0), (1, 1)] := by
    unfold prs prs prs
    show ([] ++ (match ent ([some 0] : Ro) m with | some z => [(0, z)] | none => [])) ++ (match ent ([some 1] : Ro) m with | some z => [(1, z)] | none => []) = _
    rw [e1, e2]
    rfl
  rw [h]
  rfl
def LL : Lay Int := ([1, 2], [[3], [4]])
def LM : Lay Int := ([3, 4], [[1], [2]])
theorem lone_run (t : Int) : ∀ k, run rsL t k LL = LL ∨ run rsL t k LL = LM
  | 0 => .inl rfl
  | k + 1 => by
    have e : run rsL t (k + 1) LL = steps [(0, 0), (1, 1)] (run rsL t k LL) := by
      show tickL rsL (t + (k : Nat)) (run rsL t k LL) = _
      unfold tickL
      rw [vis_L]
    rw [e]
    rcases lone_run t k with h | h
    · rw [h]
      exact .inr rfl
    · rw [h]
      exact .inl rfl
theorem lone_never (k : Nat) : mB zsL rsL 0 LL 1 2 k = false := by
  have hf : Fits rsL.length zsL LL := ⟨rfl, rfl⟩
  unfold mB
  rw [advA_nat 0 zsL val_L.rne val_L.lc1 0 k hf]
  rcases lone_run 0 k with h | h
  · rw [h]
    decide
  · rw [h]
    decide
end Sv


set_option maxHeartbeats 4000000
/-! max(xs, default=d), xs a list of ints -/
namespace Sv
open PySem PySem.Spec PyProof.Rows L2
theorem maxOf_int : ∀ (xs : List Int) (x : Int), (PySem.W.maxOf x xs = x ∨ PySem.W.maxOf x xs ∈ xs) ∧ x ≤ PySem.W.maxOf x xs ∧ ∀ y ∈ xs, y ≤ PySem.W.maxOf x xs
  | [], x => ⟨.inl rfl, Int.le_refl _, fun _ h => by cases h⟩
  | y :: xs, x => by
    have e : PySem.W.maxOf x (y :: xs) = PySem.W.maxOf (if decide (x < y) = true then y else x) xs := rfl
    rw [e]
    obtain ⟨h1, h2, h3⟩ := maxOf_int xs (if decide (x < y) = true then y else x)
    generalize PySem.W.maxOf (if decide (x < y) = true then y else x) xs = m at h1 h2 h3 ⊢
    by_cases hlt : x < y
    · rw [if_pos (decide_eq_true hlt)] at h1 h2
      refine ⟨.inr ?_, by omega, fun z hz => ?_⟩
      · rcases h1 with h1 | h1
        · rw [h1]; exact List.mem_cons_self ..
        · exact List.mem_cons_of_mem _ h1
      · rcases List.mem_cons.mp hz with rfl | hz
        · exact h2
        · exact h3 z hz
    · rw [if_neg (by simpa using hlt)] at h1 h2
      refine ⟨?_, h2, fun z hz => ?_⟩
      · rcases h1 with h1 | h1
        · exact .inl h1
        · exact .inr (List.mem_cons_of_mem _ h1)
      · rcases List.mem_cons.mp hz with rfl | hz
        · omega
        · exact h3 z hz
def rMaxDef (K : PySem.W.Frag) : List V → List V → Hp → VK → Prop := fun vs zs H Q => ∃ (a : Addr) (ns : List Int) (d : Int), vs = [V.ref a] ∧ zs = [.int d] ∧ SqL K H a (ns.map V.int) ∧ (ns = [] → Q (.int d) H) ∧ ∀ m, m ∈ ns → (∀ y ∈ ns, y ≤ m) → Q (.int m) H
theorem cr_maxDef {X : Cx} (hc : X.calm = true) (hu : X.A.units + 65 < cLine) : CallRK X (.builtin "max") [Str.ofString "default"] (rMaxDef X.K) := by
  intro pins s σ H vs zs us ws Q I r rz h
  obtain ⟨a, ns, d, rfl, rfl, hs, q0, q1⟩ := h
  obtain rfl := Vals.ref1 r
  obtain ⟨w1, rfl, e1⟩ := vals1 rz
  obtain ⟨its, rv, hl, _⟩ := I.list hs
  refine PySem.W.max_list_datum_default (α := Int) (I.ok.hd hc) hl.isList (PySem.W.HoldAll.of_ints rv.ints) (by show X.A.units + 1 + 0 < cLine; omega) (fun e h' tk hk => ⟨.int d, H, I.kept hk, e1, q0 e⟩) (fun y ys i v h' tk e hi hv hk => ?_)
  obtain ⟨as, hr⟩ := hv
  obtain ⟨m1, m2, m3⟩ := maxOf_int ys y
  generalize PySem.W.maxOf y ys = m at hr m1 m2 m3
  cases hr with
  | int i t => exact ⟨.int m, H, I.kept hk, ⟨t, rfl⟩, q1 m (by rw [e]; rcases m1 with h | h <;> simp [h]) (fun z hz => by rw [e] at hz; rcases List.mem_cons.mp hz with rfl | hz; exact m2; exact m3 z hz)⟩
end Sv


set_option maxHeartbeats 4000000
/-! tuple * 1: the tuple itself -/
namespace L2
open PySem PySem.Spec PyProof.Rows
theorem tuple_mul1 (l : Addr) (items : Array Value) (n : Nat) (dd : Option Addr) (sl : Array (Option Value)) (u : Tok) :
    Meets (Builtin.«tuple.__mul__» ⟨[.ref l, .int 1 u], []⟩) (fun _ R s => s.heap.get? l = some { cls := .type "tuple", dict := dd, data := .seq items n, slots := sl } ∧
      R (.ok (.ret (Value.ref l))) s) :=
  .of_wp fun prog w A R s h => by
    obtain ⟨hp, g, d, tk, os⟩ := s
    obtain ⟨hl, h⟩ := h
    have f1 := AutoSeq1.idx_int
    have c0 : (decide ((1 : Int) < -(2 ^ 63)) || decide ((1 : Int) ≥ 2 ^ 63)) = false := by decide
    have c1 : (items.isEmpty || (1 : Int) == 1) = true := by rw [show ((1 : Int) == 1) = true from rfl, Bool.or_true]
    wp_walk using wpAny_loadPart' hl
    repeat (first
      | (refine wpAny_ite_false (decide_eq_false (by rw [c0]; exact Bool.false_ne_true)) ?_; wp_walk using wpAny_loadPart' hl)
      | (refine wpAny_ite_true (decide_eq_true (by rw [c1])) ?_; wp_walk using wpAny_loadPart' hl))
    exact ⟨_, rfl, h⟩
/-- a tuple, so many times -/
def rRepT1 (K : PySem.W.Frag) : R2 := fun x y H Q => ∃ l k xs, x = .ref l ∧ y = .int k ∧ SqT K H l xs ∧ xs ≠ [] ∧ 1 ≤ k ∧ k ≤ 1000 ∧ xs.length ≤ 1000 ∧ (k = 1 → Q (.ref l) H) ∧ (2 ≤ k → ∀ p, H p = none → Q (.ref p) (upd H p (.tup (List.replicate k.toNat xs).flatten)))
section
variable {X : Cx}
theorem op_repT1 : OpR X (binaryOp .Mult) (rRepT1 X.K) := by
  intro pins s σ H x y v u Q I rx ry h
  obtain ⟨l, k, xs, rfl, rfl, hT, hne, h1, h2, hz, q1, q2⟩ := h
  by_cases hk : k = 1
  · subst hk
    have q := q1 rfl
    cases rx
    obtain ⟨t, rfl⟩ := ry
    obtain ⟨its, r, ⟨⟨cls, dd, data, sl⟩, ho, hc, n, hd⟩, hs⟩ := I.tuple hT
    simp only at hc hd
    subst hc hd
    refine wpAny_binaryOp_repeat_ref (T := "tuple") (U := "int") (by decide) ⟨_, ho, rfl⟩ (fun s' => typeIs_int s' 1 t) noFill_tuple_mul F.fills_int_mul F.slot_int_rmul repeat_tuple F.slot_int_index.lookup
      (call_meets F.slot_int_rmul (typeIs_int s 1 t) F.entry_int_rmul (F.args_int_rmul_2 _ _) (int_rmul_tuple 1 t l its.toArray n dd sl)
        ⟨ho, rfl, ⟨_, ho, rfl⟩, call_meets F.slot_tuple_mul ⟨_, ho, rfl⟩ F.entry_tuple_mul (F.args_tuple_mul_2 _ _) (tuple_mul1 l its.toArray n dd sl t) ⟨ho, ?_⟩⟩)
    exact ⟨.ref l, H, I, rfl, q⟩
  · exact op_repT pins s σ H _ _ v u Q I rx ry ⟨l, k, xs, rfl, rfl, hT, hne, by omega, h2, hz, q2 (by omega)⟩
end
end L2


set_option maxHeartbeats 8000000
namespace Sv
open PySem PySem.Spec PyProof.Rows L2
/-! ### the functions where all is valid -/
def vFamilies (K : PySem.W.Frag) : Sp := fun vs H Q _ => ∃ (p s : Addr) (zs : List Int) (rs : List Ro) (t : Int) (L : Lay Int), vs = [.ref p, .ref s] ∧ PS0 K H p s zs rs t L ∧ ∀ ys : List Int, ys.Perm (join L) → ys.Pairwise (· ≤ ·) → ∀ H' f, Same H H' → RowsI H' f (fams (join L) (inv (wh rs.length zs rs t)) ys) → Q (.ref f) H'
@[irreducible] def qFamilies (K : PySem.W.Frag) : Sp := vFamilies K
def vFollows (K : PySem.W.Frag) : Sp := fun vs H Q _ => ∃ (p s : Addr) (zs : List Int) (rs : List Ro) (t x y : Int) (L : Lay Int) (i j : Nat), vs = [.ref p, .ref s, .int x, .int y] ∧ PS0 K H p s zs rs t L ∧ (join L)[i]? = some x ∧ (join L)[j]? = some y ∧ ∀ H' v, Same H H' → FolV zs rs t i j v → Q v H'
@[irreducible] def qFollows (K : PySem.W.Frag) : Sp := vFollows K
def vPattern (K : PySem.W.Frag) : Sp := fun vs H Q _ => ∃ (p s : Addr) (zs : List Int) (rs : List Ro) (t : Int) (L : Lay Int), vs = [.ref p] ∧ PS0 K H p s zs rs t L ∧ ∀ H', Same H H' → Q (.int (lc rs : Nat)) H'
@[irreducible] def qPattern (K : PySem.W.Frag) : Sp := vPattern K
def vPer (K : PySem.W.Frag) : Sp := fun vs H Q _ => ∃ (p s : Addr) (zs : List Int) (rs : List Ro) (t : Int) (L : Lay Int), vs = [.ref p, .ref s] ∧ PS0 K H p s zs rs t L ∧ ∀ H', Same H H' → Q (.int (perT zs rs t : Nat)) H'
@[irreducible] def qPer (K : PySem.W.Frag) : Sp := vPer K
def vInit (K : PySem.W.Frag) : Sp := fun vs H Q _ => ∃ (p : Addr) (zs : List Int) (rs : List Ro), vs = [.ref p] ∧ PlanAt K H p zs rs ∧ Val zs rs ∧ ∀ H' s, Same H H' → PS0 K H' p s zs rs 0 (spl rs.length zs (parc (rs.length + sumN zs))) → Q (.ref s) H'
@[irreducible] def qInit (K : PySem.W.Frag) : Sp := vInit K
def vFirst9 (K : PySem.W.Frag) : Sp := fun vs H Q _ => ∃ (p s : Addr) (zs : List Int) (rs : List Ro) (t x y : Int) (L : Lay Int), vs = [.ref p, .ref s, .int x, .int y] ∧ PS0 K H p s zs rs t L ∧ x ∈ join L ∧ y ∈ join L ∧ ∀ H' v, Same H H' → FirstV (mB zs rs t L x y) v → Q v H'
@[irreducible] def qFirst9 (K : PySem.W.Frag) : Sp := vFirst9 K
section
variable {K : PySem.W.Frag} {H : Hp} {Q : VK} {E : XK} {p s : Addr} {zs : List Int} {rs : List Ro} {t x y : Int} {L : Lay Int}
theorem go_families (X : PS0 K H p s zs rs t L) (q : ∀ ys : List Int, ys.Perm (join L) → ys.Pairwise (· ≤ ·) → ∀ H' f, Same H H' → RowsI H' f (fams (join L) (inv (wh rs.length zs rs t)) ys) → Q (.ref f) H') : qFamilies K [.ref p, .ref s] H Q E := by
  unfold qFamilies
  exact ⟨p, s, zs, rs, t, L, rfl, X, q⟩
theorem go_follows {i j : Nat} (X : PS0 K H p s zs rs t L) (hi : (join L)[i]? = some x) (hj : (join L)[j]? = some y) (q : ∀ H' v, Same H H' → FolV zs rs t i j v → Q v H') : qFollows K [.ref p, .ref s, .int x, .int y] H Q E := by
  unfold qFollows
  exact ⟨p, s, zs, rs, t, x, y, L, i, j, rfl, X, hi, hj, q⟩
theorem go_pattern (X : PS0 K H p s zs rs t L) (q : ∀ H', Same H H' → Q (.int (lc rs : Nat)) H') : qPattern K [.ref p] H Q E := by
  unfold qPattern
  exact ⟨p, s, zs, rs, t, L, rfl, X, q⟩
theorem go_per (X : PS0 K H p s zs rs t L) (q : ∀ H', Same H H' → Q (.int (perT zs rs t : Nat)) H') : qPer K [.ref p, .ref s] H Q E := by
  unfold qPer
  exact ⟨p, s, zs, rs, t, L, rfl, X, q⟩
theorem go_init (hp : PlanAt K H p zs rs) (hv : Val zs rs) (q : ∀ H' s, Same H H' → PS0 K H' p s zs rs 0 (spl rs.length zs (parc (rs.length + sumN zs))) → Q (.ref s) H') : qInit K [.ref p] H Q E := by
  unfold qInit
  exact ⟨p, zs, rs, rfl, hp, hv, q⟩
theorem go_first9 (X : PS0 K H p s zs rs t L) (hx : x ∈ join L) (hy : y ∈ join L) (q : ∀ H' v, Same H H' → FirstV (mB zs rs t L x y) v → Q v H') : qFirst9 K [.ref p, .ref s, .int x, .int y] H Q E := by
  unfold qFirst9
  exact ⟨p, s, zs, rs, t, x, y, L, rfl, X, hx, hy, q⟩
end
section
variable {P : Program} {w : World} {K : PySem.W.Frag} {mg : Str → Option Value} {base : Heap}
theorem families_ok (T : Bd P K mg) : FnOk P w K mg base (L2.CX P w) 12 T.aFamilies T.dFamilies ["plan", "state"] (qFamilies K) := by
  unfold qFamilies
  refine ((ok_families T).mono (by decide)).imp fun vs H Q E h => ?_
  obtain ⟨p, s, zs, rs, t, L, rfl, X, q⟩ := h
  have hb := X.bad
  exact ⟨p, s, zs, rs, t, L, rfl, X.p, X.v.small, X.s, (fun part i e => by rw [hb] at e; cases e), fun _ h => absurd X.o h, fun _ _ => q⟩
theorem follows_ok (T : Bd P K mg) : FnOk P w K mg base (L2.CX P w) 12 T.aFollowsBy T.dFollowsBy ["plan", "state", "one", "other"] (qFollows K) := by
  unfold qFollows
  refine ((ok_follows T).mono (by decide)).imp fun vs H Q E h => ?_
  obtain ⟨p, s, zs, rs, t, x, y, L, i, j, rfl, X, hi, hj, q⟩ := h
  have hb := X.bad
  have hx := List.mem_of_getElem? hi
  have hy := List.mem_of_getElem? hj
  exact ⟨p, s, zs, rs, t, x, y, L, rfl, X.p, X.v.small, X.s, ⟨fun part i e => (by rw [hb] at e; cases e), fun _ h => absurd X.o h, fun _ _ h => absurd hx h⟩, fun _ _ _ h => absurd hy h, fun _ _ i2 j2 hi2 hj2 => by rw [nodup_ix X.o.p.2 hi2 hi, nodup_ix X.o.p.2 hj2 hj]; exact q⟩
theorem pattern_ok (T : Bd P K mg) : FnOk P w K mg base (L2.CX P w) 12 T.aPattern T.dPattern ["plan"] (qPattern K) := by
  unfold qPattern
  refine ((ok_pattern T).mono (by decide)).imp fun vs H Q E h => ?_
  obtain ⟨p, s, zs, rs, t, L, rfl, X, q⟩ := h
  have hb := X.bad
  exact ⟨p, zs, rs, rfl, X.p, X.v.small, fun _ => q, fun part i e => by rw [hb] at e; cases e⟩
theorem per9_ok (T : Bd P K mg) : FnOk P w K mg base (L2.CX P w) 12 T.aPeriod T.dPeriod ["plan", "state"] (qPer K) := by
  unfold qPer
  refine ((ok_period T).mono (by decide)).imp fun vs H Q E h => ?_
  obtain ⟨p, s, zs, rs, t, L, rfl, X, q⟩ := h
  have hb := X.bad
  exact ⟨p, s, zs, rs, t, L, rfl, X.p, X.v.small, X.s, (fun part i e => by rw [hb] at e; cases e), fun _ h => absurd X.o h, fun _ _ => q⟩
theorem init_ok (T : Bd P K mg) : FnOk P w K mg base (L2.CX P w) 12 T.aInitial T.dInitial ["plan"] (qInit K) := by
  unfold qInit
  refine ((ok_initial T).mono (by decide)).imp fun vs H Q E h => ?_
  obtain ⟨p, zs, rs, rfl, hp, hv, q⟩ := h
  have hb := hv.bad
  exact ⟨p, zs, rs, rfl, hp, hv.small, (fun part i e => by rw [hb] at e; cases e), fun _ H' s sm _ st => q H' s sm ⟨hp.same sm, hv, st, (ok_start hv).1⟩⟩
theorem first9_ok (T : Bd P K mg) : FnOk P w K mg base (L2.CX P w) 12 T.aFirstMeeting T.dFirstMeeting ["plan", "state", "one", "other"] (qFirst9 K) := by
  unfold qFirst9
  refine ((ok_first T).mono (by decide)).imp fun vs H Q E h => ?_
  obtain ⟨p, s, zs, rs, t, x, y, L, rfl, X, hx, hy, q⟩ := h
  have hb := X.bad
  exact ⟨p, s, zs, rs, t, x, y, L, rfl, X.p, X.v.small, X.s, (fun part i e => by rw [hb] at e; cases e), fun _ h => absurd X.o h, fun _ _ h => absurd hx h, fun _ _ _ h => absurd hy h, fun _ _ _ _ => q⟩
abbrev passL {X : Cx} : Passes (L2.CX X.prog X.w) X E0 := passes_call L2.takes0 fun _ _ _ _ h => h
theorem PS0.same {H H' : Hp} {p s : Addr} {zs : List Int} {rs : List Ro} {t : Int} {L : Lay Int} (x : PS0 K H p s zs rs t L) (e : Same H H') : PS0 K H' p s zs rs t L := x.imp fun _ _ => sqT_same e
theorem ite_no {b : Bool} {A B : Prop} (h : b = false) (g : B) : if b = true then A else B := by
  rw [if_neg (by rw [h]; decide)]
  exact g
theorem ite_yes {b : Bool} {A B : Prop} (h : b = true) (g : A) : if b = true then A else B := by
  rw [if_pos h]
  exact g
theorem ne_no {x y : V} (h : x = y) : (!decide (x = y)) = false := by
  rw [decide_eq_true h]
  rfl
theorem SqT.of {H : Hp} {a : Addr} {xs : List V} (h : H a = some (.tup xs)) : SqT K H a xs := .inl (.inl h)
theorem perm_parc {n : Nat} {ys : List Int} (pm : ys.Perm (parc n)) (so : ys.Pairwise (· ≤ ·)) : ys = parc n := by
  have ps : (parc n).Pairwise (· < ·) := by
    unfold parc
    rw [List.pairwise_map]
    refine List.Pairwise.imp (fun h => ?_) (List.pairwise_lt_range (n := n))
    omega
  have nd : (parc n).Nodup := List.Pairwise.imp (fun h e => by omega) ps
  have yn : ys.Nodup := pm.nodup_iff.mpr nd
  refine List.Perm.eq_of_pairwise (fun a b _ _ h1 h2 => ?_) (List.Pairwise.imp₂ (fun a b h1 h2 => ?_) so yn) ps pm
  · exact absurd h1 (by omega)
  · omega
/-- the law's source and a plan's start -/
structure B19 (K : PySem.W.Frag) (H : Hp) (h l p s : Addr) (zs : List Int) (rs : List Ro) (L : Lay Int) : Prop where
  lw : LawH H h l
  x : PS0 K H p s zs rs 0 L
theorem B19.sm {H H' : Hp} {h l p s : Addr} {zs : List Int} {rs : List Ro} {L : Lay Int} (b : B19 K H h l p s zs rs L) (e : Same H H') : B19 K H' h l p s zs rs L := ⟨b.lw.same e, b.x.same e⟩
theorem B19.nx {H H' : Hp} {h l p s : Addr} {zs : List Int} {rs : List Ro} {L : Lay Int} (b : B19 K H h l p s zs rs L) (lh : LawH H' h l) (e : SameX h l H H') : B19 K H' h l p s zs rs L := ⟨lh, b.x.imp fun _ _ => sqT_x b.lw e⟩
/-- one carrier, far away -/
theorem one_run {s : Nat} (hs : s ≤ 9) (f : Nat) : run (rowR 1) 0 f ((parc (1 + s)).take 1, [(parc (1 + s)).drop 1]) = ([((f : Nat) : Int).fmod ((s : Nat) + 1) + 1], [(List.range s).map fun i => (((f : Nat) : Int) + (1 + (i : Nat))).fmod ((s : Nat) + 1) + 1]) := by
  have hv := val_row (s := s) (w := 1) hs (by decide) (by decide)
  obtain ⟨ok, _⟩ := ok_start hv
  rw [start_row] at ok
  have fr := run_fits (n := 1) (zs := zs1 s) (rowR 1) 0 f ok.f
  have fr2 : Fits 1 (zs1 s) (([((f : Nat) : Int).fmod ((s : Nat) + 1) + 1], [(List.range s).map fun i => (((f : Nat) : Int) + (1 + (i : Nat))).fmod ((s : Nat) + 1) + 1]) : Lay Int) := ⟨rfl, by
    show [((List.range s).map _).length] = [((s : Nat) : Int).toNat]
    rw [List.length_map, List.length_range, Int.toNat_natCast]⟩
  rw [← spl_join fr, ← spl_join fr2]
  congr 1
  have l1 := join_len fr
  have l2 := join_len fr2
  rw [sum1] at l1 l2
  refine List.ext_getElem? fun p => ?_
  by_cases hp : p < s + 1
  · rw [one_at hs 0 f hp]
    have fm : ∀ a : Nat, ((a : Nat) : Int).fmod ((s : Nat) + 1) = ((a % (s + 1) : Nat) : Int) := fun a => by
      rw [Int.fmod_eq_emod_of_nonneg _ (by omega), Int.natCast_emod]
      rfl
    unfold join
    show _ = ([((f : Nat) : Int).fmod ((s : Nat) + 1) + 1] ++ [(List.range s).map fun i => (((f : Nat) : Int) + (1 + (i : Nat))).fmod ((s : Nat) + 1) + 1].flatten)[p]?
    rw [show ([(List.range s).map fun i => (((f : Nat) : Int) + (1 + (i : Nat))).fmod ((s : Nat) + 1) + 1] : List (List Int)).flatten = (List.range s).map fun i => (((f : Nat) : Int) + (1 + (i : Nat))).fmod ((s : Nat) + 1) + 1 by simp]
    cases p with
    | zero =>
      rw [fm, Nat.zero_add, Int.add_comm]
      rfl
    | succ p =>
      show _ = ((List.range s).map fun i => (((f : Nat) : Int) + (1 + (i : Nat))).fmod ((s : Nat) + 1) + 1)[p]?
      rw [List.getElem?_map, List.getElem?_range (by omega)]
      show _ = some (_ + 1)
      rw [show ((f : Nat) : Int) + (1 + ((p : Nat) : Int)) = ((p + 1 + f : Nat) : Int) by omega, fm, Int.add_comm]
  · rw [List.getElem?_eq_none (by omega), List.getElem?_eq_none (by omega)]
def dLi9 (l : List Int) : PyData := .list (l.map PyData.int)
theorem dp_rows1 {H : Hp} {f : Addr} {s : List Int} (h : RowsI H f [s]) : Dp K H (.ref f) (.list [dLi9 s]) := by
  obtain ⟨rw, h1, h2, _⟩ := h
  cases h2 with
  | cons h t =>
    cases t
    exact .lst (.inl (.inl h1)) (.cons (.lst (.inl (.inl h)) (dpAll_int _)) .nil)
theorem seq_num {tt : TT} {ta tb : TE} {g : TG} {b : TS} {D : Ends} {σ : L2.St} {H : Hp} (v : V) (h : ∀ Q' : VK, Q' v H → tIf tt ta tb σ H Q') (q : g v σ H fun σ' H' => b D σ' H') : tSeq (tAsg (tIf tt ta tb) g) b D σ H := h _ q
theorem shaped1 {l : List Int} (h : l.length ≤ 1000) : pld (.list [dLi9 l]) = true ∧ okD 2 (.list [dLi9 l]) = true := by
  refine ⟨?_, okD_l (by show 1 ≤ 1000; decide) ?_⟩
  · unfold pld pldAll dLi9 pld
    rw [pldAll_int]
    rfl
  · unfold okDs
    rw [show okD 1 (dLi9 l) = true from okD_l (by rw [List.length_map]; exact h) (okDs_int _ _)]
    rfl
theorem seq_ways {a b : TS} {D : Ends} {σ : L2.St} {H : Hp} {B : Hp → Prop} (tail : ∀ HZ, B HZ → b D σ HZ) (main : (∀ HZ, B HZ → b D σ HZ) → tSeq a b D σ H) : tSeq a b D σ H := main tail
def n1 : List Str := ["_law_h", "_law_size", "_law_plan", "_law_many", "_law_state", "_law_far", "_law_holder", "_law_row", "_law_parcel", "_law_wait", "_law_due", "_law_number", "_law_k"]
theorem sc1 : FnScope n1 ["_law_h"] (defScope sOneRight) := ⟨rfl, rfl, rfl, by decide +kernel, rfl, by decide +kernel, by decide +kernel⟩
def spOneR (K : PySem.W.Frag) : Sp := fun vs H Q _ => ∃ (h l : Addr), vs = [.ref h] ∧ LawH H h l ∧ ∀ H', LawH H' h l → Q (.bl true) H'
theorem ok_oneR (T : Bd P K mg) : FnOk P w K mg base CX0 13 T.aLOneRight T.dLOneRight ["_law_h"] (spOneR K) := by
  have JI : FnOk P w K mg base (L2.CX P w) 12 T.aInitial T.dInitial ["plan"] (qInit K) := init_ok T
  have JA : FnOk P w K mg base (L2.CX P w) 12 T.aAdvance T.dAdvance ["plan", "state", "count"] (qAdvance K) := adv_ok T
  have JW : FnOk P w K mg base (L2.CX P w) 12 T.aPeriod T.dPeriod ["plan", "state"] (qPer K) := per9_ok T
  have JP : FnOk P w K mg base (L2.CX P w) 12 T.aPattern T.dPattern ["plan"] (qPattern K) := pattern_ok T
  have JF : FnOk P w K mg base (L2.CX P w) 12 T.aFamilies T.dFamilies ["plan", "state"] (qFamilies K) := families_ok T
  have JC : FnOk P w K mg base (L2.CX P w) 12 T.aTicksCarried T.dTicksCarried ["plan", "state", "parcel", "carrier", "count"] (qTicksCarried K) := ticksCarried_ok T
  have JN : FnOk P w K mg base (L2.CX P w) 12 T.aNthLeft T.dNthLeft ["plan", "state", "parcel", "shelf", "number"] (qNthLeft K) := nthLeft_ok T
  have GN : FnOk P w K mg base CX0 1 T.aLNext T.dLNext ["_law_h", "_law_limit"] qNext := by unfold qNext; exact ok_next T.LNext.F T.bt
  have GA : FnOk P w K mg base CX0 7 T.aLAlike T.dLAlike ["_law_found", "_law_due"] (qAlike K) := by unfold qAlike; exact ok_alike T.LAlike T.bt 6
  refine T.LOneRight.F.ok sc1 (fun vs H Q E h => ?_) (fun cdv A outer s H vs Q E hr h => ?_)
  · obtain ⟨h, l, rfl, _⟩ := h
    rfl
  · obtain ⟨h, l, rfl, LH, q⟩ := h
    refine ⟨_, pss_cons (ps_set (i := 1) sc1.nd rfl (Or.inl rfl) (pe_call (E := E0) GN (hr.mono (by decide)) (by rfl) T.LNext.g T.LNext.F.kp T.LNext.b .nil pass0 (pa_cons (pv 0) (pa_cons (pe_int) pa_nil))))
      (pss_cons (ps_asg (pe_tup (pa_cons (pe_tup (pa_cons (pe_tup (pa_cons (pv 1) pa_nil)) (pa_cons (pe_tup (pa_cons (pe_tup (pa_cons (pe_int) pa_nil)) pa_nil)) pa_nil))) (pa_cons (pe_op op_add (pv 1) (pe_int)) pa_nil))) (pg_tup rfl (pgs_cons (pg_name (i := 2) sc1.nd rfl (.inl rfl)) (pgs_cons (pg_name (i := 3) sc1.nd rfl (.inr rfl)) pgs_nil))))
      (pss_cons (ps_asg (pe_tup (pa_cons (pe_call (E := E0) JI (hr.mono (by decide)) (by rfl) T.Initial.g T.Initial.F.kp T.Initial.b .nil passL (pa_cons (pv 2) pa_nil)) (pa_cons (pe_op op_add (pe_int) (pe_call (E := E0) GN (hr.mono (by decide)) (by rfl) T.LNext.g T.LNext.F.kp T.LNext.b .nil pass0 (pa_cons (pv 0) (pa_cons (pe_op op_pow pe_int pe_int) pa_nil)))) pa_nil))) (pg_tup rfl (pgs_cons (pg_name (i := 4) sc1.nd rfl (.inl rfl)) (pgs_cons (pg_name (i := 5) sc1.nd rfl (.inr rfl)) pgs_nil))))
      (pss_cons (ps_set (i := 6) sc1.nd rfl (Or.inl rfl) (pe_op op_add (pe_op op_modN (pe_callTy call_int1 (by rfl) T.bt.int b_int (pa_cons (pv 5) pa_nil)) (pv 3)) (pe_int)))
      (pss_cons (ps_setLc (i := 7) (own := [("_law_k", 12)]) (g := gName 12) (tt := tYes) (te := tOp (rI0 fun i j => .int (i + j)) (tOp rFmod (tOp (rI0 fun i j => .int (i + j)) (tVar 5) (tVar 12)) (tVar 3)) (tC (.int 1))) rfl sc1.nd rfl rfl (sw_true rfl rfl rfl (by decide +kernel)) (pi_range2 (by rfl) T.bt.range (pa_cons (pe_int) (pa_cons (pv 3) pa_nil))) (blkOk_by (N := n1) (sc := defScope sOneRight) (by decide +kernel)) (fun _ _ _ _ _ => pg_name (i := 12) sc1.nd rfl (Or.inl rfl)) (fun _ _ _ _ _ => pts_nil) (fun _ _ _ _ _ => pe_op op_add (pe_op op_modN (pe_op op_add (pv 5) (pv 12)) (pv 3)) (pe_int)))
      (pss_cons (ps_if (pt_not (pt_val (pe_call (E := E0) GA (hr.mono (by decide)) (by rfl) T.LAlike.g T.LAlike.F.kp T.LAlike.b .nil pass0 (pa_cons (pe_call (E := E0) JA (hr.mono (by decide)) (by rfl) T.Advance.g T.Advance.F.kp T.Advance.b .nil passL (pa_cons (pv 2) (pa_cons (pv 4) (pa_cons (pv 5) pa_nil)))) (pa_cons (pe_tup (pa_cons (pv 5) (pa_cons (pe_tup (pa_cons (pv 6) pa_nil)) (pa_cons (pe_tup (pa_cons (pe_callTy call_tuple_of (by rfl) T.bt.tuple b_tuple (pa_cons (pv 7) pa_nil)) pa_nil)) pa_nil)))) pa_nil))))) pss_never pss_nil)
      (pss_cons (ps_if ((pw_or (pt_cmpR op_ne (pe_call (E := E0) JW (hr.mono (by decide)) (by rfl) T.Period.g T.Period.F.kp T.Period.b .nil passL (pa_cons (pv 2) (pa_cons (pv 4) pa_nil))) (pv 3) (nomark _)) (pw_or1 (pt_cmpR op_ne (pe_call (E := E0) JP (hr.mono (by decide)) (by rfl) T.Pattern.g T.Pattern.F.kp T.Pattern.b .nil passL (pa_cons (pv 2) pa_nil)) (pe_int) (nomark _)))).pt) pss_never pss_nil)
      (pss_cons (ps_if (pt_cmpR (op_neQ hr.units) (pe_call (E := E0) JF (hr.mono (by decide)) (by rfl) T.Families.g T.Families.F.kp T.Families.b .nil passL (pa_cons (pv 2) (pa_cons (pv 4) pa_nil))) (pe_lst (pa_cons (pe_listRg rfl (by rfl) T.bt.list (prg_2 (by rfl) T.bt.range (pe_int) (pe_op op_add (pv 3) (pe_int)))) pa_nil)) (nomark _)) pss_never pss_nil)
      (pss_cons (ps_set (i := 8) sc1.nd rfl (Or.inl rfl) (pe_op op_add (pe_int) (pe_call (E := E0) GN (hr.mono (by decide)) (by rfl) T.LNext.g T.LNext.F.kp T.LNext.b .nil pass0 (pa_cons (pv 0) (pa_cons (pv 3) pa_nil)))))
      (pss_cons (ps_set (i := 9) sc1.nd rfl (Or.inl rfl) (pe_op op_sub (pv 8) (pe_int)))
      (pss_cons (ps_set (i := 10) sc1.nd rfl (Or.inl rfl) (pe_ifExp (pt_cmpR op_eq (pv 9) (pe_int) (nomark _)) (pe_op op_fdivNN (pv 5) (pv 3)) (pe_ifExp (pt_cmpR op_ge (pv 5) (pv 9) (nomark _)) (pe_op op_add (pe_op op_fdivNN (pe_op op_sub (pv 5) (pv 9)) (pv 3)) (pe_int)) pe_int)))
      (pss_cons (ps_if (pt_not (pt_val (pe_call (E := E0) GA (hr.mono (by decide)) (by rfl) T.LAlike.g T.LAlike.F.kp T.LAlike.b .nil pass0 (pa_cons (pe_call (E := E0) JC (hr.mono (by decide)) (by rfl) T.TicksCarried.g T.TicksCarried.F.kp T.TicksCarried.b .nil passL (pa_cons (pv 2) (pa_cons (pv 4) (pa_cons (pv 8) (pa_cons (pe_int) (pa_cons (pv 5) pa_nil)))))) (pa_cons (pv 10) pa_nil))))) pss_never pss_nil)
      (pss_cons (ps_set (i := 11) sc1.nd rfl (Or.inl rfl) (pe_op op_add (pe_int) (pe_call (E := E0) GN (hr.mono (by decide)) (by rfl) T.LNext.g T.LNext.F.kp T.LNext.b .nil pass0 (pa_cons (pv 0) (pa_cons (pe_op op_pow pe_int pe_int) pa_nil)))))
      (pss_one (ps_ret (pe_cmpR op_eq (pe_call (E := E0) JN (hr.mono (by decide)) (by rfl) T.NthLeft.g T.NthLeft.F.kp T.NthLeft.b .nil passL (pa_cons (pv 2) (pa_cons (pv 4) (pa_cons (pv 8) (pa_cons (pe_int) (pa_cons (pv 11) pa_nil)))))) (pe_op op_add (pv 8) (pe_op op_mul (pe_op op_sub (pv 11) (pe_int)) (pv 3))) (nomark _)))))))))))))))), ?_⟩
    have p64 : (1000 : Int) < 2 ^ 64 := by decide
    have q64 : (1000000000000000000 : Int) < 2 ^ 64 := by decide
    have m64 : -(2 ^ 64 : Int) < 0 := by decide
    -- the plan
    refine ⟨.ref h, rfl, ?_⟩
    show qNext _ _ _ _
    refine go_next LH (by decide) (by decide) fun s H1 hs' L1 x1 => ?_
    have hs : s ≤ 9 := by omega
    refine ⟨.int (s : Nat), rfl, (by show 1 ≤ sizeLine; decide), fun a ha => ⟨(by show 1 ≤ sizeLine; decide), fun q0 hq0 => ⟨(by show 1 ≤ sizeLine; decide), fun b hb => ⟨(by show 2 ≤ sizeLine; decide), fun p hp => ⟨.int (s : Nat), rfl, _, _, rfl, rfl, (by show 2 ≤ sizeLine; decide), fun u hu => ⟨u, _, rfl, .inl (.inl upd_same), rfl, _, _, rfl, _, _, rfl, rfl, ?_⟩⟩⟩⟩⟩⟩
    have hv := val_row (s := s) (w := 1) hs (by decide) (by decide)
    have B1 : LawH (upd (upd (upd (upd (upd H1 a (.tup [.int (s : Nat)])) q0 (.tup [.int 0])) b (.tup [.ref q0])) p (.tup [.ref a, .ref b])) u (.tup [.ref p, .int ((s : Nat) + 1)])) h l ∧ PlanAt K (upd (upd (upd (upd (upd H1 a (.tup [.int (s : Nat)])) q0 (.tup [.int 0])) b (.tup [.ref q0])) p (.tup [.ref a, .ref b])) u (.tup [.ref p, .int ((s : Nat) + 1)])) p (zs1 s) (rowR 1) := by
      have s1 := same_upd (o := .tup [.int (s : Nat)]) ha
      have s2 := same_upd (o := .tup [.int 0]) hq0
      have s3 := same_upd (o := .tup [.ref q0]) hb
      have s4 := same_upd (o := .tup [.ref a, .ref b]) hp
      have s5 := same_upd (o := .tup [.ref p, .int ((s : Nat) + 1)]) hu
      exact ⟨((((L1.same s1).same s2).same s3).same s4).same s5, a, b, sqT_same s5 (.of upd_same), sqT_same (((s2.trans s3).trans s4).trans s5) (.of upd_same), [q0], sqT_same (s4.trans s5) (.of upd_same), .cons (sqT_same ((s3.trans s4).trans s5) (.of upd_same)) .nil⟩
    generalize upd (upd (upd (upd (upd H1 a (.tup [.int (s : Nat)])) q0 (.tup [.int 0])) b (.tup [.ref q0])) p (.tup [.ref a, .ref b])) u (.tup [.ref p, .int ((s : Nat) + 1)]) = H2 at B1 ⊢
    clear ha hq0 hb hp hu L1 x1 LH
    obtain ⟨L2, hp2⟩ := B1
    -- the state and the far tick
    refine ⟨.ref p, rfl, ?_⟩
    show qInit _ _ _ _ _
    refine go_init hp2 hv fun H3 st sm3 X3 => ⟨.ref h, rfl, 10, 17, rfl, rfl, ⟨by decide, by decide, by decide⟩, ?_⟩
    rw [start_row] at X3
    have B3 : B19 K H3 h l p st (zs1 s) (rowR 1) ((parc (1 + s)).take 1, [(parc (1 + s)).drop 1]) := ⟨L2.same sm3, X3⟩
    clear X3 L2 hp2 sm3
    show qNext [.ref h, .int ((10 : Int) ^ (17 : Int).toNat)] _ _ _
    rw [show (10 : Int) ^ (17 : Int).toNat = 100000000000000000 by decide]
    refine go_next B3.lw (by decide) (by decide) fun f0 H4 hf4 L4 x4 => ?_
    obtain ⟨f, hf⟩ : ∃ f : Nat, 1 + ((f0 : Nat) : Int) = (f : Nat) := ⟨1 + f0, by omega⟩
    refine ⟨_, _, rfl, rfl, (by show 2 ≤ sizeLine; decide), fun u hu => ⟨u, [.ref st, .int (f : Nat)], rfl, .inl (.inl (by rw [← hf]; exact upd_same)), rfl, _, _, rfl, _, _, rfl, rfl, ?_⟩⟩
    have fb : 1 ≤ f ∧ f ≤ 100000000000000000 := by omega
    have B4 := (B3.nx L4 x4).sm (same_upd (o := .tup [.ref st, .int (1 + (f0 : Nat))]) hu)
    generalize upd H4 u (.tup [.ref st, .int (1 + (f0 : Nat))]) = H5 at B4 ⊢
    clear hu B3 L4 x4 hf4 hf f0
    have s64 : ((s : Nat) : Int) + 1 ≤ 10 := by omega
    -- who is where
    refine ⟨.int (f : Nat), rfl, .inl ⟨_, rfl, .int ((s : Nat) + 1), rfl, _, _, rfl, rfl, (by omega), _, _, rfl, rfl, .int ((s : Nat) + 1), rfl, 1, _, rfl, ⟨by omega, by omega, by omega, by omega⟩, fun D hD => ?_⟩⟩
    refine lc_range (lo := 1) (n := (((s : Nat) : Int) + 1 - 1).toNat) (fun i H' => Same H5 H' ∧ H' D = some (.lst ((List.range i).map fun k => V.int ((((f : Nat) : Int) + (1 + (k : Nat))).fmod ((s : Nat) + 1) + 1)))) ⟨same_upd hD, upd_same⟩ (fun i H' hi ⟨sm, kD⟩ => ?_) (fun H6 ⟨sm, kD⟩ => ?_)
    · refine ⟨rfl, .int (f : Nat), rfl, .int (1 + (i : Nat)), rfl, _, _, rfl, rfl, .int ((s : Nat) + 1), rfl, _, _, rfl, rfl, (by omega), _, _, rfl, rfl, _, kD, (by rw [List.length_map, List.length_range]; exact small1000 (by omega)), same_of sm hD, ?_⟩
      rw [upd_same, List.range_succ, List.map_append]
      rfl
    rw [show (((s : Nat) : Int) + 1 - 1).toNat = s by omega] at kD
    have B6 := B4.sm sm
    clear B4 sm hD
    refine ⟨.ref p, rfl, .ref st, rfl, .int (f : Nat), rfl, ?_⟩
    show qAdvance _ _ _ _ _
    refine go_advance B6.x ⟨by omega, by omega⟩ fun H7 s1 sm7 st7 => ?_
    rw [advA_nat 0 (zs1 s) hv.rne hv.lc1 0 f B6.x.o.f, one_run hs f, Int.zero_add] at st7
    have B7 := B6.sm sm7
    have kD7 := sm7 _ _ kD
    clear B6 sm7 kD
    refine ⟨.int (f : Nat), rfl, .int ((((f : Nat) : Int)).fmod ((s : Nat) + 1) + 1), rfl, (by show 1 ≤ sizeLine; decide), fun c hc => ⟨.ref D, rfl, D, _, rfl, .inl ⟨.inl (.inl (same_upd hc _ _ kD7)), fun r hr' => ⟨(by show 1 ≤ sizeLine; decide), fun sh hsh => ⟨(by show 3 ≤ sizeLine; decide), fun du hdu => ?_⟩⟩⟩⟩⟩
    have kS : B19 K (upd (upd (upd (upd H7 c (.tup [.int ((((f : Nat) : Int)).fmod ((s : Nat) + 1) + 1)])) r (.tup ((List.range s).map fun k => V.int ((((f : Nat) : Int) + (1 + (k : Nat))).fmod ((s : Nat) + 1) + 1)))) sh (.tup [.ref r])) du (.tup [.int (f : Nat), .ref c, .ref sh])) h l p st (zs1 s) (rowR 1) ((parc (1 + s)).take 1, [(parc (1 + s)).drop 1]) ∧ StateAt K (upd (upd (upd (upd H7 c (.tup [.int ((((f : Nat) : Int)).fmod ((s : Nat) + 1) + 1)])) r (.tup ((List.range s).map fun k => V.int ((((f : Nat) : Int) + (1 + (k : Nat))).fmod ((s : Nat) + 1) + 1)))) sh (.tup [.ref r])) du (.tup [.int (f : Nat), .ref c, .ref sh])) s1 (f : Nat) ([((f : Nat) : Int).fmod ((s : Nat) + 1) + 1], [(List.range s).map fun i => (((f : Nat) : Int) + (1 + (i : Nat))).fmod ((s : Nat) + 1) + 1]) ∧ StateAt K (upd (upd (upd (upd H7 c (.tup [.int ((((f : Nat) : Int)).fmod ((s : Nat) + 1) + 1)])) r (.tup ((List.range s).map fun k => V.int ((((f : Nat) : Int) + (1 + (k : Nat))).fmod ((s : Nat) + 1) + 1)))) sh (.tup [.ref r])) du (.tup [.int (f : Nat), .ref c, .ref sh])) du (f : Nat) ([((f : Nat) : Int).fmod ((s : Nat) + 1) + 1], [(List.range s).map fun i => (((f : Nat) : Int) + (1 + (i : Nat))).fmod ((s : Nat) + 1) + 1]) := by
      have s1 := same_upd (o := .tup [.int ((((f : Nat) : Int)).fmod ((s : Nat) + 1) + 1)]) hc
      have s2 := same_upd (o := .tup ((List.range s).map fun k => V.int ((((f : Nat) : Int) + (1 + (k : Nat))).fmod ((s : Nat) + 1) + 1))) hr'
      have s3 := same_upd (o := .tup [.ref r]) hsh
      have s4 := same_upd (o := .tup [.int (f : Nat), .ref c, .ref sh]) hdu
      have sA := ((s1.trans s2).trans s3).trans s4
      refine ⟨B7.sm sA, st7.same sA, c, sh, .of upd_same, sqT_same ((s2.trans s3).trans s4) (.of upd_same), [r], sqT_same s4 (.of upd_same), .cons (sqT_same (s3.trans s4) (.of ?_)) .nil⟩
      rw [upd_same, List.map_map]
      rfl
    generalize upd (upd (upd (upd H7 c (.tup [.int ((((f : Nat) : Int)).fmod ((s : Nat) + 1) + 1)])) r (.tup ((List.range s).map fun k => V.int ((((f : Nat) : Int) + (1 + (k : Nat))).fmod ((s : Nat) + 1) + 1)))) sh (.tup [.ref r])) du (.tup [.int (f : Nat), .ref c, .ref sh]) = H8 at kS ⊢
    obtain ⟨B8, sa, sb⟩ := kS
    clear B7 kD7 st7 hc hr' hsh hdu
    show qAlike _ _ _ _ _
    refine go_alike (dp_state sa) (dp_state sb) (okD_st (by simp) (by simp) (by simp; omega)) fun H9 sm9 => ⟨true, rfl, iteF ?_⟩
    have B9 := B8.sm sm9
    clear B8 sa sb sm9
    -- the period
    refine ⟨.ref p, rfl, .ref st, rfl, ?_⟩
    show qPer _ _ _ _ _
    refine go_per B9.x fun H10 sm10 => ?_
    rw [one_perT hs]
    have B10 := B9.sm sm10
    clear B9 sm10
    refine ⟨.int ((s : Nat) + 1), rfl, rfl, _, rfl, ite_no (ne_no (congrArg V.int (by omega))) ?_⟩
    refine ⟨.ref p, rfl, ?_⟩
    show qPattern _ _ _ _ _
    refine go_pattern B10.x fun H11 sm11 => ⟨rfl, _, rfl, ?_⟩
    rw [lc_row]
    refine ite_no (ne_no rfl) ?_
    have B11 := B10.sm sm11
    clear B10 sm11
    -- the families
    refine ⟨.ref p, rfl, .ref st, rfl, ?_⟩
    show qFamilies _ _ _ _ _
    have ej := (ok_start hv).2
    rw [start_row, rowR_len, sum1] at ej
    refine go_families B11.x fun ys pm so H12 fm sm12 rw12 => ⟨.int ((s : Nat) + 1), rfl, _, _, rfl, rfl, _, _, rfl, rfl, RgOk.of_le (by omega) (by omega) (by omega) (by omega), fun g hg => ⟨(by show 1 ≤ sizeLine; decide), fun ll hll => ?_⟩⟩
    rw [ej] at pm rw12
    obtain rfl := perm_parc pm so
    rw [one_fams hs] at rw12
    have B12 := B11.sm sm12
    have kS : B19 K (upd (upd H12 g (.lst (rgV 1 ((s : Nat) + 1 + 1)))) ll (.lst [.ref g])) h l p st (zs1 s) (rowR 1) ((parc (1 + s)).take 1, [(parc (1 + s)).drop 1]) ∧ Dp K (upd (upd H12 g (.lst (rgV 1 ((s : Nat) + 1 + 1)))) ll (.lst [.ref g])) (.ref fm) (.list [dLi9 (parc (1 + s))]) ∧ Dp K (upd (upd H12 g (.lst (rgV 1 ((s : Nat) + 1 + 1)))) ll (.lst [.ref g])) (.ref ll) (.list [dLi9 (parc (1 + s))]) := by
      have s1 := same_upd (o := .lst (rgV 1 ((s : Nat) + 1 + 1))) hg
      have s2 := same_upd (o := .lst [.ref g]) hll
      refine ⟨B12.sm (s1.trans s2), dp_rows1 (rw12.same (s1.trans s2)), .lst (.inl (.inl upd_same)) (.cons (.lst (.inl (.inl ?_)) (dpAll_int _)) .nil)⟩
      rw [s2 _ _ upd_same, show ((s : Nat) : Int) + 1 + 1 = (((1 + s : Nat) : Int) + 1) by omega, rgV_parc]
    generalize upd (upd H12 g (.lst (rgV 1 ((s : Nat) + 1 + 1)))) ll (.lst [.ref g]) = H13 at kS ⊢
    obtain ⟨B13, da, db⟩ := kS
    clear B11 sm12 rw12 B12 hg hll pm so
    obtain ⟨o1, o2⟩ := shaped1 (l := parc (1 + s)) (by rw [parc_len]; omega)
    refine ne_same da db o1 o2 (by decide) ⟨false, rfl, ite_no rfl ?_⟩
    clear da db o1 o2
    -- a parcel
    refine ⟨.ref h, rfl, .int ((s : Nat) + 1), rfl, ?_⟩
    show qNext [.ref h, .int ((s : Nat) + 1)] _ _ _
    refine go_next B13.lw (by omega) (by omega) fun i H14 hi L14 x14 => ⟨_, _, rfl, rfl, .int (1 + (i : Nat)), rfl, _, _, rfl, rfl, ?_⟩
    have B14 := B13.nx L14 x14
    clear B13 L14 x14
    have hi' : i < s + 1 := by omega
    refine seq_ways (B := fun HZ => HZ = H14) (fun HZ eZ => ?_) (fun kk => kk _ rfl)
    rw [eZ]
    refine seq_num (.int ((if i = 0 then f / (s + 1) else if i ≤ f then (f - i) / (s + 1) + 1 else 0 : Nat) : Int)) (fun Q' q' => ?_) ?_
    · refine ⟨.int (1 + (i : Nat) - 1), rfl, rfl, _, rfl, ?_⟩
      by_cases h0 : i = 0
      · rw [if_pos h0] at q'
        rw [if_pos (decide_eq_true (congrArg V.int (show (1 : Int) + (i : Nat) - 1 = 0 by omega)))]
        refine ⟨.int (f : Nat), rfl, .int ((s : Nat) + 1), rfl, f, s + 1, rfl, rfl, ⟨by omega, by omega⟩, q'⟩
      · rw [if_neg h0] at q'
        rw [if_neg (by rw [decide_eq_false fun e => h0 (by have := V.int.inj e; omega)]; decide)]
        refine ⟨.int (f : Nat), rfl, .int (1 + (i : Nat) - 1), rfl, _, _, rfl, rfl, _, rfl, ?_⟩
        by_cases h1 : i ≤ f
        · rw [if_pos h1] at q'
          rw [if_pos (decide_eq_true (by omega))]
          exact ⟨.int (f : Nat), rfl, .int (1 + (i : Nat) - 1), rfl, _, _, rfl, rfl, .int ((s : Nat) + 1), rfl, f - i, s + 1, congrArg V.int (by omega), rfl, ⟨by omega, by omega⟩, _, _, rfl, rfl, q'⟩
        · rw [if_neg h1] at q'
          rw [if_neg (by rw [decide_eq_false (by omega)]; decide)]
          exact q'
    refine ⟨.ref p, rfl, .ref st, rfl, .int (1 + (i : Nat)), rfl, .int (f : Nat), rfl, ?_⟩
    show qTicksCarried _ _ _ _ _
    have ej2 : (join ((parc (1 + s)).take 1, [(parc (1 + s)).drop 1]))[i]? = some (1 + (i : Nat)) := by rw [ej]; exact parc_at (by omega)
    refine go_TicksCarried B14.x ⟨ej2, ⟨by decide, by rw [rowR_len]; decide⟩, by omega⟩ fun H15 sm15 => ⟨_, rfl, ?_⟩
    rw [one_car hs 0 hi']
    have B15 := B14.sm sm15
    clear B14 sm15 eZ
    show qAlike _ _ _ _ _
    refine go_alike (.int _) (.int _) (okD_i _ _) fun H16 sm16 => ⟨true, rfl, iteF ?_⟩
    have B16 := B15.sm sm16
    clear B15 sm16
    -- the n-th
    refine ⟨.ref h, rfl, 10, 15, rfl, rfl, ⟨by decide, by decide, by decide⟩, ?_⟩
    show qNext [.ref h, .int ((10 : Int) ^ (15 : Int).toNat)] _ _ _
    rw [show (10 : Int) ^ (15 : Int).toNat = 1000000000000000 by decide]
    refine go_next B16.lw (by decide) (by decide) fun n H17 hn L17 x17 => ⟨_, _, rfl, rfl, .ref p, rfl, .ref st, rfl, .int (1 + (i : Nat)), rfl, .int (1 + (n : Nat)), rfl, ?_⟩
    have B17 := B16.nx L17 x17
    clear B16 L17 x17
    show qNthLeft _ _ _ _ _
    refine go_NthLeft B17.x ⟨ej2, ⟨by decide, by show (0 : Int) < ((1 : Nat) : Int); decide⟩, ⟨by omega, by omega⟩⟩ fun H18 v sm18 nv => ?_
    rw [one_nth hs 0 hi' (by omega) nv]
    refine ⟨.int (1 + (i : Nat)), rfl, .int (1 + (n : Nat)), rfl, _, _, rfl, rfl, .int ((s : Nat) + 1), rfl, _, _, rfl, rfl, .inr ⟨by omega, by omega⟩, _, _, rfl, rfl, rfl, ?_⟩
    show Q (.bl (decide (V.int ((i : Nat) + 1 + (1 + (n : Nat) - 1) * ((s : Nat) + 1)) = V.int (1 + (i : Nat) + (1 + (n : Nat) - 1) * ((s : Nat) + 1))))) H18
    rw [decide_eq_true (congrArg V.int (by rw [Int.add_comm (i : Int) 1]))]
    exact q _ (B17.lw.same sm18)
end
end Sv


set_option maxHeartbeats 8000000
namespace Sv
open PySem PySem.Spec PyProof.Rows L2
theorem opImp19 {X : Cx} {q : R2} {f : Value → Value → Sem Value} (e : q = rRepT1 X.K) (h : OpR X f (rRepT1 X.K)) : OpR X f q := e ▸ h
@[irreducible] def qRep (K : PySem.W.Frag) : R2 := rRepT1 K
theorem op_repQ {X : Cx} : OpR X (binaryOp .Mult) (qRep X.K) := by
  unfold qRep
  exact op_repT1
theorem rep_go {K : PySem.W.Frag} {H : Hp} {l : Addr} {k : Nat} {xs : List V} {Q : VK} (h : SqT K H l xs) (hne : xs ≠ []) (h1 : 1 ≤ k) (h2 : k ≤ 1000) (hz : xs.length ≤ 1000) (q : ∀ p H', Same H H' → SqT K H' p (List.replicate k xs).flatten → Q (.ref p) H') : qRep K (.ref l) (.int (k : Nat)) H Q := by
  unfold qRep
  refine ⟨l, (k : Nat), xs, rfl, rfl, h, hne, by omega, by omega, hz, fun e => ?_, fun _ p hp => ?_⟩
  · have : k = 1 := by omega
    subst this
    refine q l H (fun _ _ h => h) ?_
    rw [show (List.replicate 1 xs).flatten = xs by simp]
    exact h
  · rw [Int.toNat_natCast]
    exact q p _ (same_upd hp) (.of upd_same)
def quL (s w : Nat) : List Int := ((List.range s).map fun i => ((w : Nat) : Int) + (i : Nat) + 1) ++ (List.range w).map fun i => (0 : Int) + (i : Nat) + 1
theorem quL_len (s w : Nat) : (quL s w).length = s + w := by unfold quL; simp
theorem quL_at {s w : Nat} (hw : w ≤ s) {j : Nat} (hj : j < s + w) : (quL s w)[j]? = some (1 + (((j + w) % (s + w) : Nat) : Int)) := by
  unfold quL
  by_cases h : j < s
  · rw [List.getElem?_append_left (by simp; exact h), List.getElem?_map, List.getElem?_range h, Nat.mod_eq_of_lt (by omega)]
    show some (((w : Nat) : Int) + (j : Nat) + 1) = _
    congr 1
    omega
  · rw [List.getElem?_append_right (by simp; omega), List.getElem?_map, List.length_map, List.length_range, List.getElem?_range (by omega), Nat.mod_eq_sub_mod (by omega), Nat.mod_eq_of_lt (by omega)]
    show some ((0 : Int) + ((j - s : Nat) : Int) + 1) = _
    congr 1
    omega
theorem qu_turned {s w f : Nat} (h1 : 1 ≤ w) (hw : w ≤ s) {cs q : List Int} (l1 : cs.length = w) (l2 : q.length = s) (h : ∀ j, j < s + w → (q ++ cs)[j]? = some (1 + (((j + f * w + w) % (s + w) : Nat) : Int))) : (quL s w).drop (f * w % (s + w)) ++ (quL s w).take (f * w % (s + w)) = q ++ cs := by
  have hl := quL_len s w
  have hm := Nat.mod_lt (f * w) (show s + w > 0 by omega)
  refine List.ext_getElem? fun j => ?_
  by_cases hj : j < s + w
  · rw [rotq_at (by omega) (by omega), hl, quL_at hw (Nat.mod_lt _ (by omega)), h j hj]
    congr 3
    rw [Nat.mod_add_mod, Nat.add_right_comm, Nat.add_mod_mod, Nat.add_right_comm]
  · rw [List.getElem?_eq_none (by rw [List.length_append, List.length_drop, List.length_take]; omega), List.getElem?_eq_none (by rw [List.length_append]; omega)]
theorem cut_fromI {l : List Int} {k : Nat} : cutV (l.map V.int) (some (k : Int)) none = (l.drop k).map V.int := by rw [cut_from, List.map_drop]
theorem cut_toI {l : List Int} {k : Nat} : cutV (l.map V.int) none (some (k : Int)) = (l.take k).map V.int := by rw [cut_to, List.map_take]
theorem rep_refs (w : Nat) (q : Addr) : (List.replicate w [V.ref q]).flatten = (List.replicate w q).map V.ref := by
  rw [List.map_replicate]
  induction w with
  | zero => rfl
  | succ w ih =>
    rw [List.replicate_succ, List.replicate_succ, List.flatten_cons, ih]
    rfl
theorem paired_rep {K : PySem.W.Frag} {H : Hp} {q : Addr} {r : Ro} (h : SqT K H q (rV r)) : ∀ w, Paired (fun q r => SqT K H q (rV r)) (List.replicate w q) (List.replicate w r)
  | 0 => .nil
  | w + 1 => .cons h (paired_rep h w)
section
variable {P : Program} {w : World} {K : PySem.W.Frag} {mg : Str → Option Value} {base : Heap}
def n2 : List Str := ["_law_h", "_law_size", "_law_width", "_law_plan", "_law_state", "_law_far", "_law_many", "_law_queue", "_law_start", "_law_turned", "_law_due", "_law_k"]
theorem sc2 : FnScope n2 ["_law_h"] (defScope sQueueRight) := ⟨rfl, rfl, rfl, by decide +kernel, rfl, by decide +kernel, by decide +kernel⟩
def spQueueR (K : PySem.W.Frag) : Sp := fun vs H Q _ => ∃ (h l : Addr), vs = [.ref h] ∧ LawH H h l ∧ ∀ H', LawH H' h l → Q (.bl true) H'
theorem ok_queueR (T : Bd P K mg) : FnOk P w K mg base CX0 13 T.aLQueueRight T.dLQueueRight ["_law_h"] (spQueueR K) := by
  have JI : FnOk P w K mg base (L2.CX P w) 12 T.aInitial T.dInitial ["plan"] (qInit K) := init_ok T
  have JA : FnOk P w K mg base (L2.CX P w) 12 T.aAdvance T.dAdvance ["plan", "state", "count"] (qAdvance K) := adv_ok T
  have JW : FnOk P w K mg base (L2.CX P w) 12 T.aPeriod T.dPeriod ["plan", "state"] (qPer K) := per9_ok T
  have GN : FnOk P w K mg base CX0 1 T.aLNext T.dLNext ["_law_h", "_law_limit"] qNext := by unfold qNext; exact ok_next T.LNext.F T.bt
  have GA : FnOk P w K mg base CX0 7 T.aLAlike T.dLAlike ["_law_found", "_law_due"] (qAlike K) := by unfold qAlike; exact ok_alike T.LAlike T.bt 6
  refine T.LQueueRight.F.ok sc2 (fun vs H Q E h => ?_) (fun cdv A outer s H vs Q E hr h => ?_)
  · obtain ⟨h, l, rfl, _⟩ := h
    rfl
  · obtain ⟨h, l, rfl, LH, q⟩ := h
    refine ⟨_, pss_cons (ps_par (i := 1) (j := 2) rfl sc2.nd rfl rfl (by decide) rfl rfl (pa_cons (pe_call (E := E0) GN (hr.mono (by decide)) (by rfl) T.LNext.g T.LNext.F.kp T.LNext.b .nil pass0 (pa_cons (pv 0) (pa_cons (pe_int) pa_nil))) (pa_cons (pe_op op_add (pe_int) (pe_call (E := E0) GN (hr.mono (by decide)) (by rfl) T.LNext.g T.LNext.F.kp T.LNext.b .nil pass0 (pa_cons (pv 0) (pa_cons (pe_int) pa_nil)))) pa_nil)) (by rfl))
      (pss_cons (ps_set (i := 3) sc2.nd rfl (Or.inl rfl) (pe_tup (pa_cons (pe_tup (pa_cons (pv 1) pa_nil)) (pa_cons (pe_op op_repQ (pe_tup (pa_cons (pe_tup (pa_cons (pe_int) pa_nil)) pa_nil)) (pv 2)) pa_nil))))
      (pss_cons (ps_par (i := 4) (j := 5) rfl sc2.nd rfl rfl (by decide) rfl rfl (pa_cons (pe_call (E := E0) JI (hr.mono (by decide)) (by rfl) T.Initial.g T.Initial.F.kp T.Initial.b .nil passL (pa_cons (pv 3) pa_nil)) (pa_cons (pe_call (E := E0) GN (hr.mono (by decide)) (by rfl) T.LNext.g T.LNext.F.kp T.LNext.b .nil pass0 (pa_cons (pv 0) (pa_cons (pe_op op_pow pe_int pe_int) pa_nil))) pa_nil)) (by rfl))
      (pss_cons (ps_set (i := 6) sc2.nd rfl (Or.inl rfl) (pe_op op_add (pv 1) (pv 2)))
      (pss_cons (ps_if (pt_cmpR op_lt (pv 1) (pv 2) (nomark _)) (pss_one (ps_ret (pe_cmpR op_ge (pe_call (E := E0) JW (hr.mono (by decide)) (by rfl) T.Period.g T.Period.F.kp T.Period.b .nil passL (pa_cons (pv 3) (pa_cons (pv 4) pa_nil))) (pe_int) (nomark _)))) pss_nil)
      (pss_cons (ps_set (i := 7) sc2.nd rfl (Or.inl rfl) (pe_op op_cat (pe_lc (own := [("_law_k", 11)]) (g := gName 11) (tt := tYes) (te := tOp (rI0 fun i j => .int (i + j)) (tVar 11) (tC (.int 1))) rfl sc2.nd (pi_range2 (by rfl) T.bt.range (pa_cons (pv 2) (pa_cons (pv 6) pa_nil))) (blkOk_by (N := n2) (sc := defScope sQueueRight) (by decide +kernel)) (fun _ _ _ _ _ => pg_name (i := 11) sc2.nd rfl (Or.inl rfl)) (fun _ _ _ _ _ => pts_nil) (fun _ _ _ _ _ => pe_op op_add (pv 11) (pe_int))) (pe_lc (own := [("_law_k", 11)]) (g := gName 11) (tt := tYes) (te := tOp (rI0 fun i j => .int (i + j)) (tVar 11) (tC (.int 1))) rfl sc2.nd (pi_range1 (by rfl) T.bt.range (pa_cons (pv 2) pa_nil)) (blkOk_by (N := n2) (sc := defScope sQueueRight) (by decide +kernel)) (fun _ _ _ _ _ => pg_name (i := 11) sc2.nd rfl (Or.inl rfl)) (fun _ _ _ _ _ => pts_nil) (fun _ _ _ _ _ => pe_op op_add (pv 11) (pe_int)))))
      (pss_cons (ps_set (i := 8) sc2.nd rfl (Or.inl rfl) (pe_op op_modN (pe_callTy call_int1 (by rfl) T.bt.int b_int (pa_cons (pe_op op_mul (pv 5) (pv 2)) pa_nil)) (pv 6)))
      (pss_cons (ps_set (i := 9) sc2.nd rfl (Or.inl rfl) (pe_op op_cat (pe_slice sl_list (pv 7) (po_some (pv 8)) po_none) (pe_slice sl_list (pv 7) po_none (po_some (pv 8)))))
      (pss_cons (ps_set (i := 10) sc2.nd rfl (Or.inl rfl) (pe_tup (pa_cons (pv 5) (pa_cons (pe_callTy call_tuple_of (by rfl) T.bt.tuple b_tuple (pa_cons (pe_slice sl_list (pv 9) (po_some (pv 1)) po_none) pa_nil)) (pa_cons (pe_tup (pa_cons (pe_callTy call_tuple_of (by rfl) T.bt.tuple b_tuple (pa_cons (pe_slice sl_list (pv 9) po_none (po_some (pv 1))) pa_nil)) pa_nil)) pa_nil)))))
      (pss_one (ps_ret (pe_call (E := E0) GA (hr.mono (by decide)) (by rfl) T.LAlike.g T.LAlike.F.kp T.LAlike.b .nil pass0 (pa_cons (pe_call (E := E0) JA (hr.mono (by decide)) (by rfl) T.Advance.g T.Advance.F.kp T.Advance.b .nil passL (pa_cons (pv 3) (pa_cons (pv 4) (pa_cons (pv 5) pa_nil)))) (pa_cons (pv 10) pa_nil))))))))))))), ?_⟩
    have p64 : (1000 : Int) < 2 ^ 64 := by decide
    have q64 : (1000000000000000000 : Int) < 2 ^ 64 := by decide
    have m64 : -(2 ^ 64 : Int) < 0 := by decide
    -- the plan
    refine ⟨.ref h, rfl, ?_⟩
    show qNext _ _ _ _
    refine go_next LH (by decide) (by decide) fun s H1 hs' L1 x1 => ⟨.ref h, rfl, ?_⟩
    have hs : s ≤ 9 := by omega
    show qNext _ _ _ _
    refine go_next L1 (by decide) (by decide) fun w0 H2 hw0 L2 x2 => ?_
    obtain ⟨w9, hw⟩ : ∃ w : Nat, 1 + ((w0 : Nat) : Int) = (w : Nat) := ⟨1 + w0, by omega⟩
    have wb : 1 ≤ w9 ∧ w9 ≤ 6 := by omega
    refine ⟨_, _, rfl, rfl, _, _, rfl, .int (s : Nat), rfl, (by show 1 ≤ sizeLine; decide), fun a ha => ⟨(by show 1 ≤ sizeLine; decide), fun q0 hq0 => ⟨(by show 1 ≤ sizeLine; decide), fun b hb => ⟨.int (w9 : Nat), (by rw [← hw]; rfl), ?_⟩⟩⟩⟩
    have hv := val_row (s := s) (w := w9) hs wb.1 wb.2
    have B1 : LawH (upd (upd (upd H2 a (.tup [.int (s : Nat)])) q0 (.tup [.int 0])) b (.tup [.ref q0])) h l ∧ SqT K (upd (upd (upd H2 a (.tup [.int (s : Nat)])) q0 (.tup [.int 0])) b (.tup [.ref q0])) a [.int (s : Nat)] ∧ SqT K (upd (upd (upd H2 a (.tup [.int (s : Nat)])) q0 (.tup [.int 0])) b (.tup [.ref q0])) q0 [.int 0] := by
      have s1 := same_upd (o := .tup [.int (s : Nat)]) ha
      have s2 := same_upd (o := .tup [.int 0]) hq0
      have s3 := same_upd (o := .tup [.ref q0]) hb
      exact ⟨((L2.same s1).same s2).same s3, sqT_same (s2.trans s3) (.of upd_same), sqT_same s3 (.of upd_same)⟩
    have kb : SqT K (upd (upd (upd H2 a (.tup [.int (s : Nat)])) q0 (.tup [.int 0])) b (.tup [.ref q0])) b [.ref q0] := .of upd_same
    generalize upd (upd (upd H2 a (.tup [.int (s : Nat)])) q0 (.tup [.int 0])) b (.tup [.ref q0]) = H3 at B1 kb ⊢
    obtain ⟨L3, ka, kq⟩ := B1
    show qRep _ _ _ _ _
    refine rep_go kb (by simp) wb.1 (by omega) (by show 1 ≤ 1000; decide) fun b2 H4 sm4 kb2 => ⟨(by show 2 ≤ sizeLine; decide), fun p hp => ?_⟩
    rw [rep_refs] at kb2
    have hp4 : PlanAt K (upd H4 p (.tup [.ref a, .ref b2])) p (zs1 s) (rowR w9) := by
      have s5 := same_upd (o := .tup [.ref a, .ref b2]) hp
      exact ⟨a, b2, .of upd_same, sqT_same (sm4.trans s5) ka, _, sqT_same s5 kb2, paired_rep (sqT_same (sm4.trans s5) kq) w9⟩
    have L4 := (L3.same sm4).same (same_upd (o := .tup [.ref a, .ref b2]) hp)
    generalize upd H4 p (.tup [.ref a, .ref b2]) = H5 at L4 hp4 ⊢
    clear ha hq0 hb hp L1 x1 LH L2 x2 L3 ka kq kb kb2 sm4
    -- the state and the far tick
    refine ⟨.ref p, rfl, ?_⟩
    show qInit _ _ _ _ _
    refine go_init hp4 hv fun H6 st sm6 X6 => ⟨.ref h, rfl, 10, 17, rfl, rfl, ⟨by decide, by decide, by decide⟩, ?_⟩
    rw [start_row] at X6
    have B6 : B19 K H6 h l p st (zs1 s) (rowR w9) ((parc (w9 + s)).take w9, [(parc (w9 + s)).drop w9]) := ⟨L4.same sm6, X6⟩
    clear X6 L4 hp4 sm6
    show qNext [.ref h, .int ((10 : Int) ^ (17 : Int).toNat)] _ _ _
    rw [show (10 : Int) ^ (17 : Int).toNat = 100000000000000000 by decide]
    refine go_next B6.lw (by decide) (by decide) fun f H7 hf L7 x7 => ?_
    have B7 := B6.nx L7 x7
    clear B6 L7 x7
    refine ⟨_, _, rfl, .int (s : Nat), rfl, .int (w9 : Nat), (by rw [← hw]; rfl), _, _, rfl, rfl, .int (s : Nat), rfl, .int (w9 : Nat), (by rw [← hw]; rfl), _, _, rfl, rfl, _, rfl, ?_⟩
    by_cases hsw : s < w9
    · refine ite_yes (decide_eq_true (by omega)) ⟨.ref p, rfl, .ref st, rfl, ?_⟩
      show qPer _ _ _ _ _
      refine go_per B7.x fun H8 sm8 => ⟨_, _, rfl, rfl, ?_⟩
      have hp0 := perT_pos (zs := zs1 s) (rs := rowR w9) hv.rne hv.lc1 0
      show Q (.bl (decide ((1 : Int) ≤ ((perT (zs1 s) (rowR w9) 0 : Nat) : Int)))) H8
      rw [decide_eq_true (by omega)]
      exact q _ (B7.lw.same sm8)
    refine ite_no (decide_eq_false (by omega)) ?_
    have hws : w9 ≤ s := by omega
    -- the queue
    refine ⟨.int (w9 : Nat), (by rw [← hw]; rfl), .int ((s : Nat) + (w9 : Nat)), rfl, _, _, rfl, ⟨by omega, by omega, by omega, by omega⟩, fun D hD => ?_⟩
    refine lc_range (lo := (w9 : Nat)) (n := (((s : Nat) : Int) + (w9 : Nat) - (w9 : Nat)).toNat) (fun i H' => Same H7 H' ∧ H' D = some (.lst (((List.range i).map fun k => ((w9 : Nat) : Int) + (k : Nat) + 1).map V.int))) ⟨same_upd hD, upd_same⟩ (fun i H' hi ⟨sm, kD⟩ => ?_) (fun H8 ⟨sm, kD⟩ => ?_)
    · refine ⟨rfl, .int ((w9 : Nat) + (i : Nat)), rfl, _, _, rfl, rfl, _, kD, (by rw [List.length_map, List.length_map, List.length_range]; exact small1000 (by omega)), same_of sm hD, ?_⟩
      rw [upd_same, List.range_succ, List.map_append, List.map_append]
      rfl
    rw [show (((s : Nat) : Int) + (w9 : Nat) - (w9 : Nat)).toNat = s by omega] at kD
    have B8 := B7.sm sm
    clear B7 sm hD
    refine ⟨.int (w9 : Nat), (by rw [← hw]; rfl), _, rfl, by omega, by omega, fun D2 hD2 => ?_⟩
    refine lc_range (lo := 0) (n := ((w9 : Nat) : Int).toNat) (fun i H' => Same H8 H' ∧ H' D2 = some (.lst (((List.range i).map fun k => (0 : Int) + (k : Nat) + 1).map V.int))) ⟨same_upd hD2, upd_same⟩ (fun i H' hi ⟨sm, kD⟩ => ?_) (fun H9 ⟨sm, kD2⟩ => ?_)
    · refine ⟨rfl, .int (0 + (i : Nat)), rfl, _, _, rfl, rfl, _, kD, (by rw [List.length_map, List.length_map, List.length_range]; exact small1000 (by omega)), same_of sm hD2, ?_⟩
      rw [upd_same, List.range_succ, List.map_append, List.map_append]
      rfl
    rw [Int.toNat_natCast] at kD2
    have B9 := B8.sm sm
    have kD9 := sm _ _ kD
    clear B8 sm hD2 kD
    refine ⟨D, D2, _, _, rfl, rfl, kD9, kD2, ?_, fun D3 hD3 => ?_⟩
    · rw [List.length_map, List.length_map, List.length_map, List.length_map, List.length_range, List.length_range]
      exact sz1000 (by omega)
    rw [← List.map_append, show ((List.range s).map fun k => ((w9 : Nat) : Int) + (k : Nat) + 1) ++ ((List.range w9).map fun k => (0 : Int) + (k : Nat) + 1) = quL s w9 from rfl]
    have kQ : (upd H9 D3 (.lst ((quL s w9).map V.int))) D3 = some (.lst ((quL s w9).map V.int)) := upd_same
    have BA := B9.sm (same_upd (o := .lst ((quL s w9).map V.int)) hD3)
    generalize upd H9 D3 (.lst ((quL s w9).map V.int)) = HA at BA kQ ⊢
    clear B9 kD9 kD2 hD3
    -- turned
    have hmod : ∀ a : Nat, ((a : Nat) : Int).fmod (((s : Nat) : Int) + (w9 : Nat)) = ((a % (s + w9) : Nat) : Int) := fun a => by
      rw [Int.fmod_eq_emod_of_nonneg _ (by omega), Int.natCast_emod]
      rfl
    have est : (((f : Nat) : Int) * (w9 : Nat)).fmod (((s : Nat) : Int) + (w9 : Nat)) = ((f * w9 % (s + w9) : Nat) : Int) := by
      rw [← hmod, Int.natCast_mul]
    refine ⟨.int (f : Nat), rfl, .int (w9 : Nat), (by rw [← hw]; rfl), _, _, rfl, rfl, .inr ⟨by omega, by omega⟩, .inl ⟨_, rfl, .int ((s : Nat) + (w9 : Nat)), rfl, _, _, rfl, rfl, (by omega), ?_⟩⟩
    refine ⟨.ref D3, rfl, .int ((f * w9 % (s + w9) : Nat) : Int), (by rw [← est]; rfl), _, rfl, D3, _, rfl, .inl (.inl kQ), fun c1 hc1 => ⟨.ref D3, rfl, .int ((f * w9 % (s + w9) : Nat) : Int), (by rw [← est]; rfl), _, rfl, D3, _, rfl, .inl (.inl (same_upd hc1 _ _ kQ)), fun c2 hc2 => ⟨c1, c2, _, _, rfl, rfl, same_upd hc2 _ _ upd_same, upd_same, ?_, fun T hT => ?_⟩⟩⟩
    · rw [cut_fromI, cut_toI, List.length_map, List.length_map, List.length_drop, List.length_take, quL_len]
      exact sz1000 (by omega)
    obtain ⟨cs', q', er, l1, l2, hh⟩ := run_start (s := s) wb.1 hws 0 f
    rw [cut_fromI, cut_toI, ← List.map_append, qu_turned wb.1 hws l1 l2 hh]
    have BB : B19 K (upd (upd (upd HA c1 (.lst (((quL s w9).drop (f * w9 % (s + w9))).map V.int))) c2 (.lst (((quL s w9).take (f * w9 % (s + w9))).map V.int))) T (.lst ((q' ++ cs').map V.int))) h l p st (zs1 s) (rowR w9) ((parc (w9 + s)).take w9, [(parc (w9 + s)).drop w9]) := by
      rw [cut_fromI] at hc2 hT
      rw [cut_toI] at hT
      exact ((BA.sm (same_upd hc1)).sm (same_upd hc2)).sm (same_upd hT)
    have kT : (upd (upd (upd HA c1 (.lst (((quL s w9).drop (f * w9 % (s + w9))).map V.int))) c2 (.lst (((quL s w9).take (f * w9 % (s + w9))).map V.int))) T (.lst ((q' ++ cs').map V.int))) T = some (.lst ((q' ++ cs').map V.int)) := upd_same
    generalize upd (upd (upd HA c1 (.lst (((quL s w9).drop (f * w9 % (s + w9))).map V.int))) c2 (.lst (((quL s w9).take (f * w9 % (s + w9))).map V.int))) T (.lst ((q' ++ cs').map V.int)) = HB at BB kT ⊢
    clear BA hc1 hc2 hT kQ est
    -- what is due
    refine ⟨.int (f : Nat), rfl, .ref T, rfl, .int (s : Nat), rfl, _, rfl, T, _, rfl, .inl (.inl kT), fun e1 he1 => ⟨e1, _, rfl, .inl ⟨.inl (.inl upd_same), fun t1 ht1 => ⟨.ref T, rfl, .int (s : Nat), rfl, _, rfl, T, _, rfl, .inl (.inl (same_upd ht1 _ _ (same_upd he1 _ _ kT))), fun e2 he2 => ⟨e2, _, rfl, .inl ⟨.inl (.inl upd_same), fun t2 ht2 => ⟨(by show 1 ≤ sizeLine; decide), fun sh hsh => ⟨(by show 3 ≤ sizeLine; decide), fun du hdu => ?_⟩⟩⟩⟩⟩⟩⟩⟩
    rw [cut_fromI] at ht1 he2 ht2 hsh hdu ⊢
    rw [cut_toI] at ht2 hsh hdu ⊢
    rw [List.drop_append_of_le_length (by omega), List.drop_of_length_le (by omega), List.nil_append] at ht1 he2 ht2 hsh hdu ⊢
    rw [List.take_append_of_le_length (by omega), List.take_of_length_le (by omega)] at ht2 hsh hdu ⊢
    have kS : B19 K (upd (upd (upd (upd (upd (upd HB e1 (.lst (cs'.map V.int))) t1 (.tup (cs'.map V.int))) e2 (.lst (q'.map V.int))) t2 (.tup (q'.map V.int))) sh (.tup [.ref t2])) du (.tup [.int (f : Nat), .ref t1, .ref sh])) h l p st (zs1 s) (rowR w9) ((parc (w9 + s)).take w9, [(parc (w9 + s)).drop w9]) ∧ StateAt K (upd (upd (upd (upd (upd (upd HB e1 (.lst (cs'.map V.int))) t1 (.tup (cs'.map V.int))) e2 (.lst (q'.map V.int))) t2 (.tup (q'.map V.int))) sh (.tup [.ref t2])) du (.tup [.int (f : Nat), .ref t1, .ref sh])) du (f : Nat) (cs', [q']) := by
      have s1 := same_upd (o := .lst (cs'.map V.int)) he1
      have s2 := same_upd (o := .tup (cs'.map V.int)) ht1
      have s3 := same_upd (o := .lst (q'.map V.int)) he2
      have s4 := same_upd (o := .tup (q'.map V.int)) ht2
      have s5 := same_upd (o := .tup [.ref t2]) hsh
      have s6 := same_upd (o := .tup [.int (f : Nat), .ref t1, .ref sh]) hdu
      exact ⟨BB.sm (((((s1.trans s2).trans s3).trans s4).trans s5).trans s6), t1, sh, .of upd_same, sqT_same (((s3.trans s4).trans s5).trans s6) (.of upd_same), [t2], sqT_same s6 (.of upd_same), .cons (sqT_same (s5.trans s6) (.of upd_same)) .nil⟩
    generalize (upd (upd (upd (upd (upd (upd HB e1 (.lst (cs'.map V.int))) t1 (.tup (cs'.map V.int))) e2 (.lst (q'.map V.int))) t2 (.tup (q'.map V.int))) sh (.tup [.ref t2])) du (.tup [.int (f : Nat), .ref t1, .ref sh])) = HC at kS ⊢
    obtain ⟨BC, sb⟩ := kS
    clear BB kT he1 ht1 he2 ht2 hsh hdu
    refine ⟨.ref p, rfl, .ref st, rfl, .int (f : Nat), rfl, ?_⟩
    show qAdvance _ _ _ _ _
    refine go_advance BC.x ⟨by omega, by omega⟩ fun HD s1 smD stD => ⟨.ref du, rfl, ?_⟩
    rw [advA_nat 0 (zs1 s) hv.rne hv.lc1 0 f BC.x.o.f, er, Int.zero_add] at stD
    show qAlike _ _ _ _ _
    refine go_alike (dp_state stD) (dp_state (sb.same smD)) (okD_st (by rw [l1]; omega) (by show 1 ≤ 1000; decide) fun r hr => by rw [List.mem_singleton.mp hr, l2]; omega) fun HE smE => ?_
    exact q _ ((BC.lw.same smD).same smE)
end
end Sv


set_option maxHeartbeats 8000000
namespace Sv
open PySem PySem.Spec PyProof.Rows L2
section
variable {P : Program} {w : World} {K : PySem.W.Frag} {mg : Str → Option Value} {base : Heap}
def n3 : List Str := ["_law_h", "_law_count", "_law_size", "_law_plan", "_law_state", "_law_number", "_law_when", "_law_place"]
theorem sc3 : FnScope n3 ["_law_h"] (defScope sRoundRight) := ⟨rfl, rfl, rfl, by decide +kernel, rfl, by decide +kernel, by decide +kernel⟩
def spRoundR (K : PySem.W.Frag) : Sp := fun vs H Q _ => ∃ (h l : Addr), vs = [.ref h] ∧ LawH H h l ∧ ∀ H', LawH H' h l → Q (.bl true) H'
theorem ok_roundR (T : Bd P K mg) : FnOk P w K mg base CX0 13 T.aLRoundRight T.dLRoundRight ["_law_h"] (spRoundR K) := by
  have JI : FnOk P w K mg base (L2.CX P w) 12 T.aInitial T.dInitial ["plan"] (qInit K) := init_ok T
  have JS : FnOk P w K mg base (L2.CX P w) 12 T.aStampAt T.dStampAt ["plan", "state", "parcel", "number"] (qStampAt K) := stampAt_ok T
  have JL : FnOk P w K mg base (L2.CX P w) 12 T.aLocate T.dLocate ["plan", "state", "parcel", "count"] (qLocate K) := loc_ok T
  have JT : FnOk P w K mg base (L2.CX P w) 12 T.aTimesLeft T.dTimesLeft ["plan", "state", "parcel", "shelf", "count"] (qTimesLeft K) := timesLeft_ok T
  have JB : FnOk P w K mg base (L2.CX P w) 12 T.aFollowsBy T.dFollowsBy ["plan", "state", "one", "other"] (qFollows K) := follows_ok T
  have GN : FnOk P w K mg base CX0 1 T.aLNext T.dLNext ["_law_h", "_law_limit"] qNext := by unfold qNext; exact ok_next T.LNext.F T.bt
  refine T.LRoundRight.F.ok sc3 (fun vs H Q E h => ?_) (fun cdv A outer s H vs Q E hr h => ?_)
  · obtain ⟨h, l, rfl, _⟩ := h
    rfl
  · obtain ⟨h, l, rfl, LH, q⟩ := h
    refine ⟨_, pss_cons (ps_par (i := 1) (j := 2) rfl sc3.nd rfl rfl (by decide) rfl rfl (pa_cons (pe_op op_add (pe_int) (pe_call (E := E0) GN (hr.mono (by decide)) (by rfl) T.LNext.g T.LNext.F.kp T.LNext.b .nil pass0 (pa_cons (pv 0) (pa_cons (pe_int) pa_nil)))) (pa_cons (pe_op op_add (pe_int) (pe_call (E := E0) GN (hr.mono (by decide)) (by rfl) T.LNext.g T.LNext.F.kp T.LNext.b .nil pass0 (pa_cons (pv 0) (pa_cons (pe_int) pa_nil)))) pa_nil)) (by rfl))
      (pss_cons (ps_set (i := 3) sc3.nd rfl (Or.inl rfl) (pe_tup (pa_cons (pe_op op_repQ (pe_tup (pa_cons (pv 2) pa_nil)) (pv 1)) (pa_cons (pe_tup (pa_cons (pe_tupRg rfl (by rfl) T.bt.tuple (prg_1 (by rfl) T.bt.range (pv 1))) pa_nil)) pa_nil))))
      (pss_cons (ps_par (i := 4) (j := 5) rfl sc3.nd rfl rfl (by decide) rfl rfl (pa_cons (pe_call (E := E0) JI (hr.mono (by decide)) (by rfl) T.Initial.g T.Initial.F.kp T.Initial.b .nil passL (pa_cons (pv 3) pa_nil)) (pa_cons (pe_op op_add (pe_int) (pe_call (E := E0) GN (hr.mono (by decide)) (by rfl) T.LNext.g T.LNext.F.kp T.LNext.b .nil pass0 (pa_cons (pv 0) (pa_cons (pe_op op_pow pe_int pe_int) pa_nil)))) pa_nil)) (by rfl))
      (pss_cons (ps_if (pt_cmpR op_ne (pe_call (E := E0) JS (hr.mono (by decide)) (by rfl) T.StampAt.g T.StampAt.F.kp T.StampAt.b .nil passL (pa_cons (pv 3) (pa_cons (pv 4) (pa_cons (pe_int) (pa_cons (pv 5) pa_nil))))) (pe_op op_modN (pe_op op_mul (pe_op op_sub (pv 5) (pe_int)) (pe_op op_add (pe_op op_mul (pv 2) (pv 1)) (pe_int))) (pv 1)) (nomark _)) pss_never pss_nil)
      (pss_cons (ps_set (i := 6) sc3.nd rfl (Or.inl rfl) (pe_op op_add (pe_int) (pe_op op_mul (pe_op op_sub (pv 5) (pe_int)) (pe_op op_add (pe_op op_mul (pv 2) (pv 1)) (pe_int)))))
      (pss_cons (ps_set (i := 7) sc3.nd rfl (Or.inl rfl) (pe_call (E := E0) JL (hr.mono (by decide)) (by rfl) T.Locate.g T.Locate.F.kp T.Locate.b .nil passL (pa_cons (pv 3) (pa_cons (pv 4) (pa_cons (pe_int) (pa_cons (pv 6) pa_nil))))))
      (pss_cons (ps_if (pt_cmpR (op_neQ hr.units) (pv 7) (pe_tup (pa_cons (pe_str) (pa_cons (pe_op op_modN (pe_op op_sub (pv 6) (pe_int)) (pv 1)) (pa_cons (pe_op op_sub (pv 2) (pe_int)) pa_nil)))) (nomark _)) pss_never pss_nil)
      (pss_one (ps_ret (pe_and (pe_cmpR op_eq (pe_call (E := E0) JT (hr.mono (by decide)) (by rfl) T.TimesLeft.g T.TimesLeft.F.kp T.TimesLeft.b .nil passL (pa_cons (pv 3) (pa_cons (pv 4) (pa_cons (pe_int) (pa_cons (pe_int) (pa_cons (pe_int) pa_nil)))))) pe_int (nomark _)) (pe_one (pe_cmpR op_eq (pe_call (E := E0) JB (hr.mono (by decide)) (by rfl) T.FollowsBy.g T.FollowsBy.F.kp T.FollowsBy.b .nil passL (pa_cons (pv 3) (pa_cons (pv 4) (pa_cons (pe_int) (pa_cons (pe_int) pa_nil))))) pe_int (nomark _)))))))))))), ?_⟩
    have p64 : (1000 : Int) < 2 ^ 64 := by decide
    have q64 : (1000000000000000000 : Int) < 2 ^ 64 := by decide
    have m64 : -(2 ^ 64 : Int) < 0 := by decide
    -- the plan
    refine ⟨.ref h, rfl, ?_⟩
    show qNext _ _ _ _
    refine go_next LH (by decide) (by decide) fun c0 H1 hc0 L1 x1 => ⟨_, _, rfl, rfl, .ref h, rfl, ?_⟩
    show qNext _ _ _ _
    refine go_next L1 (by decide) (by decide) fun s0 H2 hs0 L2 x2 => ?_
    obtain ⟨c, hcN⟩ : ∃ c : Nat, 2 + ((c0 : Nat) : Int) = (c : Nat) := ⟨2 + c0, by omega⟩
    obtain ⟨s, hsN⟩ : ∃ s : Nat, 1 + ((s0 : Nat) : Int) = (s : Nat) := ⟨1 + s0, by omega⟩
    have cb : 2 ≤ c ∧ c ≤ 6 := by omega
    have sb : 1 ≤ s ∧ s ≤ 4 := by omega
    refine ⟨_, _, rfl, rfl, _, _, rfl, .int (s : Nat), (by rw [← hsN]; rfl), (by show 1 ≤ sizeLine; decide), fun a ha => ⟨.int (c : Nat), (by rw [← hcN]; rfl), ?_⟩⟩
    have hv := val_R cb.1 cb.2 (show s ≤ 9 by omega)
    have L3 := L2.same (same_upd (o := .tup [.int (s : Nat)]) ha)
    have ka : SqT K (upd H2 a (.tup [.int (s : Nat)])) a [.int (s : Nat)] := .of upd_same
    generalize upd H2 a (.tup [.int (s : Nat)]) = H3 at L3 ka ⊢
    show qRep _ _ _ _ _
    refine rep_go ka (by simp) (by omega) (by omega) (by show 1 ≤ 1000; decide) fun a2 H4 sm4 ka2 => ⟨.int (c : Nat), (by rw [← hcN]; rfl), _, rfl, RgOk.of_le (by omega) (by omega) (by omega) (by omega), fun r hr' => ⟨(by show 1 ≤ sizeLine; decide), fun b hb => ⟨(by show 2 ≤ sizeLine; decide), fun p hp => ?_⟩⟩⟩
    have hp4 : LawH (upd (upd (upd H4 r (.tup (rgV 0 (c : Nat)))) b (.tup [.ref r])) p (.tup [.ref a2, .ref b])) h l ∧ PlanAt K (upd (upd (upd H4 r (.tup (rgV 0 (c : Nat)))) b (.tup [.ref r])) p (.tup [.ref a2, .ref b])) p (zsR c s) [rtR c] := by
      have s1 := same_upd (o := .tup (rgV 0 (c : Nat))) hr'
      have s2 := same_upd (o := .tup [.ref r]) hb
      have s3 := same_upd (o := .tup [.ref a2, .ref b]) hp
      refine ⟨(((L3.same sm4).same s1).same s2).same s3, a2, b, .of upd_same, sqT_same ((s1.trans s2).trans s3) ?_, [r], sqT_same s3 (.of upd_same), .cons (sqT_same (s2.trans s3) (.of ?_)) .nil⟩
      · rw [List.map_replicate]
        have e : (List.replicate c [V.int (s : Nat)]).flatten = List.replicate c (V.int (s : Nat)) := by
          clear ka2 hv hcN cb hr' s1 s2 s3 hb hp
          induction c with
          | zero => rfl
          | succ c ih =>
            rw [List.replicate_succ, List.replicate_succ, List.flatten_cons, ih]
            rfl
        rw [← e]
        exact ka2
      · rw [upd_same]
        unfold rgV rV rtR
        rw [Int.sub_zero, Int.toNat_natCast, List.map_map]
        congr 2
        refine List.map_congr_left fun i _ => ?_
        rw [Int.zero_add]
        rfl
    generalize upd (upd (upd H4 r (.tup (rgV 0 (c : Nat)))) b (.tup [.ref r])) p (.tup [.ref a2, .ref b]) = H5 at hp4 ⊢
    obtain ⟨L5, hp5⟩ := hp4
    clear ha hb hr' hp ka ka2 L1 x1 LH L2 x2 L3 sm4
    obtain ⟨ok, ej⟩ := ok_start hv
    have ej0 : (join (spl [rtR c].length (zsR c s) (parc ([rtR c].length + sumN (zsR c s)))))[0]? = some 1 := by
      rw [ej]
      exact parc_at (by show 0 < 1 + _; omega)
    have hzl : (zsR c s).length = c := zsR_len c s
    -- the state and the number
    refine ⟨.ref p, rfl, ?_⟩
    show qInit _ _ _ _ _
    refine go_init hp5 hv fun H6 st sm6 X6 => ⟨.ref h, rfl, 10, 15, rfl, rfl, ⟨by decide, by decide, by decide⟩, ?_⟩
    have B6 : B19 K H6 h l p st (zsR c s) [rtR c] _ := ⟨L5.same sm6, X6⟩
    clear X6 L5 hp5 sm6
    generalize spl [rtR c].length (zsR c s) (parc ([rtR c].length + sumN (zsR c s))) = L at ok ej ej0 B6
    show qNext [.ref h, .int ((10 : Int) ^ (15 : Int).toNat)] _ _ _
    rw [show (10 : Int) ^ (15 : Int).toNat = 1000000000000000 by decide]
    refine go_next B6.lw (by decide) (by decide) fun m H7 hm L7 x7 => ⟨_, _, rfl, rfl, _, _, rfl, .ref p, rfl, .ref st, rfl, .int (1 + (m : Nat)), rfl, ?_⟩
    have B7 := B6.nx L7 x7
    clear B6 L7 x7
    have hsc : (0 : Int) ≤ ((s : Nat) : Int) * (c : Nat) ∧ ((s : Nat) : Int) * (c : Nat) ≤ 24 := by
      have h7 := Nat.mul_le_mul sb.2 cb.2
      rw [← Int.natCast_mul]
      omega
    have hk : m * (s * c + 1) ≤ 1000000000000000 * 25 := Nat.mul_le_mul (by omega) (by have h7 := Nat.mul_le_mul sb.2 cb.2; omega)
    have e5 : (1 + ((m : Nat) : Int) - 1) * (((s : Nat) : Int) * (c : Nat) + 1) = ((m * (s * c + 1) : Nat) : Int) := by
      rw [show 1 + ((m : Nat) : Int) - 1 = (m : Nat) by omega, Int.natCast_mul, Int.natCast_add, Int.natCast_mul]
      rfl
    have hmod : ∀ a : Nat, ((a : Nat) : Int).fmod ((c : Nat) : Int) = ((a % c : Nat) : Int) := fun a => by
      rw [Int.fmod_eq_emod_of_nonneg _ (by omega), Int.natCast_emod]
    -- the stamp
    show qStampAt _ _ _ _ _
    refine go_StampAt B7.x ⟨ej0, ⟨by omega, by omega⟩⟩ fun H8 v sm8 hv8 => ?_
    rw [show (1 + ((m : Nat) : Int) - 1).toNat = m by omega] at hv8
    rw [trip_st cb.1 cb.2 sb.1 (by omega) hv8]
    have B8 := B7.sm sm8
    clear B7 sm8 hv8
    refine ⟨.int (1 + (m : Nat)), rfl, _, _, rfl, rfl, .int (s : Nat), (by rw [← hsN]; rfl), .int (c : Nat), (by rw [← hcN]; rfl), _, _, rfl, rfl, .inr ⟨by omega, by omega⟩, _, _, rfl, rfl, _, _, rfl, rfl, .inr ⟨by omega, by omega⟩, .int (c : Nat), (by rw [← hcN]; rfl), _, _, rfl, rfl, (by omega), rfl, _, rfl, ite_no (ne_no (congrArg V.int ?_)) ?_⟩
    · rw [e5, hmod]
    -- when and where
    refine ⟨.int (1 + (m : Nat)), rfl, _, _, rfl, rfl, .int (s : Nat), (by rw [← hsN]; rfl), .int (c : Nat), (by rw [← hcN]; rfl), _, _, rfl, rfl, .inr ⟨by omega, by omega⟩, _, _, rfl, rfl, _, _, rfl, rfl, .inr ⟨by omega, by omega⟩, _, _, rfl, rfl, ?_⟩
    have e6 : 1 + (1 + ((m : Nat) : Int) - 1) * (((s : Nat) : Int) * (c : Nat) + 1) = ((m * (s * c + 1) + 1 : Nat) : Int) := by
      rw [e5]
      omega
    refine ⟨.ref p, rfl, .ref st, rfl, .int ((m * (s * c + 1) + 1 : Nat) : Int), (by rw [← e6]; rfl), ?_⟩
    show qLocate _ _ _ _ _
    refine go_locate B8.x (List.mem_of_getElem? ej0) ⟨by omega, by omega⟩ fun H9 u i pl sm9 hi hpl hu => ?_
    have B9 := B8.sm sm9
    clear B8 sm9
    have hpl2 : pl = [V.str "shelf", V.int ((m * (s * c + 1) % c : Nat) : Int), V.int ((s - 1 : Nat) : Int)] := by
      have nd : (join (advA 0 (zsR c s) [rtR c] 0 ((m * (s * c + 1) + 1 : Nat) : Int) L)).Nodup := (advA_perm 0 _ ok.f).nodup_iff.mpr ok.p.2
      rw [advA_nat 0 (zsR c s) hv.rne hv.lc1 0 _ ok.f] at hi nd
      have h7 := pos_run19 hv 0 ok.f ej0 (m * (s * c + 1) + 1)
      have h8 := nodup_ix nd hi h7
      have hsc1 : 1 ≤ s * c := Nat.mul_le_mul sb.1 (show 1 ≤ c by omega)
      rw [trip_pos cb.1 cb.2 sb.1 (by omega) m 1 (by omega), if_neg (by decide), Nat.sub_self, Nat.zero_div, Nat.sub_zero] at h8
      have h9 := place_R (c := c) (s := s) (f := m * (s * c + 1) % c) (p := s - 1) (Nat.mod_lt _ (by omega)) (by omega)
      rw [← h8] at h9
      have hpl9 : (placesV (zsR c s) 1)[i]? = some pl := hpl
      rw [hpl9] at h9
      exact Option.some.inj h9
    refine ⟨.ref u, rfl, .int ((m * (s * c + 1) + 1 : Nat) : Int), (by rw [← e6]; rfl), _, _, rfl, rfl, .int (c : Nat), (by rw [← hcN]; rfl), _, _, rfl, rfl, (by omega), .int (s : Nat), (by rw [← hsN]; rfl), _, _, rfl, rfl, (by show 3 ≤ sizeLine; decide), fun d hd => ?_⟩
    have kd : ∀ o, o = HO.tup pl → SqT K (upd H9 d o) d pl := fun o e => .of (by rw [e]; exact upd_same)
    refine ne_same (dp_place (sqT_same (same_upd hd) hu) hpl) (dp_place (kd _ ?_) hpl) (placesV_flP _ (List.mem_of_getElem? hpl)).pld (okD_place (m := 0) hpl) (by decide) ⟨false, rfl, ite_no rfl ?_⟩
    · rw [hpl2]
      have a1 : (((m * (s * c + 1) + 1 : Nat) : Int) - 1).fmod ((c : Nat) : Int) = ((m * (s * c + 1) % c : Nat) : Int) := by
        rw [show ((m * (s * c + 1) + 1 : Nat) : Int) - 1 = ((m * (s * c + 1) : Nat) : Int) by omega, hmod]
      have a2 : ((s : Nat) : Int) - 1 = ((s - 1 : Nat) : Int) := by omega
      rw [← a1, ← a2]
    have BA : ∀ o, B19 K (upd H9 d o) h l p st (zsR c s) [rtR c] L := fun o => B9.sm (same_upd hd)
    -- never left before, and at once
    refine ⟨.ref p, rfl, .ref st, rfl, ?_⟩
    show qTimesLeft K [.ref p, .ref st, .int 1, .int 0, .int ((0 : Nat) : Int)] _ _ _
    refine go_TimesLeft (BA _).x ⟨ej0, ⟨by decide, by rw [hzl]; omega⟩, by decide⟩ fun HB smB => ⟨rfl, _, rfl, ?_⟩
    have BB := (BA _).sm smB
    refine ite_yes (decide_eq_true rfl) ⟨.ref p, rfl, .ref st, rfl, ?_⟩
    show qFollows _ _ _ _ _
    refine go_follows BB.x ej0 ej0 fun HC v smC fv => ?_
    have ev : v = .int 0 := by
      have we := wh_eff [rtR c].length (zsR c s) [rtR c] 0
      have wl := wh_len [rtR c].length (zsR c s) [rtR c] 0
      rcases fv with ⟨k, e1, e2, e3⟩ | ⟨_, e⟩
      · have h7 := (it_eq_iff we (by rw [wl]; show 0 < 1 + _; omega) k).mp e3
        have h8 : k = 0 := by
          rcases Nat.eq_zero_or_pos k with h9 | h9
          · exact h9
          · have := Nat.le_of_dvd h9 h7
            omega
        rw [e1, h8, Nat.mul_zero]
        rfl
      · exact absurd rfl (e 0)
    rw [ev]
    exact ⟨rfl, q _ (BB.lw.same smC)⟩
end
end Sv


set_option maxHeartbeats 8000000
namespace Sv
open PySem PySem.Spec PyProof.Rows L2
section
variable {P : Program} {w : World} {K : PySem.W.Frag} {mg : Str → Option Value} {base : Heap}
def nLaw : List Str := ["_law_script", "_law_h", "_law_turn", "_law_lone"]
theorem scLaw : FnScope nLaw ["_law_script"] (defScope sLaw) := ⟨rfl, rfl, rfl, by decide +kernel, rfl, by decide +kernel, by decide +kernel⟩
def spLaw (K : PySem.W.Frag) : Sp := fun vs H Q _ => ∃ (a : Addr) (ns : List Int), vs = [.ref a] ∧ SqL K H a (ns.map V.int) ∧ ns.length ≤ 63 ∧ ∀ H', Q (.bl true) H'
theorem ok_law {f : Addr} {fd : FuncData} (T : Bd P K mg) (F : Df K mg "law" sLaw ["_law_script"] f fd) : FnOk P w K mg base CX0 14 f fd ["_law_script"] (spLaw K) := by
  have GM : FnOk P w K mg base CX0 1 T.aLMix T.dLMix ["_law_script", "_law_seed"] (spMix K) := ok_mix T.LMix.F T.bt
  have G1 : FnOk P w K mg base CX0 13 T.aLOneRight T.dLOneRight ["_law_h"] (spOneR K) := ok_oneR T
  have G2 : FnOk P w K mg base CX0 13 T.aLQueueRight T.dLQueueRight ["_law_h"] (spQueueR K) := ok_queueR T
  have G3 : FnOk P w K mg base CX0 13 T.aLRoundRight T.dLRoundRight ["_law_h"] (spRoundR K) := ok_roundR T
  have JI : FnOk P w K mg base (L2.CX P w) 12 T.aInitial T.dInitial ["plan"] (qInit K) := init_ok T
  have JM : FnOk P w K mg base (L2.CX P w) 12 T.aFirstMeeting T.dFirstMeeting ["plan", "state", "one", "other"] (qFirst9 K) := first9_ok T
  refine F.F.ok scLaw (fun vs H Q E h => ?_) (fun cdv A outer s H vs Q E hr h => ?_)
  · obtain ⟨a, ns, rfl, _⟩ := h
    rfl
  · obtain ⟨a, ns, rfl, hA, hl, q⟩ := h
    refine ⟨_, pss_cons (ps_set (i := 1) scLaw.nd rfl (Or.inl rfl) (pe_call (E := E0) GM (hr.mono (by decide)) (by rfl) T.LMix.g T.LMix.F.kp T.LMix.b .nil pass0 (pa_cons (pv 0) (pa_cons (pe_int) pa_nil))))
      (pss_cons (ps_for PassesOwn.never rfl (pi_range1 (by rfl) T.bt.range (pa_cons (pe_int) pa_nil)) (pg_name (i := 2) scLaw.nd rfl (Or.inl rfl))
        (pss_one (ps_if ((pw_or (pt_not (pt_val (pe_call (E := E0) G1 (hr.mono (by decide)) (by rfl) T.LOneRight.g T.LOneRight.F.kp T.LOneRight.b .nil pass0 (pa_cons (pv 1) pa_nil)))) (pw_or (pt_not (pt_val (pe_call (E := E0) G2 (hr.mono (by decide)) (by rfl) T.LQueueRight.g T.LQueueRight.F.kp T.LQueueRight.b .nil pass0 (pa_cons (pv 1) pa_nil)))) (pw_or1 (pt_not (pt_val (pe_call (E := E0) G3 (hr.mono (by decide)) (by rfl) T.LRoundRight.g T.LRoundRight.F.kp T.LRoundRight.b .nil pass0 (pa_cons (pv 1) pa_nil))))))).pt) pss_never pss_nil)))
      (pss_cons (ps_set (i := 3) scLaw.nd rfl (Or.inl rfl) (pe_tup (pa_cons (pe_tup (pa_cons (pe_int) (pa_cons (pe_int) pa_nil))) (pa_cons (pe_tup (pa_cons (pe_tup (pa_cons (pe_int) pa_nil)) (pa_cons (pe_tup (pa_cons (pe_int) pa_nil)) pa_nil))) pa_nil))))
      (pss_one (ps_ret (pe_cmpR op_isN (pe_call (E := E0) JM (hr.mono (by decide)) (by rfl) T.FirstMeeting.g T.FirstMeeting.F.kp T.FirstMeeting.b .nil passL (pa_cons (pv 3) (pa_cons (pe_call (E := E0) JI (hr.mono (by decide)) (by rfl) T.Initial.g T.Initial.F.kp T.Initial.b .nil passL (pa_cons (pv 3) pa_nil)) (pa_cons (pe_int) (pa_cons (pe_int) pa_nil))))) pe_non (nomark _)))))), ?_⟩
    refine ⟨.ref a, rfl, a, ns, 19, rfl, hA, hl, fun H1 h l LH sm nh nl => ?_⟩
    refine ⟨2, rfl, by omega, by omega, ?_⟩
    refine for_range (lo := 0) (n := (2 : Int).toNat) (fun i σ H' => (∃ x0 x2 x3, σ = [x0, some (.ref h), x2, x3]) ∧ LawH H' h l)
      ⟨⟨_, _, _, rfl⟩, LH⟩ (fun i σ H2 hi ⟨⟨x0, x2, x3, es⟩, L2⟩ => ?_) (fun σ H2 ⟨⟨x0, x2, x3, es⟩, L2⟩ => ?_)
    · subst es
      refine ⟨.ref h, rfl, h, l, rfl, L2, fun H3 L3 => ⟨true, rfl, ite_no rfl ⟨.ref h, rfl, h, l, rfl, L3, fun H4 L4 => ⟨true, rfl, ite_no rfl ⟨.ref h, rfl, h, l, rfl, L4, fun H5 L5 => ⟨true, rfl, ite_no rfl ⟨⟨_, _, _, rfl⟩, L5⟩⟩⟩⟩⟩⟩⟩
    subst es
    refine ⟨(by show 2 ≤ sizeLine; decide), fun a ha => ⟨(by show 1 ≤ sizeLine; decide), fun q0 hq0 => ⟨(by show 1 ≤ sizeLine; decide), fun q1 hq1 => ⟨(by show 2 ≤ sizeLine; decide), fun b hb => ⟨(by show 2 ≤ sizeLine; decide), fun p hp => ?_⟩⟩⟩⟩⟩
    have hp5 : PlanAt K (upd (upd (upd (upd (upd H2 a (.tup [.int 1, .int 1])) q0 (.tup [.int 0])) q1 (.tup [.int 1])) b (.tup [.ref q0, .ref q1])) p (.tup [.ref a, .ref b])) p zsL rsL := by
      have s2 := same_upd (o := .tup [.int 0]) hq0
      have s3 := same_upd (o := .tup [.int 1]) hq1
      have s4 := same_upd (o := .tup [.ref q0, .ref q1]) hb
      have s5 := same_upd (o := .tup [.ref a, .ref b]) hp
      exact ⟨a, b, .of upd_same, sqT_same (((s2.trans s3).trans s4).trans s5) (.of upd_same), [q0, q1], sqT_same s5 (.of upd_same), .cons (sqT_same ((s3.trans s4).trans s5) (.of upd_same)) (.cons (sqT_same (s4.trans s5) (.of upd_same)) .nil)⟩
    generalize upd (upd (upd (upd (upd H2 a (.tup [.int 1, .int 1])) q0 (.tup [.int 0])) q1 (.tup [.int 1])) b (.tup [.ref q0, .ref q1])) p (.tup [.ref a, .ref b]) = H3 at hp5 ⊢
    refine ⟨.ref p, rfl, .ref p, rfl, ?_⟩
    show qInit _ _ _ _ _
    refine go_init hp5 val_L fun H4 st sm4 X4 => ?_
    have X5 : PS0 K H4 p st zsL rsL 0 LL := X4
    show qFirst9 _ _ _ _ _
    refine go_first9 X5 (by decide) (by decide) fun H5 v sm5 fv => ?_
    have ev : v = .non := by
      rcases fv with ⟨k, _, e, _⟩ | ⟨e, _⟩
      · rw [lone_never] at e
        cases e
      · exact e
    rw [ev]
    exact ⟨rfl, q _⟩
end
end Sv


set_option maxHeartbeats 8000000
namespace Sv
open PySem PySem.Spec PyProof.Rows L2 LamX NdefX
/-! ### the end -/
theorem walk_ofTsX {l : PySem.W.OpenLaw} {n k : Nat} {q : Program} {loose : List Str} {XP : (Str → Option Value) → Heap → Prop} {YP : World → Heap → Prop} {d : DefRec} {K : Params → PySem.W.Frag} {CX : World → CXT} {x : Str}
    (hn : l.most = some n) (hn2 : n ≤ sizeLine) (hdf : d.params.defaults = []) (hr : Room k callerA) (hY : ∀ (w : World) (h : Heap), YP w h → (K w.params).In h)
    (F : ∀ (w : World) (mg : Str → Option Value) (fa : Addr) (h : Heap), XP mg h → YP w h → (K w.params).In h → h.Ns mainGlobals mg → mg d.name = some (.ref fa) → LawAtS l w (K w.params) (CX w) k n x mg fa h)
    (hCX : ∀ (w : World) (H : Hp) (s : Shared) (e : Value) (s' : Shared), CX w [] H s (fun _ _ _ => False) e s' → False) :
    PySem.W.WalkO q loose XP YP l.row.toRowW d [] (fun f vs => PySem.call f vs) := by
  refine Att.attach_callB hn hdf fun w s₀ s₁ mg mb fa o pm cd doc a vs ns G Y ho hd hcd hmg hobj hints hlen hbits hg => ?_
  have KX := hY w _ Y
  obtain ⟨fd, cs, sp, hT, nT, C, hb, hsp, hF⟩ := F w mg fa _ G.X Y KX G.T.g hmg
  exact law_callTs KX G.T.g G.T.b G.T.builtins G.T.nolimit hg hT nT C G.T.bmain hobj hints (Nat.le_trans hlen hn2) hr hF hb (fun H hH hS => hsp H a ns hlen hbits hH hS) fun H e s' => hCX w H s₁ e s'
theorem be_of {l : List V} {j : Nat} (h : (l.take j).all (fun z => !eqV z (.bl true)) = true) : ∀ (m : Nat) (z : V), m < j → l[m]? = some z → eqV z (.bl true) = false := fun m z hm hz => by
  have q := List.all_eq_true.mp h z (List.mem_of_getElem? (i := m) (by rw [List.getElem?_take, if_pos hm]; exact hz))
  simpa using q
section
variable {K : PySem.W.Frag} {h : Heap} {mg : Str → Option Value}
theorem df_mk {x : Str} {st : Stmt} {f : Addr} {oc : Value} {od an : Option Addr} {osl : Array (Option Value)} {kV doc pm cdv ct : Value} {ps : List Str} (X : K.In h) (G : h.Ns mainGlobals mg) (a : PySem.W.nsIn K mainGlobals x = some (some (.ref f)))
    (l : K.lookup f = some ⟨oc, od, .func (PySem.W.fnOf x x (defArgs st) (defBody st) (defScope st) .none kV doc pm an cdv ct), osl⟩) (c : PySem.W.codeIn K cdv x = true) (k : PySem.W.keepIn K (.ref f) = true)
    (b : ∀ (kV doc pm : Value) (an : Option Addr) (cdv ct : Value) (us : List Value), us.length = ps.length → bindArgs (PySem.W.fnOf x x (defArgs st) (defBody st) (defScope st) .none kV doc pm an cdv ct) ⟨us, []⟩ = pure (ps.zip us)) :
    Df K mg x st ps f (PySem.W.fnOf x x (defArgs st) (defBody st) (defScope st) .none kV doc pm an cdv ct) := ⟨fun_mk l c k, (fun_mk l c k).binds b, PySem.W.mg_of X G a⟩
theorem all_mk {P : Program} {w : World} {fa : Addr} {fWithin : Addr} {ocWithin kVWithin dcWithin pmWithin cdWithin ctWithin : Value} {odWithin anWithin : Option Addr} {slWithin : Array (Option Value)}
    {fCheckCount : Addr} {ocCheckCount kVCheckCount dcCheckCount pmCheckCount cdCheckCount ctCheckCount : Value} {odCheckCount anCheckCount : Option Addr} {slCheckCount : Array (Option Value)}
    {fCheckTicks : Addr} {ocCheckTicks kVCheckTicks dcCheckTicks pmCheckTicks cdCheckTicks ctCheckTicks : Value} {odCheckTicks anCheckTicks : Option Addr} {slCheckTicks : Array (Option Value)}
    {fCheckOrdinal : Addr} {ocCheckOrdinal kVCheckOrdinal dcCheckOrdinal pmCheckOrdinal cdCheckOrdinal ctCheckOrdinal : Value} {odCheckOrdinal anCheckOrdinal : Option Addr} {slCheckOrdinal : Array (Option Value)}
    {fCheckBetween : Addr} {ocCheckBetween kVCheckBetween dcCheckBetween pmCheckBetween cdCheckBetween ctCheckBetween : Value} {odCheckBetween anCheckBetween : Option Addr} {slCheckBetween : Array (Option Value)}
    {fPattern : Addr} {ocPattern kVPattern dcPattern pmPattern cdPattern ctPattern : Value} {odPattern anPattern : Option Addr} {slPattern : Array (Option Value)}
    {fCheckPlan : Addr} {ocCheckPlan kVCheckPlan dcCheckPlan pmCheckPlan cdCheckPlan ctCheckPlan : Value} {odCheckPlan anCheckPlan : Option Addr} {slCheckPlan : Array (Option Value)}
    {fCheckSizes : Addr} {ocCheckSizes kVCheckSizes dcCheckSizes pmCheckSizes cdCheckSizes ctCheckSizes : Value} {odCheckSizes anCheckSizes : Option Addr} {slCheckSizes : Array (Option Value)}
    {fCheckRoutes : Addr} {ocCheckRoutes kVCheckRoutes dcCheckRoutes pmCheckRoutes cdCheckRoutes ctCheckRoutes : Value} {odCheckRoutes anCheckRoutes : Option Addr} {slCheckRoutes : Array (Option Value)}
    {fIsRoute : Addr} {ocIsRoute kVIsRoute dcIsRoute pmIsRoute cdIsRoute ctIsRoute : Value} {odIsRoute anIsRoute : Option Addr} {slIsRoute : Array (Option Value)}
    {fPlacesOf : Addr} {ocPlacesOf kVPlacesOf dcPlacesOf pmPlacesOf cdPlacesOf ctPlacesOf : Value} {odPlacesOf anPlacesOf : Option Addr} {slPlacesOf : Array (Option Value)}
    {fCheckShelf : Addr} {ocCheckShelf kVCheckShelf dcCheckShelf pmCheckShelf cdCheckShelf ctCheckShelf : Value} {odCheckShelf anCheckShelf : Option Addr} {slCheckShelf : Array (Option Value)}
    {fCheckCarrier : Addr} {ocCheckCarrier kVCheckCarrier dcCheckCarrier pmCheckCarrier cdCheckCarrier ctCheckCarrier : Value} {odCheckCarrier anCheckCarrier : Option Addr} {slCheckCarrier : Array (Option Value)}
    {fShelvesOf : Addr} {ocShelvesOf kVShelvesOf dcShelvesOf pmShelvesOf cdShelvesOf ctShelvesOf : Value} {odShelvesOf anShelvesOf : Option Addr} {slShelvesOf : Array (Option Value)}
    {fNumPlaces : Addr} {ocNumPlaces kVNumPlaces dcNumPlaces pmNumPlaces cdNumPlaces ctNumPlaces : Value} {odNumPlaces anNumPlaces : Option Addr} {slNumPlaces : Array (Option Value)}
    {fVisitsIn : Addr} {ocVisitsIn kVVisitsIn dcVisitsIn pmVisitsIn cdVisitsIn ctVisitsIn : Value} {odVisitsIn anVisitsIn : Option Addr} {slVisitsIn : Array (Option Value)}
    {fCommon : Addr} {ocCommon kVCommon dcCommon pmCommon cdCommon ctCommon : Value} {odCommon anCommon : Option Addr} {slCommon : Array (Option Value)}
    {fRoutePat : Addr} {ocRoutePat kVRoutePat dcRoutePat pmRoutePat cdRoutePat ctRoutePat : Value} {odRoutePat anRoutePat : Option Addr} {slRoutePat : Array (Option Value)}
    {fJoin : Addr} {ocJoin kVJoin dcJoin pmJoin cdJoin ctJoin : Value} {odJoin anJoin : Option Addr} {slJoin : Array (Option Value)}
    {fSplit : Addr} {ocSplit kVSplit dcSplit pmSplit cdSplit ctSplit : Value} {odSplit anSplit : Option Addr} {slSplit : Array (Option Value)}
    {fAfterTick : Addr} {ocAfterTick kVAfterTick dcAfterTick pmAfterTick cdAfterTick ctAfterTick : Value} {odAfterTick anAfterTick : Option Addr} {slAfterTick : Array (Option Value)}
    {fEffectTicks : Addr} {ocEffectTicks kVEffectTicks dcEffectTicks pmEffectTicks cdEffectTicks ctEffectTicks : Value} {odEffectTicks anEffectTicks : Option Addr} {slEffectTicks : Array (Option Value)}
    {fInverse : Addr} {ocInverse kVInverse dcInverse pmInverse cdInverse ctInverse : Value} {odInverse anInverse : Option Addr} {slInverse : Array (Option Value)}
    {fRepeated : Addr} {ocRepeated kVRepeated dcRepeated pmRepeated cdRepeated ctRepeated : Value} {odRepeated anRepeated : Option Addr} {slRepeated : Array (Option Value)}
    {fOrderOf : Addr} {ocOrderOf kVOrderOf dcOrderOf pmOrderOf cdOrderOf ctOrderOf : Value} {odOrderOf anOrderOf : Option Addr} {slOrderOf : Array (Option Value)}
    {fCyclesOf : Addr} {ocCyclesOf kVCyclesOf dcCyclesOf pmCyclesOf cdCyclesOf ctCyclesOf : Value} {odCyclesOf anCyclesOf : Option Addr} {slCyclesOf : Array (Option Value)}
    {fCycleFrom : Addr} {ocCycleFrom kVCycleFrom dcCycleFrom pmCycleFrom cdCycleFrom ctCycleFrom : Value} {odCycleFrom anCycleFrom : Option Addr} {slCycleFrom : Array (Option Value)}
    {fInitial : Addr} {ocInitial kVInitial dcInitial pmInitial cdInitial ctInitial : Value} {odInitial anInitial : Option Addr} {slInitial : Array (Option Value)}
    {fMoved : Addr} {ocMoved kVMoved dcMoved pmMoved cdMoved ctMoved : Value} {odMoved anMoved : Option Addr} {slMoved : Array (Option Value)}
    {fStateOf : Addr} {ocStateOf kVStateOf dcStateOf pmStateOf cdStateOf ctStateOf : Value} {odStateOf anStateOf : Option Addr} {slStateOf : Array (Option Value)}
    {fParcelsIn : Addr} {ocParcelsIn kVParcelsIn dcParcelsIn pmParcelsIn cdParcelsIn ctParcelsIn : Value} {odParcelsIn anParcelsIn : Option Addr} {slParcelsIn : Array (Option Value)}
    {fCheckState : Addr} {ocCheckState kVCheckState dcCheckState pmCheckState cdCheckState ctCheckState : Value} {odCheckState anCheckState : Option Addr} {slCheckState : Array (Option Value)}
    {fFits : Addr} {ocFits kVFits dcFits pmFits cdFits ctFits : Value} {odFits anFits : Option Addr} {slFits : Array (Option Value)}
    {fTupOf : Addr} {ocTupOf kVTupOf dcTupOf pmTupOf cdTupOf ctTupOf : Value} {odTupOf anTupOf : Option Addr} {slTupOf : Array (Option Value)}
    {fParcels : Addr} {ocParcels kVParcels dcParcels pmParcels cdParcels ctParcels : Value} {odParcels anParcels : Option Addr} {slParcels : Array (Option Value)}
    {fCheckParcel : Addr} {ocCheckParcel kVCheckParcel dcCheckParcel pmCheckParcel cdCheckParcel ctCheckParcel : Value} {odCheckParcel anCheckParcel : Option Addr} {slCheckParcel : Array (Option Value)}
    {fPlaceOfParcel : Addr} {ocPlaceOfParcel kVPlaceOfParcel dcPlaceOfParcel pmPlaceOfParcel cdPlaceOfParcel ctPlaceOfParcel : Value} {odPlaceOfParcel anPlaceOfParcel : Option Addr} {slPlaceOfParcel : Array (Option Value)}
    {fStartOf : Addr} {ocStartOf kVStartOf dcStartOf pmStartOf cdStartOf ctStartOf : Value} {odStartOf anStartOf : Option Addr} {slStartOf : Array (Option Value)}
    {fAdvance : Addr} {ocAdvance kVAdvance dcAdvance pmAdvance cdAdvance ctAdvance : Value} {odAdvance anAdvance : Option Addr} {slAdvance : Array (Option Value)}
    {fLocate : Addr} {ocLocate kVLocate dcLocate pmLocate cdLocate ctLocate : Value} {odLocate anLocate : Option Addr} {slLocate : Array (Option Value)}
    {fPeriod : Addr} {ocPeriod kVPeriod dcPeriod pmPeriod cdPeriod ctPeriod : Value} {odPeriod anPeriod : Option Addr} {slPeriod : Array (Option Value)}
    {fStopsJ : Addr} {ocStopsJ kVStopsJ dcStopsJ pmStopsJ cdStopsJ ctStopsJ : Value} {odStopsJ anStopsJ : Option Addr} {slStopsJ : Array (Option Value)}
    {fLeftsJ : Addr} {ocLeftsJ kVLeftsJ dcLeftsJ pmLeftsJ cdLeftsJ ctLeftsJ : Value} {odLeftsJ anLeftsJ : Option Addr} {slLeftsJ : Array (Option Value)}
    {fCountIn : Addr} {ocCountIn kVCountIn dcCountIn pmCountIn cdCountIn ctCountIn : Value} {odCountIn anCountIn : Option Addr} {slCountIn : Array (Option Value)}
    {fTimesLeft : Addr} {ocTimesLeft kVTimesLeft dcTimesLeft pmTimesLeft cdTimesLeft ctTimesLeft : Value} {odTimesLeft anTimesLeft : Option Addr} {slTimesLeft : Array (Option Value)}
    {fTicksCarried : Addr} {ocTicksCarried kVTicksCarried dcTicksCarried pmTicksCarried cdTicksCarried ctTicksCarried : Value} {odTicksCarried anTicksCarried : Option Addr} {slTicksCarried : Array (Option Value)}
    {fNthLeft : Addr} {ocNthLeft kVNthLeft dcNthLeft pmNthLeft cdNthLeft ctNthLeft : Value} {odNthLeft anNthLeft : Option Addr} {slNthLeft : Array (Option Value)}
    {fStampAt : Addr} {ocStampAt kVStampAt dcStampAt pmStampAt cdStampAt ctStampAt : Value} {odStampAt anStampAt : Option Addr} {slStampAt : Array (Option Value)}
    {fStampsJ : Addr} {ocStampsJ kVStampsJ dcStampsJ pmStampsJ cdStampsJ ctStampsJ : Value} {odStampsJ anStampsJ : Option Addr} {slStampsJ : Array (Option Value)}
    {fFollowsBy : Addr} {ocFollowsBy kVFollowsBy dcFollowsBy pmFollowsBy cdFollowsBy ctFollowsBy : Value} {odFollowsBy anFollowsBy : Option Addr} {slFollowsBy : Array (Option Value)}
    {fFamilies : Addr} {ocFamilies kVFamilies dcFamilies pmFamilies cdFamilies ctFamilies : Value} {odFamilies anFamilies : Option Addr} {slFamilies : Array (Option Value)}
    {fFirstMeeting : Addr} {ocFirstMeeting kVFirstMeeting dcFirstMeeting pmFirstMeeting cdFirstMeeting ctFirstMeeting : Value} {odFirstMeeting anFirstMeeting : Option Addr} {slFirstMeeting : Array (Option Value)}
    {fMarks : Addr} {ocMarks kVMarks dcMarks pmMarks cdMarks ctMarks : Value} {odMarks anMarks : Option Addr} {slMarks : Array (Option Value)}
    {fShelvesLap : Addr} {ocShelvesLap kVShelvesLap dcShelvesLap pmShelvesLap cdShelvesLap ctShelvesLap : Value} {odShelvesLap anShelvesLap : Option Addr} {slShelvesLap : Array (Option Value)}
    {fMarksLap : Addr} {ocMarksLap kVMarksLap dcMarksLap pmMarksLap cdMarksLap ctMarksLap : Value} {odMarksLap anMarksLap : Option Addr} {slMarksLap : Array (Option Value)}
    {fPairs : Addr} {ocPairs kVPairs dcPairs pmPairs cdPairs ctPairs : Value} {odPairs anPairs : Option Addr} {slPairs : Array (Option Value)}
    {fLMix : Addr} {ocLMix kVLMix dcLMix pmLMix cdLMix ctLMix : Value} {odLMix anLMix : Option Addr} {slLMix : Array (Option Value)}
    {fLNext : Addr} {ocLNext kVLNext dcLNext pmLNext cdLNext ctLNext : Value} {odLNext anLNext : Option Addr} {slLNext : Array (Option Value)}
    {fLAlike : Addr} {ocLAlike kVLAlike dcLAlike pmLAlike cdLAlike ctLAlike : Value} {odLAlike anLAlike : Option Addr} {slLAlike : Array (Option Value)}
    {fLOneRight : Addr} {ocLOneRight kVLOneRight dcLOneRight pmLOneRight cdLOneRight ctLOneRight : Value} {odLOneRight anLOneRight : Option Addr} {slLOneRight : Array (Option Value)}
    {fLQueueRight : Addr} {ocLQueueRight kVLQueueRight dcLQueueRight pmLQueueRight cdLQueueRight ctLQueueRight : Value} {odLQueueRight anLQueueRight : Option Addr} {slLQueueRight : Array (Option Value)}
    {fLRoundRight : Addr} {ocLRoundRight kVLRoundRight dcLRoundRight pmLRoundRight cdLRoundRight ctLRoundRight : Value} {odLRoundRight anLRoundRight : Option Addr} {slLRoundRight : Array (Option Value)}
    {fLaw : Addr} {ocLaw kVLaw dcLaw pmLaw cdLaw ctLaw : Value} {odLaw anLaw : Option Addr} {slLaw : Array (Option Value)}
    {tm1 : Tok}
    {tm2 : Tok}
    {tm3 : Tok}
    {tm4 : Tok}
    {tlP : Tok}
    {C0 C1 C2 C4 C5 C6 : Addr}
    {CL fL : Addr} {odL anL : Option Addr} {slL : Array (Option Value)} {ocL kVL dcL pmL cdL ctL : Value}
    {pnm pq : Str} {pN : Addr} {pbs pbm : List Value} {psn : List Str} {psub : List Value} {pab : Bool} {pcol : Option Bool} {pdd : Option Addr} {pk0 pk1 pk2 pk3 pk5 : Option Value}
    {fI cc c0 : Addr} {ocI docI pmI ctI : Value} {odI : Option Addr} {slI : Array (Option Value)}
    {ccl : Value} {ccd : Option Addr} {ccs : Array (Option Value)}
    {kcl : Value} {kcd : Option Addr} {kvs : Array Value} {kcs : Array (Option Value)} {kfl : Str} {ktf : Tok} (X : K.In h) (G : h.Ns mainGlobals mg) (hfa : mg "law" = some (.ref fa)) (hlim : ∃ t, mg "COUNT_LIMIT" = some (.int 1000000000000000000 t)) (htlim : ∃ t, mg "TIME_LIMIT" = some (.int 1000000000000000000000000000000 t))
    (aWithin : PySem.W.nsIn K mainGlobals "is_within" = some (some (.ref fWithin)))
    (lWithin : K.lookup fWithin = some ⟨ocWithin, odWithin, .func (PySem.W.fnOf "is_within" "is_within" (defArgs sWithin) (defBody sWithin) (defScope sWithin) .none kVWithin dcWithin pmWithin anWithin cdWithin ctWithin), slWithin⟩)
    (cWithin : PySem.W.codeIn K cdWithin "is_within" = true)
    (kWithin : PySem.W.keepIn K (.ref fWithin) = true)
    (aCheckCount : PySem.W.nsIn K mainGlobals "check_count" = some (some (.ref fCheckCount)))
    (lCheckCount : K.lookup fCheckCount = some ⟨ocCheckCount, odCheckCount, .func (PySem.W.fnOf "check_count" "check_count" (defArgs sCheckCount) (defBody sCheckCount) (defScope sCheckCount) .none kVCheckCount dcCheckCount pmCheckCount anCheckCount cdCheckCount ctCheckCount), slCheckCount⟩)
    (cCheckCount : PySem.W.codeIn K cdCheckCount "check_count" = true)
    (kCheckCount : PySem.W.keepIn K (.ref fCheckCount) = true)
    (aCheckTicks : PySem.W.nsIn K mainGlobals "check_ticks" = some (some (.ref fCheckTicks)))
    (lCheckTicks : K.lookup fCheckTicks = some ⟨ocCheckTicks, odCheckTicks, .func (PySem.W.fnOf "check_ticks" "check_ticks" (defArgs sCheckTicks) (defBody sCheckTicks) (defScope sCheckTicks) .none kVCheckTicks dcCheckTicks pmCheckTicks anCheckTicks cdCheckTicks ctCheckTicks), slCheckTicks⟩)
    (cCheckTicks : PySem.W.codeIn K cdCheckTicks "check_ticks" = true)
    (kCheckTicks : PySem.W.keepIn K (.ref fCheckTicks) = true)
    (aCheckOrdinal : PySem.W.nsIn K mainGlobals "check_ordinal" = some (some (.ref fCheckOrdinal)))
    (lCheckOrdinal : K.lookup fCheckOrdinal = some ⟨ocCheckOrdinal, odCheckOrdinal, .func (PySem.W.fnOf "check_ordinal" "check_ordinal" (defArgs sCheckOrdinal) (defBody sCheckOrdinal) (defScope sCheckOrdinal) .none kVCheckOrdinal dcCheckOrdinal pmCheckOrdinal anCheckOrdinal cdCheckOrdinal ctCheckOrdinal), slCheckOrdinal⟩)
    (cCheckOrdinal : PySem.W.codeIn K cdCheckOrdinal "check_ordinal" = true)
    (kCheckOrdinal : PySem.W.keepIn K (.ref fCheckOrdinal) = true)
    (aCheckBetween : PySem.W.nsIn K mainGlobals "check_between" = some (some (.ref fCheckBetween)))
    (lCheckBetween : K.lookup fCheckBetween = some ⟨ocCheckBetween, odCheckBetween, .func (PySem.W.fnOf "check_between" "check_between" (defArgs sCheckBetween) (defBody sCheckBetween) (defScope sCheckBetween) .none kVCheckBetween dcCheckBetween pmCheckBetween anCheckBetween cdCheckBetween ctCheckBetween), slCheckBetween⟩)
    (cCheckBetween : PySem.W.codeIn K cdCheckBetween "check_between" = true)
    (kCheckBetween : PySem.W.keepIn K (.ref fCheckBetween) = true)
    (aPattern : PySem.W.nsIn K mainGlobals "pattern_length" = some (some (.ref fPattern)))
    (lPattern : K.lookup fPattern = some ⟨ocPattern, odPattern, .func (PySem.W.fnOf "pattern_length" "pattern_length" (defArgs sPattern) (defBody sPattern) (defScope sPattern) .none kVPattern dcPattern pmPattern anPattern cdPattern ctPattern), slPattern⟩)
    (cPattern : PySem.W.codeIn K cdPattern "pattern_length" = true)
    (kPattern : PySem.W.keepIn K (.ref fPattern) = true)
    (aCheckPlan : PySem.W.nsIn K mainGlobals "check_plan" = some (some (.ref fCheckPlan)))
    (lCheckPlan : K.lookup fCheckPlan = some ⟨ocCheckPlan, odCheckPlan, .func (PySem.W.fnOf "check_plan" "check_plan" (defArgs sCheckPlan) (defBody sCheckPlan) (defScope sCheckPlan) .none kVCheckPlan dcCheckPlan pmCheckPlan anCheckPlan cdCheckPlan ctCheckPlan), slCheckPlan⟩)
    (cCheckPlan : PySem.W.codeIn K cdCheckPlan "check_plan" = true)
    (kCheckPlan : PySem.W.keepIn K (.ref fCheckPlan) = true)
    (aCheckSizes : PySem.W.nsIn K mainGlobals "check_sizes" = some (some (.ref fCheckSizes)))
    (lCheckSizes : K.lookup fCheckSizes = some ⟨ocCheckSizes, odCheckSizes, .func (PySem.W.fnOf "check_sizes" "check_sizes" (defArgs sCheckSizes) (defBody sCheckSizes) (defScope sCheckSizes) .none kVCheckSizes dcCheckSizes pmCheckSizes anCheckSizes cdCheckSizes ctCheckSizes), slCheckSizes⟩)
    (cCheckSizes : PySem.W.codeIn K cdCheckSizes "check_sizes" = true)
    (kCheckSizes : PySem.W.keepIn K (.ref fCheckSizes) = true)
    (aCheckRoutes : PySem.W.nsIn K mainGlobals "check_routes" = some (some (.ref fCheckRoutes)))
    (lCheckRoutes : K.lookup fCheckRoutes = some ⟨ocCheckRoutes, odCheckRoutes, .func (PySem.W.fnOf "check_routes" "check_routes" (defArgs sCheckRoutes) (defBody sCheckRoutes) (defScope sCheckRoutes) .none kVCheckRoutes dcCheckRoutes pmCheckRoutes anCheckRoutes cdCheckRoutes ctCheckRoutes), slCheckRoutes⟩)
    (cCheckRoutes : PySem.W.codeIn K cdCheckRoutes "check_routes" = true)
    (kCheckRoutes : PySem.W.keepIn K (.ref fCheckRoutes) = true)
    (aIsRoute : PySem.W.nsIn K mainGlobals "is_route" = some (some (.ref fIsRoute)))
    (lIsRoute : K.lookup fIsRoute = some ⟨ocIsRoute, odIsRoute, .func (PySem.W.fnOf "is_route" "is_route" (defArgs sIsRoute) (defBody sIsRoute) (defScope sIsRoute) .none kVIsRoute dcIsRoute pmIsRoute anIsRoute cdIsRoute ctIsRoute), slIsRoute⟩)
    (cIsRoute : PySem.W.codeIn K cdIsRoute "is_route" = true)
    (kIsRoute : PySem.W.keepIn K (.ref fIsRoute) = true)
    (aPlacesOf : PySem.W.nsIn K mainGlobals "places_of" = some (some (.ref fPlacesOf)))
    (lPlacesOf : K.lookup fPlacesOf = some ⟨ocPlacesOf, odPlacesOf, .func (PySem.W.fnOf "places_of" "places_of" (defArgs sPlacesOf) (defBody sPlacesOf) (defScope sPlacesOf) .none kVPlacesOf dcPlacesOf pmPlacesOf anPlacesOf cdPlacesOf ctPlacesOf), slPlacesOf⟩)
    (cPlacesOf : PySem.W.codeIn K cdPlacesOf "places_of" = true)
    (kPlacesOf : PySem.W.keepIn K (.ref fPlacesOf) = true)
    (aCheckShelf : PySem.W.nsIn K mainGlobals "check_shelf" = some (some (.ref fCheckShelf)))
    (lCheckShelf : K.lookup fCheckShelf = some ⟨ocCheckShelf, odCheckShelf, .func (PySem.W.fnOf "check_shelf" "check_shelf" (defArgs sCheckShelf) (defBody sCheckShelf) (defScope sCheckShelf) .none kVCheckShelf dcCheckShelf pmCheckShelf anCheckShelf cdCheckShelf ctCheckShelf), slCheckShelf⟩)
    (cCheckShelf : PySem.W.codeIn K cdCheckShelf "check_shelf" = true)
    (kCheckShelf : PySem.W.keepIn K (.ref fCheckShelf) = true)
    (aCheckCarrier : PySem.W.nsIn K mainGlobals "check_carrier" = some (some (.ref fCheckCarrier)))
    (lCheckCarrier : K.lookup fCheckCarrier = some ⟨ocCheckCarrier, odCheckCarrier, .func (PySem.W.fnOf "check_carrier" "check_carrier" (defArgs sCheckCarrier) (defBody sCheckCarrier) (defScope sCheckCarrier) .none kVCheckCarrier dcCheckCarrier pmCheckCarrier anCheckCarrier cdCheckCarrier ctCheckCarrier), slCheckCarrier⟩)
    (cCheckCarrier : PySem.W.codeIn K cdCheckCarrier "check_carrier" = true)
    (kCheckCarrier : PySem.W.keepIn K (.ref fCheckCarrier) = true)
    (aShelvesOf : PySem.W.nsIn K mainGlobals "shelves_of_places" = some (some (.ref fShelvesOf)))
    (lShelvesOf : K.lookup fShelvesOf = some ⟨ocShelvesOf, odShelvesOf, .func (PySem.W.fnOf "shelves_of_places" "shelves_of_places" (defArgs sShelvesOf) (defBody sShelvesOf) (defScope sShelvesOf) .none kVShelvesOf dcShelvesOf pmShelvesOf anShelvesOf cdShelvesOf ctShelvesOf), slShelvesOf⟩)
    (cShelvesOf : PySem.W.codeIn K cdShelvesOf "shelves_of_places" = true)
    (kShelvesOf : PySem.W.keepIn K (.ref fShelvesOf) = true)
    (aNumPlaces : PySem.W.nsIn K mainGlobals "number_of_places" = some (some (.ref fNumPlaces)))
    (lNumPlaces : K.lookup fNumPlaces = some ⟨ocNumPlaces, odNumPlaces, .func (PySem.W.fnOf "number_of_places" "number_of_places" (defArgs sNumPlaces) (defBody sNumPlaces) (defScope sNumPlaces) .none kVNumPlaces dcNumPlaces pmNumPlaces anNumPlaces cdNumPlaces ctNumPlaces), slNumPlaces⟩)
    (cNumPlaces : PySem.W.codeIn K cdNumPlaces "number_of_places" = true)
    (kNumPlaces : PySem.W.keepIn K (.ref fNumPlaces) = true)
    (aVisitsIn : PySem.W.nsIn K mainGlobals "visits_in_tick" = some (some (.ref fVisitsIn)))
    (lVisitsIn : K.lookup fVisitsIn = some ⟨ocVisitsIn, odVisitsIn, .func (PySem.W.fnOf "visits_in_tick" "visits_in_tick" (defArgs sVisitsIn) (defBody sVisitsIn) (defScope sVisitsIn) .none kVVisitsIn dcVisitsIn pmVisitsIn anVisitsIn cdVisitsIn ctVisitsIn), slVisitsIn⟩)
    (cVisitsIn : PySem.W.codeIn K cdVisitsIn "visits_in_tick" = true)
    (kVisitsIn : PySem.W.keepIn K (.ref fVisitsIn) = true)
    (aCommon : PySem.W.nsIn K mainGlobals "common_pattern" = some (some (.ref fCommon)))
    (lCommon : K.lookup fCommon = some ⟨ocCommon, odCommon, .func (PySem.W.fnOf "common_pattern" "common_pattern" (defArgs sCommon) (defBody sCommon) (defScope sCommon) .none kVCommon dcCommon pmCommon anCommon cdCommon ctCommon), slCommon⟩)
    (cCommon : PySem.W.codeIn K cdCommon "common_pattern" = true)
    (kCommon : PySem.W.keepIn K (.ref fCommon) = true)
    (aRoutePat : PySem.W.nsIn K mainGlobals "route_pattern" = some (some (.ref fRoutePat)))
    (lRoutePat : K.lookup fRoutePat = some ⟨ocRoutePat, odRoutePat, .func (PySem.W.fnOf "route_pattern" "route_pattern" (defArgs sRoutePat) (defBody sRoutePat) (defScope sRoutePat) .none kVRoutePat dcRoutePat pmRoutePat anRoutePat cdRoutePat ctRoutePat), slRoutePat⟩)
    (cRoutePat : PySem.W.codeIn K cdRoutePat "route_pattern" = true)
    (kRoutePat : PySem.W.keepIn K (.ref fRoutePat) = true)
    (aJoin : PySem.W.nsIn K mainGlobals "join_layout" = some (some (.ref fJoin)))
    (lJoin : K.lookup fJoin = some ⟨ocJoin, odJoin, .func (PySem.W.fnOf "join_layout" "join_layout" (defArgs sJoin) (defBody sJoin) (defScope sJoin) .none kVJoin dcJoin pmJoin anJoin cdJoin ctJoin), slJoin⟩)
    (cJoin : PySem.W.codeIn K cdJoin "join_layout" = true)
    (kJoin : PySem.W.keepIn K (.ref fJoin) = true)
    (aSplit : PySem.W.nsIn K mainGlobals "split_layout" = some (some (.ref fSplit)))
    (lSplit : K.lookup fSplit = some ⟨ocSplit, odSplit, .func (PySem.W.fnOf "split_layout" "split_layout" (defArgs sSplit) (defBody sSplit) (defScope sSplit) .none kVSplit dcSplit pmSplit anSplit cdSplit ctSplit), slSplit⟩)
    (cSplit : PySem.W.codeIn K cdSplit "split_layout" = true)
    (kSplit : PySem.W.keepIn K (.ref fSplit) = true)
    (aAfterTick : PySem.W.nsIn K mainGlobals "after_tick" = some (some (.ref fAfterTick)))
    (lAfterTick : K.lookup fAfterTick = some ⟨ocAfterTick, odAfterTick, .func (PySem.W.fnOf "after_tick" "after_tick" (defArgs sAfterTick) (defBody sAfterTick) (defScope sAfterTick) .none kVAfterTick dcAfterTick pmAfterTick anAfterTick cdAfterTick ctAfterTick), slAfterTick⟩)
    (cAfterTick : PySem.W.codeIn K cdAfterTick "after_tick" = true)
    (kAfterTick : PySem.W.keepIn K (.ref fAfterTick) = true)
    (aEffectTicks : PySem.W.nsIn K mainGlobals "effect_of_ticks" = some (some (.ref fEffectTicks)))
    (lEffectTicks : K.lookup fEffectTicks = some ⟨ocEffectTicks, odEffectTicks, .func (PySem.W.fnOf "effect_of_ticks" "effect_of_ticks" (defArgs sEffectTicks) (defBody sEffectTicks) (defScope sEffectTicks) .none kVEffectTicks dcEffectTicks pmEffectTicks anEffectTicks cdEffectTicks ctEffectTicks), slEffectTicks⟩)
    (cEffectTicks : PySem.W.codeIn K cdEffectTicks "effect_of_ticks" = true)
    (kEffectTicks : PySem.W.keepIn K (.ref fEffectTicks) = true)
    (aInverse : PySem.W.nsIn K mainGlobals "inverse" = some (some (.ref fInverse)))
    (lInverse : K.lookup fInverse = some ⟨ocInverse, odInverse, .func (PySem.W.fnOf "inverse" "inverse" (defArgs sInverse) (defBody sInverse) (defScope sInverse) .none kVInverse dcInverse pmInverse anInverse cdInverse ctInverse), slInverse⟩)
    (cInverse : PySem.W.codeIn K cdInverse "inverse" = true)
    (kInverse : PySem.W.keepIn K (.ref fInverse) = true)
    (aRepeated : PySem.W.nsIn K mainGlobals "repeated" = some (some (.ref fRepeated)))
    (lRepeated : K.lookup fRepeated = some ⟨ocRepeated, odRepeated, .func (PySem.W.fnOf "repeated" "repeated" (defArgs sRepeated) (defBody sRepeated) (defScope sRepeated) .none kVRepeated dcRepeated pmRepeated anRepeated cdRepeated ctRepeated), slRepeated⟩)
    (cRepeated : PySem.W.codeIn K cdRepeated "repeated" = true)
    (kRepeated : PySem.W.keepIn K (.ref fRepeated) = true)
    (aOrderOf : PySem.W.nsIn K mainGlobals "order_of" = some (some (.ref fOrderOf)))
    (lOrderOf : K.lookup fOrderOf = some ⟨ocOrderOf, odOrderOf, .func (PySem.W.fnOf "order_of" "order_of" (defArgs sOrderOf) (defBody sOrderOf) (defScope sOrderOf) .none kVOrderOf dcOrderOf pmOrderOf anOrderOf cdOrderOf ctOrderOf), slOrderOf⟩)
    (cOrderOf : PySem.W.codeIn K cdOrderOf "order_of" = true)
    (kOrderOf : PySem.W.keepIn K (.ref fOrderOf) = true)
    (aCyclesOf : PySem.W.nsIn K mainGlobals "cycles_of" = some (some (.ref fCyclesOf)))
    (lCyclesOf : K.lookup fCyclesOf = some ⟨ocCyclesOf, odCyclesOf, .func (PySem.W.fnOf "cycles_of" "cycles_of" (defArgs sCyclesOf) (defBody sCyclesOf) (defScope sCyclesOf) .none kVCyclesOf dcCyclesOf pmCyclesOf anCyclesOf cdCyclesOf ctCyclesOf), slCyclesOf⟩)
    (cCyclesOf : PySem.W.codeIn K cdCyclesOf "cycles_of" = true)
    (kCyclesOf : PySem.W.keepIn K (.ref fCyclesOf) = true)
    (aCycleFrom : PySem.W.nsIn K mainGlobals "cycle_from" = some (some (.ref fCycleFrom)))
    (lCycleFrom : K.lookup fCycleFrom = some ⟨ocCycleFrom, odCycleFrom, .func (PySem.W.fnOf "cycle_from" "cycle_from" (defArgs sCycleFrom) (defBody sCycleFrom) (defScope sCycleFrom) .none kVCycleFrom dcCycleFrom pmCycleFrom anCycleFrom cdCycleFrom ctCycleFrom), slCycleFrom⟩)
    (cCycleFrom : PySem.W.codeIn K cdCycleFrom "cycle_from" = true)
    (kCycleFrom : PySem.W.keepIn K (.ref fCycleFrom) = true)
    (aInitial : PySem.W.nsIn K mainGlobals "initial_state" = some (some (.ref fInitial)))
    (lInitial : K.lookup fInitial = some ⟨ocInitial, odInitial, .func (PySem.W.fnOf "initial_state" "initial_state" (defArgs sInitial) (defBody sInitial) (defScope sInitial) .none kVInitial dcInitial pmInitial anInitial cdInitial ctInitial), slInitial⟩)
    (cInitial : PySem.W.codeIn K cdInitial "initial_state" = true)
    (kInitial : PySem.W.keepIn K (.ref fInitial) = true)
    (aMoved : PySem.W.nsIn K mainGlobals "moved" = some (some (.ref fMoved)))
    (lMoved : K.lookup fMoved = some ⟨ocMoved, odMoved, .func (PySem.W.fnOf "moved" "moved" (defArgs sMoved) (defBody sMoved) (defScope sMoved) .none kVMoved dcMoved pmMoved anMoved cdMoved ctMoved), slMoved⟩)
    (cMoved : PySem.W.codeIn K cdMoved "moved" = true)
    (kMoved : PySem.W.keepIn K (.ref fMoved) = true)
    (aStateOf : PySem.W.nsIn K mainGlobals "state_of" = some (some (.ref fStateOf)))
    (lStateOf : K.lookup fStateOf = some ⟨ocStateOf, odStateOf, .func (PySem.W.fnOf "state_of" "state_of" (defArgs sStateOf) (defBody sStateOf) (defScope sStateOf) .none kVStateOf dcStateOf pmStateOf anStateOf cdStateOf ctStateOf), slStateOf⟩)
    (cStateOf : PySem.W.codeIn K cdStateOf "state_of" = true)
    (kStateOf : PySem.W.keepIn K (.ref fStateOf) = true)
    (aParcelsIn : PySem.W.nsIn K mainGlobals "parcels_in" = some (some (.ref fParcelsIn)))
    (lParcelsIn : K.lookup fParcelsIn = some ⟨ocParcelsIn, odParcelsIn, .func (PySem.W.fnOf "parcels_in" "parcels_in" (defArgs sParcelsIn) (defBody sParcelsIn) (defScope sParcelsIn) .none kVParcelsIn dcParcelsIn pmParcelsIn anParcelsIn cdParcelsIn ctParcelsIn), slParcelsIn⟩)
    (cParcelsIn : PySem.W.codeIn K cdParcelsIn "parcels_in" = true)
    (kParcelsIn : PySem.W.keepIn K (.ref fParcelsIn) = true)
    (aCheckState : PySem.W.nsIn K mainGlobals "check_state" = some (some (.ref fCheckState)))
    (lCheckState : K.lookup fCheckState = some ⟨ocCheckState, odCheckState, .func (PySem.W.fnOf "check_state" "check_state" (defArgs sCheckState) (defBody sCheckState) (defScope sCheckState) .none kVCheckState dcCheckState pmCheckState anCheckState cdCheckState ctCheckState), slCheckState⟩)
    (cCheckState : PySem.W.codeIn K cdCheckState "check_state" = true)
    (kCheckState : PySem.W.keepIn K (.ref fCheckState) = true)
    (aFits : PySem.W.nsIn K mainGlobals "fits_plan" = some (some (.ref fFits)))
    (lFits : K.lookup fFits = some ⟨ocFits, odFits, .func (PySem.W.fnOf "fits_plan" "fits_plan" (defArgs sFits) (defBody sFits) (defScope sFits) .none kVFits dcFits pmFits anFits cdFits ctFits), slFits⟩)
    (cFits : PySem.W.codeIn K cdFits "fits_plan" = true)
    (kFits : PySem.W.keepIn K (.ref fFits) = true)
    (aTupOf : PySem.W.nsIn K mainGlobals "is_tuple_of" = some (some (.ref fTupOf)))
    (lTupOf : K.lookup fTupOf = some ⟨ocTupOf, odTupOf, .func (PySem.W.fnOf "is_tuple_of" "is_tuple_of" (defArgs sTupOf) (defBody sTupOf) (defScope sTupOf) .none kVTupOf dcTupOf pmTupOf anTupOf cdTupOf ctTupOf), slTupOf⟩)
    (cTupOf : PySem.W.codeIn K cdTupOf "is_tuple_of" = true)
    (kTupOf : PySem.W.keepIn K (.ref fTupOf) = true)
    (aParcels : PySem.W.nsIn K mainGlobals "are_parcels" = some (some (.ref fParcels)))
    (lParcels : K.lookup fParcels = some ⟨ocParcels, odParcels, .func (PySem.W.fnOf "are_parcels" "are_parcels" (defArgs sParcels) (defBody sParcels) (defScope sParcels) .none kVParcels dcParcels pmParcels anParcels cdParcels ctParcels), slParcels⟩)
    (cParcels : PySem.W.codeIn K cdParcels "are_parcels" = true)
    (kParcels : PySem.W.keepIn K (.ref fParcels) = true)
    (aCheckParcel : PySem.W.nsIn K mainGlobals "check_parcel" = some (some (.ref fCheckParcel)))
    (lCheckParcel : K.lookup fCheckParcel = some ⟨ocCheckParcel, odCheckParcel, .func (PySem.W.fnOf "check_parcel" "check_parcel" (defArgs sCheckParcel) (defBody sCheckParcel) (defScope sCheckParcel) .none kVCheckParcel dcCheckParcel pmCheckParcel anCheckParcel cdCheckParcel ctCheckParcel), slCheckParcel⟩)
    (cCheckParcel : PySem.W.codeIn K cdCheckParcel "check_parcel" = true)
    (kCheckParcel : PySem.W.keepIn K (.ref fCheckParcel) = true)
    (aPlaceOfParcel : PySem.W.nsIn K mainGlobals "place_of_parcel" = some (some (.ref fPlaceOfParcel)))
    (lPlaceOfParcel : K.lookup fPlaceOfParcel = some ⟨ocPlaceOfParcel, odPlaceOfParcel, .func (PySem.W.fnOf "place_of_parcel" "place_of_parcel" (defArgs sPlaceOfParcel) (defBody sPlaceOfParcel) (defScope sPlaceOfParcel) .none kVPlaceOfParcel dcPlaceOfParcel pmPlaceOfParcel anPlaceOfParcel cdPlaceOfParcel ctPlaceOfParcel), slPlaceOfParcel⟩)
    (cPlaceOfParcel : PySem.W.codeIn K cdPlaceOfParcel "place_of_parcel" = true)
    (kPlaceOfParcel : PySem.W.keepIn K (.ref fPlaceOfParcel) = true)
    (aStartOf : PySem.W.nsIn K mainGlobals "start_of_parcel" = some (some (.ref fStartOf)))
    (lStartOf : K.lookup fStartOf = some ⟨ocStartOf, odStartOf, .func (PySem.W.fnOf "start_of_parcel" "start_of_parcel" (defArgs sStartOf) (defBody sStartOf) (defScope sStartOf) .none kVStartOf dcStartOf pmStartOf anStartOf cdStartOf ctStartOf), slStartOf⟩)
    (cStartOf : PySem.W.codeIn K cdStartOf "start_of_parcel" = true)
    (kStartOf : PySem.W.keepIn K (.ref fStartOf) = true)
    (aAdvance : PySem.W.nsIn K mainGlobals "advance" = some (some (.ref fAdvance)))
    (lAdvance : K.lookup fAdvance = some ⟨ocAdvance, odAdvance, .func (PySem.W.fnOf "advance" "advance" (defArgs sAdvance) (defBody sAdvance) (defScope sAdvance) .none kVAdvance dcAdvance pmAdvance anAdvance cdAdvance ctAdvance), slAdvance⟩)
    (cAdvance : PySem.W.codeIn K cdAdvance "advance" = true)
    (kAdvance : PySem.W.keepIn K (.ref fAdvance) = true)
    (aLocate : PySem.W.nsIn K mainGlobals "locate" = some (some (.ref fLocate)))
    (lLocate : K.lookup fLocate = some ⟨ocLocate, odLocate, .func (PySem.W.fnOf "locate" "locate" (defArgs sLocate) (defBody sLocate) (defScope sLocate) .none kVLocate dcLocate pmLocate anLocate cdLocate ctLocate), slLocate⟩)
    (cLocate : PySem.W.codeIn K cdLocate "locate" = true)
    (kLocate : PySem.W.keepIn K (.ref fLocate) = true)
    (aPeriod : PySem.W.nsIn K mainGlobals "period" = some (some (.ref fPeriod)))
    (lPeriod : K.lookup fPeriod = some ⟨ocPeriod, odPeriod, .func (PySem.W.fnOf "period" "period" (defArgs sPeriod) (defBody sPeriod) (defScope sPeriod) .none kVPeriod dcPeriod pmPeriod anPeriod cdPeriod ctPeriod), slPeriod⟩)
    (cPeriod : PySem.W.codeIn K cdPeriod "period" = true)
    (kPeriod : PySem.W.keepIn K (.ref fPeriod) = true)
    (aStopsJ : PySem.W.nsIn K mainGlobals "stops_of_journey" = some (some (.ref fStopsJ)))
    (lStopsJ : K.lookup fStopsJ = some ⟨ocStopsJ, odStopsJ, .func (PySem.W.fnOf "stops_of_journey" "stops_of_journey" (defArgs sStopsJ) (defBody sStopsJ) (defScope sStopsJ) .none kVStopsJ dcStopsJ pmStopsJ anStopsJ cdStopsJ ctStopsJ), slStopsJ⟩)
    (cStopsJ : PySem.W.codeIn K cdStopsJ "stops_of_journey" = true)
    (kStopsJ : PySem.W.keepIn K (.ref fStopsJ) = true)
    (aLeftsJ : PySem.W.nsIn K mainGlobals "lefts_of_journey" = some (some (.ref fLeftsJ)))
    (lLeftsJ : K.lookup fLeftsJ = some ⟨ocLeftsJ, odLeftsJ, .func (PySem.W.fnOf "lefts_of_journey" "lefts_of_journey" (defArgs sLeftsJ) (defBody sLeftsJ) (defScope sLeftsJ) .none kVLeftsJ dcLeftsJ pmLeftsJ anLeftsJ cdLeftsJ ctLeftsJ), slLeftsJ⟩)
    (cLeftsJ : PySem.W.codeIn K cdLeftsJ "lefts_of_journey" = true)
    (kLeftsJ : PySem.W.keepIn K (.ref fLeftsJ) = true)
    (aCountIn : PySem.W.nsIn K mainGlobals "count_in_ticks" = some (some (.ref fCountIn)))
    (lCountIn : K.lookup fCountIn = some ⟨ocCountIn, odCountIn, .func (PySem.W.fnOf "count_in_ticks" "count_in_ticks" (defArgs sCountIn) (defBody sCountIn) (defScope sCountIn) .none kVCountIn dcCountIn pmCountIn anCountIn cdCountIn ctCountIn), slCountIn⟩)
    (cCountIn : PySem.W.codeIn K cdCountIn "count_in_ticks" = true)
    (kCountIn : PySem.W.keepIn K (.ref fCountIn) = true)
    (aTimesLeft : PySem.W.nsIn K mainGlobals "times_left" = some (some (.ref fTimesLeft)))
    (lTimesLeft : K.lookup fTimesLeft = some ⟨ocTimesLeft, odTimesLeft, .func (PySem.W.fnOf "times_left" "times_left" (defArgs sTimesLeft) (defBody sTimesLeft) (defScope sTimesLeft) .none kVTimesLeft dcTimesLeft pmTimesLeft anTimesLeft cdTimesLeft ctTimesLeft), slTimesLeft⟩)
    (cTimesLeft : PySem.W.codeIn K cdTimesLeft "times_left" = true)
    (kTimesLeft : PySem.W.keepIn K (.ref fTimesLeft) = true)
    (aTicksCarried : PySem.W.nsIn K mainGlobals "ticks_carried" = some (some (.ref fTicksCarried)))
    (lTicksCarried : K.lookup fTicksCarried = some ⟨ocTicksCarried, odTicksCarried, .func (PySem.W.fnOf "ticks_carried" "ticks_carried" (defArgs sTicksCarried) (defBody sTicksCarried) (defScope sTicksCarried) .none kVTicksCarried dcTicksCarried pmTicksCarried anTicksCarried cdTicksCarried ctTicksCarried), slTicksCarried⟩)
    (cTicksCarried : PySem.W.codeIn K cdTicksCarried "ticks_carried" = true)
    (kTicksCarried : PySem.W.keepIn K (.ref fTicksCarried) = true)
    (aNthLeft : PySem.W.nsIn K mainGlobals "nth_left" = some (some (.ref fNthLeft)))
    (lNthLeft : K.lookup fNthLeft = some ⟨ocNthLeft, odNthLeft, .func (PySem.W.fnOf "nth_left" "nth_left" (defArgs sNthLeft) (defBody sNthLeft) (defScope sNthLeft) .none kVNthLeft dcNthLeft pmNthLeft anNthLeft cdNthLeft ctNthLeft), slNthLeft⟩)
    (cNthLeft : PySem.W.codeIn K cdNthLeft "nth_left" = true)
    (kNthLeft : PySem.W.keepIn K (.ref fNthLeft) = true)
    (aStampAt : PySem.W.nsIn K mainGlobals "stamp_at" = some (some (.ref fStampAt)))
    (lStampAt : K.lookup fStampAt = some ⟨ocStampAt, odStampAt, .func (PySem.W.fnOf "stamp_at" "stamp_at" (defArgs sStampAt) (defBody sStampAt) (defScope sStampAt) .none kVStampAt dcStampAt pmStampAt anStampAt cdStampAt ctStampAt), slStampAt⟩)
    (cStampAt : PySem.W.codeIn K cdStampAt "stamp_at" = true)
    (kStampAt : PySem.W.keepIn K (.ref fStampAt) = true)
    (aStampsJ : PySem.W.nsIn K mainGlobals "stamps_of_journey" = some (some (.ref fStampsJ)))
    (lStampsJ : K.lookup fStampsJ = some ⟨ocStampsJ, odStampsJ, .func (PySem.W.fnOf "stamps_of_journey" "stamps_of_journey" (defArgs sStampsJ) (defBody sStampsJ) (defScope sStampsJ) .none kVStampsJ dcStampsJ pmStampsJ anStampsJ cdStampsJ ctStampsJ), slStampsJ⟩)
    (cStampsJ : PySem.W.codeIn K cdStampsJ "stamps_of_journey" = true)
    (kStampsJ : PySem.W.keepIn K (.ref fStampsJ) = true)
    (aFollowsBy : PySem.W.nsIn K mainGlobals "follows_by" = some (some (.ref fFollowsBy)))
    (lFollowsBy : K.lookup fFollowsBy = some ⟨ocFollowsBy, odFollowsBy, .func (PySem.W.fnOf "follows_by" "follows_by" (defArgs sFollowsBy) (defBody sFollowsBy) (defScope sFollowsBy) .none kVFollowsBy dcFollowsBy pmFollowsBy anFollowsBy cdFollowsBy ctFollowsBy), slFollowsBy⟩)
    (cFollowsBy : PySem.W.codeIn K cdFollowsBy "follows_by" = true)
    (kFollowsBy : PySem.W.keepIn K (.ref fFollowsBy) = true)
    (aFamilies : PySem.W.nsIn K mainGlobals "families" = some (some (.ref fFamilies)))
    (lFamilies : K.lookup fFamilies = some ⟨ocFamilies, odFamilies, .func (PySem.W.fnOf "families" "families" (defArgs sFamilies) (defBody sFamilies) (defScope sFamilies) .none kVFamilies dcFamilies pmFamilies anFamilies cdFamilies ctFamilies), slFamilies⟩)
    (cFamilies : PySem.W.codeIn K cdFamilies "families" = true)
    (kFamilies : PySem.W.keepIn K (.ref fFamilies) = true)
    (aFirstMeeting : PySem.W.nsIn K mainGlobals "first_meeting" = some (some (.ref fFirstMeeting)))
    (lFirstMeeting : K.lookup fFirstMeeting = some ⟨ocFirstMeeting, odFirstMeeting, .func (PySem.W.fnOf "first_meeting" "first_meeting" (defArgs sFirstMeeting) (defBody sFirstMeeting) (defScope sFirstMeeting) .none kVFirstMeeting dcFirstMeeting pmFirstMeeting anFirstMeeting cdFirstMeeting ctFirstMeeting), slFirstMeeting⟩)
    (cFirstMeeting : PySem.W.codeIn K cdFirstMeeting "first_meeting" = true)
    (kFirstMeeting : PySem.W.keepIn K (.ref fFirstMeeting) = true)
    (aMarks : PySem.W.nsIn K mainGlobals "marks_of_meetings" = some (some (.ref fMarks)))
    (lMarks : K.lookup fMarks = some ⟨ocMarks, odMarks, .func (PySem.W.fnOf "marks_of_meetings" "marks_of_meetings" (defArgs sMarks) (defBody sMarks) (defScope sMarks) .none kVMarks dcMarks pmMarks anMarks cdMarks ctMarks), slMarks⟩)
    (cMarks : PySem.W.codeIn K cdMarks "marks_of_meetings" = true)
    (kMarks : PySem.W.keepIn K (.ref fMarks) = true)
    (aShelvesLap : PySem.W.nsIn K mainGlobals "shelves_in_a_lap" = some (some (.ref fShelvesLap)))
    (lShelvesLap : K.lookup fShelvesLap = some ⟨ocShelvesLap, odShelvesLap, .func (PySem.W.fnOf "shelves_in_a_lap" "shelves_in_a_lap" (defArgs sShelvesLap) (defBody sShelvesLap) (defScope sShelvesLap) .none kVShelvesLap dcShelvesLap pmShelvesLap anShelvesLap cdShelvesLap ctShelvesLap), slShelvesLap⟩)
    (cShelvesLap : PySem.W.codeIn K cdShelvesLap "shelves_in_a_lap" = true)
    (kShelvesLap : PySem.W.keepIn K (.ref fShelvesLap) = true)
    (aMarksLap : PySem.W.nsIn K mainGlobals "marks_in_a_lap" = some (some (.ref fMarksLap)))
    (lMarksLap : K.lookup fMarksLap = some ⟨ocMarksLap, odMarksLap, .func (PySem.W.fnOf "marks_in_a_lap" "marks_in_a_lap" (defArgs sMarksLap) (defBody sMarksLap) (defScope sMarksLap) .none kVMarksLap dcMarksLap pmMarksLap anMarksLap cdMarksLap ctMarksLap), slMarksLap⟩)
    (cMarksLap : PySem.W.codeIn K cdMarksLap "marks_in_a_lap" = true)
    (kMarksLap : PySem.W.keepIn K (.ref fMarksLap) = true)
    (aPairs : PySem.W.nsIn K mainGlobals "pairs_before_laps" = some (some (.ref fPairs)))
    (lPairs : K.lookup fPairs = some ⟨ocPairs, odPairs, .func (PySem.W.fnOf "pairs_before_laps" "pairs_before_laps" (defArgs sPairs) (defBody sPairs) (defScope sPairs) .none kVPairs dcPairs pmPairs anPairs cdPairs ctPairs), slPairs⟩)
    (cPairs : PySem.W.codeIn K cdPairs "pairs_before_laps" = true)
    (kPairs : PySem.W.keepIn K (.ref fPairs) = true)
    (aLMix : PySem.W.nsIn K mainGlobals "_law_mix" = some (some (.ref fLMix)))
    (lLMix : K.lookup fLMix = some ⟨ocLMix, odLMix, .func (PySem.W.fnOf "_law_mix" "_law_mix" (defArgs sMix) (defBody sMix) (defScope sMix) .none kVLMix dcLMix pmLMix anLMix cdLMix ctLMix), slLMix⟩)
    (cLMix : PySem.W.codeIn K cdLMix "_law_mix" = true)
    (kLMix : PySem.W.keepIn K (.ref fLMix) = true)
    (aLNext : PySem.W.nsIn K mainGlobals "_law_next" = some (some (.ref fLNext)))
    (lLNext : K.lookup fLNext = some ⟨ocLNext, odLNext, .func (PySem.W.fnOf "_law_next" "_law_next" (defArgs sNext) (defBody sNext) (defScope sNext) .none kVLNext dcLNext pmLNext anLNext cdLNext ctLNext), slLNext⟩)
    (cLNext : PySem.W.codeIn K cdLNext "_law_next" = true)
    (kLNext : PySem.W.keepIn K (.ref fLNext) = true)
    (aLAlike : PySem.W.nsIn K mainGlobals "_law_alike" = some (some (.ref fLAlike)))
    (lLAlike : K.lookup fLAlike = some ⟨ocLAlike, odLAlike, .func (PySem.W.fnOf "_law_alike" "_law_alike" (defArgs sAlike) (defBody sAlike) (defScope sAlike) .none kVLAlike dcLAlike pmLAlike anLAlike cdLAlike ctLAlike), slLAlike⟩)
    (cLAlike : PySem.W.codeIn K cdLAlike "_law_alike" = true)
    (kLAlike : PySem.W.keepIn K (.ref fLAlike) = true)
    (aLOneRight : PySem.W.nsIn K mainGlobals "_law_one_right" = some (some (.ref fLOneRight)))
    (lLOneRight : K.lookup fLOneRight = some ⟨ocLOneRight, odLOneRight, .func (PySem.W.fnOf "_law_one_right" "_law_one_right" (defArgs sOneRight) (defBody sOneRight) (defScope sOneRight) .none kVLOneRight dcLOneRight pmLOneRight anLOneRight cdLOneRight ctLOneRight), slLOneRight⟩)
    (cLOneRight : PySem.W.codeIn K cdLOneRight "_law_one_right" = true)
    (kLOneRight : PySem.W.keepIn K (.ref fLOneRight) = true)
    (aLQueueRight : PySem.W.nsIn K mainGlobals "_law_queue_right" = some (some (.ref fLQueueRight)))
    (lLQueueRight : K.lookup fLQueueRight = some ⟨ocLQueueRight, odLQueueRight, .func (PySem.W.fnOf "_law_queue_right" "_law_queue_right" (defArgs sQueueRight) (defBody sQueueRight) (defScope sQueueRight) .none kVLQueueRight dcLQueueRight pmLQueueRight anLQueueRight cdLQueueRight ctLQueueRight), slLQueueRight⟩)
    (cLQueueRight : PySem.W.codeIn K cdLQueueRight "_law_queue_right" = true)
    (kLQueueRight : PySem.W.keepIn K (.ref fLQueueRight) = true)
    (aLRoundRight : PySem.W.nsIn K mainGlobals "_law_round_right" = some (some (.ref fLRoundRight)))
    (lLRoundRight : K.lookup fLRoundRight = some ⟨ocLRoundRight, odLRoundRight, .func (PySem.W.fnOf "_law_round_right" "_law_round_right" (defArgs sRoundRight) (defBody sRoundRight) (defScope sRoundRight) .none kVLRoundRight dcLRoundRight pmLRoundRight anLRoundRight cdLRoundRight ctLRoundRight), slLRoundRight⟩)
    (cLRoundRight : PySem.W.codeIn K cdLRoundRight "_law_round_right" = true)
    (kLRoundRight : PySem.W.keepIn K (.ref fLRoundRight) = true)
    (aLaw : PySem.W.nsIn K mainGlobals "law" = some (some (.ref fLaw)))
    (lLaw : K.lookup fLaw = some ⟨ocLaw, odLaw, .func (PySem.W.fnOf "law" "law" (defArgs sLaw) (defBody sLaw) (defScope sLaw) .none kVLaw dcLaw pmLaw anLaw cdLaw ctLaw), slLaw⟩)
    (cLaw : PySem.W.codeIn K cdLaw "law" = true)
    (kLaw : PySem.W.keepIn K (.ref fLaw) = true)
    (n_isinstance : PySem.W.nsIn K mainGlobals "isinstance" = some none)
    (n_bool : PySem.W.nsIn K mainGlobals "bool" = some none)
    (n_int : PySem.W.nsIn K mainGlobals "int" = some none)
    (n_str : PySem.W.nsIn K mainGlobals "str" = some none)
    (n_list : PySem.W.nsIn K mainGlobals "list" = some none)
    (n_tuple : PySem.W.nsIn K mainGlobals "tuple" = some none)
    (n_dict : PySem.W.nsIn K mainGlobals "dict" = some none)
    (n_len : PySem.W.nsIn K mainGlobals "len" = some none)
    (n_range : PySem.W.nsIn K mainGlobals "range" = some none)
    (n_enumerate : PySem.W.nsIn K mainGlobals "enumerate" = some none)
    (n_max : PySem.W.nsIn K mainGlobals "max" = some none)
    (n_sum : PySem.W.nsIn K mainGlobals "sum" = some none)
    (n_set : PySem.W.nsIn K mainGlobals "set" = some none)
    (n_zip : PySem.W.nsIn K mainGlobals "zip" = some none)
    (n_divmod : PySem.W.nsIn K mainGlobals "divmod" = some none)
    (n_sorted : PySem.W.nsIn K mainGlobals "sorted" = some none)
    (n_abs : PySem.W.nsIn K mainGlobals "abs" = some none)
    (n_min : PySem.W.nsIn K mainGlobals "min" = some none)
    (n_super : PySem.W.nsIn K mainGlobals "super" = some none)
    (n_lcm : PySem.W.nsIn K mainGlobals "lcm" = some (some (.builtin "math.lcm")))
    (m1 : PySem.W.nsIn K mainGlobals "MOST_SHELVES" = some (some (.int 12 tm1)))
    (m2 : PySem.W.nsIn K mainGlobals "MOST_ON_SHELF" = some (some (.int 9 tm2)))
    (m3 : PySem.W.nsIn K mainGlobals "MOST_CARRIERS" = some (some (.int 6 tm3)))
    (m4 : PySem.W.nsIn K mainGlobals "MOST_ENTRIES" = some (some (.int 6 tm4)))
    (lastP : PySem.W.nsIn K mainGlobals "LAST_PARCEL" = some (some (.int 999 tlP)))
    (e0 : PySem.W.nsIn K mainGlobals "InvalidPlan" = some (some (.ref C0)))
    (e1 : PySem.W.nsIn K mainGlobals "InvalidState" = some (some (.ref C1)))
    (e2 : PySem.W.nsIn K mainGlobals "InvalidCount" = some (some (.ref C2)))
    (e4 : PySem.W.nsIn K mainGlobals "UnknownParcel" = some (some (.ref C4)))
    (e5 : PySem.W.nsIn K mainGlobals "UnknownShelf" = some (some (.ref C5)))
    (e6 : PySem.W.nsIn K mainGlobals "UnknownCarrier" = some (some (.ref C6)))
    (xk0 : PySem.W.keepIn K (.ref C0) = true)
    (xb0 : PySem.W.subIn K (.ref C0) (.type "BaseException") = some true)
    (xt0 : PySem.W.typeIn K (.ref C0) = some (.type "type"))
    (yg0 : PySem.W.findIn K (.ref C0) "__getattribute__" = some (some (.builtin "BaseException.__getattribute__")))
    (yk0 : PySem.W.findIn K (.ref C0) "__getattr__" = some none)
    (yd0 : PySem.W.hasDictIn K C0 = true)
    (x1 : PySem.W.excIn K C1 [.type "ValueError", .type "Exception", .type "BaseException", .type "object"] "ValueError.__new__" = true)
    (xk1 : PySem.W.keepIn K (.ref C1) = true)
    (xb1 : PySem.W.subIn K (.ref C1) (.type "BaseException") = some true)
    (xt1 : PySem.W.typeIn K (.ref C1) = some (.type "type"))
    (x2 : PySem.W.excIn K C2 [.type "ValueError", .type "Exception", .type "BaseException", .type "object"] "ValueError.__new__" = true)
    (xk2 : PySem.W.keepIn K (.ref C2) = true)
    (xb2 : PySem.W.subIn K (.ref C2) (.type "BaseException") = some true)
    (xt2 : PySem.W.typeIn K (.ref C2) = some (.type "type"))
    (x4 : PySem.W.excIn K C4 [.type "ValueError", .type "Exception", .type "BaseException", .type "object"] "ValueError.__new__" = true)
    (xk4 : PySem.W.keepIn K (.ref C4) = true)
    (xb4 : PySem.W.subIn K (.ref C4) (.type "BaseException") = some true)
    (xt4 : PySem.W.typeIn K (.ref C4) = some (.type "type"))
    (x5 : PySem.W.excIn K C5 [.type "ValueError", .type "Exception", .type "BaseException", .type "object"] "ValueError.__new__" = true)
    (xk5 : PySem.W.keepIn K (.ref C5) = true)
    (xb5 : PySem.W.subIn K (.ref C5) (.type "BaseException") = some true)
    (xt5 : PySem.W.typeIn K (.ref C5) = some (.type "type"))
    (x6 : PySem.W.excIn K C6 [.type "ValueError", .type "Exception", .type "BaseException", .type "object"] "ValueError.__new__" = true)
    (xk6 : PySem.W.keepIn K (.ref C6) = true)
    (xb6 : PySem.W.subIn K (.ref C6) (.type "BaseException") = some true)
    (xt6 : PySem.W.typeIn K (.ref C6) = some (.type "type"))
    (qC : PySem.W.nsIn K mainGlobals "Lap" = some (some (.ref CL)))
    (q1 : PySem.W.findIn K (.ref CL) "__init__" = some (some (.ref fL)))
    (q2 : PySem.W.isFn K (.ref fL) = true)
    (q3 : K.lookup fL = some ⟨ocL, odL, .func (PySem.W.fnOf "__init__" "Lap.__init__" (defArgs sLapInit) (defBody sLapInit) (defScope sLapInit) .none kVL dcL pmL anL cdL ctL), slL⟩)
    (q4 : PySem.W.codeIn K cdL "Lap.__init__" = true)
    (q5 : PySem.W.keepIn K (.ref fL) = true)
    (q6 : PySem.W.plainGet K CL Str.empty = true)
    (q7 : PySem.W.hasDictIn K CL = true)
    (q8 : PySem.W.plainOver K CL = true)
    (q9 : PySem.W.findIn K (.ref CL) "__setattr__" = some (some (.builtin "object.__setattr__")))
    (q10 : PySem.W.makesIn K CL = true)
    (q11 : PySem.W.keepIn K (.ref CL) = true)
    (q12 : PySem.W.findIn K (.ref CL) "length" = some none)
    (q13 : PySem.W.findIn K (.ref CL) "stops" = some none)
    (q14 : PySem.W.findIn K (.ref CL) "lefts" = some none)
    (q15 : PySem.W.findIn K (.ref CL) "effect" = some none)
    (pC : K.lookup C0 = some (excClassObj pnm pq C0 pN pbs pbm true psn psub pab pcol pdd pk0 pk1 pk2 pk3 pk5 "ValueError.__new__"))
    (pR : PySem.HandSPX.refsVE pbm = true)
    (pSa : PySem.W.findIn K (.ref C0) "__setattr__" = some (some (.builtin "object.__setattr__")))
    (pN1 : PySem.W.findIn K (.ref C0) "part" = some none)
    (pN2 : PySem.W.findIn K (.ref C0) "index" = some none)
    (iC : PySem.W.findIn K (.ref C0) "__init__" = some (some (.ref fI)))
    (tI : PySem.W.typeIn K (.ref fI) = some (.type "function"))
    (lI : K.lookup fI = some ⟨ocI, odI, .func ((nfPlan cc c0).fd docI pmI ctI), slI⟩)
    (pCell : K.lookup cc = some ⟨ccl, ccd, .cell (some (.ref C0)), ccs⟩)
    (pCode : PySem.W.codeIn K (.ref c0) "InvalidPlan.__init__" = true)
    (pKo : K.lookup c0 = some ⟨kcl, kcd, .fields kvs, kcs⟩)
    (pKf : kvs[2]? = some (.str kfl ktf))
    (pKm : ((P.main.file : Str) == kfl) = true)
    (pTop : (P.main.scope.names.lookup ("super" : Str)).isSome = false)
    (pHs : PySem.W.ks_superIn K C0 C0 "__init__" = some (some (.builtin "ValueError.__init__")))
    (pHo : PySem.W.nsIn K PySem.cStatics "thirdparty.any" = some none)
    (pHB : PySem.W.subIn K (.ref C0) (.type "ValueError") = some true)
    (pHm : PySem.W.mroIn K C0 (.ref C0) = some true)
    : ∃ (fd : FuncData) (cs : List (Addr × Addr)) (sp : Sp), (∀ p ∈ cs, h.get? p.2 = some { cls := .none, data := .fields #[] }) ∧ (∀ p ∈ cs, K.lookup p.2 = none) ∧ (∀ p ∈ cs, PySem.W.CodeHd h p.1 p.2) ∧ (∀ (s : Shared) (u : Value), BindsTo s fd ⟨[u], []⟩ [("_law_script", u)]) ∧
    (∀ (H : Hp) (a : Addr) (ns : List Int), ns.length ≤ 63 → (∀ z ∈ ns, Builtin.Int.intBits z ≤ 1048576) → (∀ p ∈ cs, H p.2 = some (.tbl #[])) → SqL K H a (ns.map V.int) → sp [.ref a] H (fun v _ => v = .bl true) fun _ _ _ => False) ∧
    ∀ base : Heap, K.In base → base.Ns mainGlobals mg → (∀ p ∈ cs, TabB base mg p.1 p.2) → FnOk P w K mg base CX0 14 fa fd ["_law_script"] sp := by
  have e := hfa.symm.trans (PySem.W.mg_of X G aLaw)
  cases e
  have DWithin := df_mk (ps := ["number", "low", "high"]) X G aWithin lWithin cWithin kWithin fun _ _ _ _ _ _ us hl => match us, hl with | [_, _, _], _ => rfl
  have DCheckCount := df_mk (ps := ["count"]) X G aCheckCount lCheckCount cCheckCount kCheckCount fun _ _ _ _ _ _ us hl => match us, hl with | [_], _ => rfl
  have DCheckTicks := df_mk (ps := ["count"]) X G aCheckTicks lCheckTicks cCheckTicks kCheckTicks fun _ _ _ _ _ _ us hl => match us, hl with | [_], _ => rfl
  have DCheckOrdinal := df_mk (ps := ["number"]) X G aCheckOrdinal lCheckOrdinal cCheckOrdinal kCheckOrdinal fun _ _ _ _ _ _ us hl => match us, hl with | [_], _ => rfl
  have DCheckBetween := df_mk (ps := ["number", "low", "high"]) X G aCheckBetween lCheckBetween cCheckBetween kCheckBetween fun _ _ _ _ _ _ us hl => match us, hl with | [_, _, _], _ => rfl
  have DPattern := df_mk (ps := ["plan"]) X G aPattern lPattern cPattern kPattern fun _ _ _ _ _ _ us hl => match us, hl with | [_], _ => rfl
  have DCheckPlan := df_mk (ps := ["plan"]) X G aCheckPlan lCheckPlan cCheckPlan kCheckPlan fun _ _ _ _ _ _ us hl => match us, hl with | [_], _ => rfl
  have DCheckSizes := df_mk (ps := ["sizes"]) X G aCheckSizes lCheckSizes cCheckSizes kCheckSizes fun _ _ _ _ _ _ us hl => match us, hl with | [_], _ => rfl
  have DCheckRoutes := df_mk (ps := ["routes", "shelves"]) X G aCheckRoutes lCheckRoutes cCheckRoutes kCheckRoutes fun _ _ _ _ _ _ us hl => match us, hl with | [_, _], _ => rfl
  have DIsRoute := df_mk (ps := ["route", "shelves"]) X G aIsRoute lIsRoute cIsRoute kIsRoute fun _ _ _ _ _ _ us hl => match us, hl with | [_, _], _ => rfl
  have DPlacesOf := df_mk (ps := ["plan"]) X G aPlacesOf lPlacesOf cPlacesOf kPlacesOf fun _ _ _ _ _ _ us hl => match us, hl with | [_], _ => rfl
  have DCheckShelf := df_mk (ps := ["plan", "shelf"]) X G aCheckShelf lCheckShelf cCheckShelf kCheckShelf fun _ _ _ _ _ _ us hl => match us, hl with | [_, _], _ => rfl
  have DCheckCarrier := df_mk (ps := ["plan", "carrier"]) X G aCheckCarrier lCheckCarrier cCheckCarrier kCheckCarrier fun _ _ _ _ _ _ us hl => match us, hl with | [_, _], _ => rfl
  have DShelvesOf := df_mk (ps := ["plan"]) X G aShelvesOf lShelvesOf cShelvesOf kShelvesOf fun _ _ _ _ _ _ us hl => match us, hl with | [_], _ => rfl
  have DNumPlaces := df_mk (ps := ["plan"]) X G aNumPlaces lNumPlaces cNumPlaces kNumPlaces fun _ _ _ _ _ _ us hl => match us, hl with | [_], _ => rfl
  have DVisitsIn := df_mk (ps := ["routes", "number"]) X G aVisitsIn lVisitsIn cVisitsIn kVisitsIn fun _ _ _ _ _ _ us hl => match us, hl with | [_, _], _ => rfl
  have DCommon := df_mk (ps := ["routes"]) X G aCommon lCommon cCommon kCommon fun _ _ _ _ _ _ us hl => match us, hl with | [_], _ => rfl
  have DRoutePat := df_mk (ps := ["route"]) X G aRoutePat lRoutePat cRoutePat kRoutePat fun _ _ _ _ _ _ us hl => match us, hl with | [_], _ => rfl
  have DJoin := df_mk (ps := ["carried", "shelves"]) X G aJoin lJoin cJoin kJoin fun _ _ _ _ _ _ us hl => match us, hl with | [_, _], _ => rfl
  have DSplit := df_mk (ps := ["plan", "contents"]) X G aSplit lSplit cSplit kSplit fun _ _ _ _ _ _ us hl => match us, hl with | [_, _], _ => rfl
  have DAfterTick := df_mk (ps := ["plan", "number", "carried", "shelves"]) X G aAfterTick lAfterTick cAfterTick kAfterTick fun _ _ _ _ _ _ us hl => match us, hl with | [_, _, _, _], _ => rfl
  have DEffectTicks := df_mk (ps := ["plan", "time", "count"]) X G aEffectTicks lEffectTicks cEffectTicks kEffectTicks fun _ _ _ _ _ _ us hl => match us, hl with | [_, _, _], _ => rfl
  have DInverse := df_mk (ps := ["effect"]) X G aInverse lInverse cInverse kInverse fun _ _ _ _ _ _ us hl => match us, hl with | [_], _ => rfl
  have DRepeated := df_mk (ps := ["effect", "count"]) X G aRepeated lRepeated cRepeated kRepeated fun _ _ _ _ _ _ us hl => match us, hl with | [_, _], _ => rfl
  have DOrderOf := df_mk (ps := ["effect"]) X G aOrderOf lOrderOf cOrderOf kOrderOf fun _ _ _ _ _ _ us hl => match us, hl with | [_], _ => rfl
  have DCyclesOf := df_mk (ps := ["effect"]) X G aCyclesOf lCyclesOf cCyclesOf kCyclesOf fun _ _ _ _ _ _ us hl => match us, hl with | [_], _ => rfl
  have DCycleFrom := df_mk (ps := ["effect", "start"]) X G aCycleFrom lCycleFrom cCycleFrom kCycleFrom fun _ _ _ _ _ _ us hl => match us, hl with | [_, _], _ => rfl
  have DInitial := df_mk (ps := ["plan"]) X G aInitial lInitial cInitial kInitial fun _ _ _ _ _ _ us hl => match us, hl with | [_], _ => rfl
  have DMoved := df_mk (ps := ["plan", "state", "effect"]) X G aMoved lMoved cMoved kMoved fun _ _ _ _ _ _ us hl => match us, hl with | [_, _, _], _ => rfl
  have DStateOf := df_mk (ps := ["plan", "time", "parcels"]) X G aStateOf lStateOf cStateOf kStateOf fun _ _ _ _ _ _ us hl => match us, hl with | [_, _, _], _ => rfl
  have DParcelsIn := df_mk (ps := ["state"]) X G aParcelsIn lParcelsIn cParcelsIn kParcelsIn fun _ _ _ _ _ _ us hl => match us, hl with | [_], _ => rfl
  have DCheckState := df_mk (ps := ["plan", "state"]) X G aCheckState lCheckState cCheckState kCheckState fun _ _ _ _ _ _ us hl => match us, hl with | [_, _], _ => rfl
  have DFits := df_mk (ps := ["plan", "carried", "shelves"]) X G aFits lFits cFits kFits fun _ _ _ _ _ _ us hl => match us, hl with | [_, _, _], _ => rfl
  have DTupOf := df_mk (ps := ["row", "length"]) X G aTupOf lTupOf cTupOf kTupOf fun _ _ _ _ _ _ us hl => match us, hl with | [_, _], _ => rfl
  have DParcels := df_mk (ps := ["parcels"]) X G aParcels lParcels cParcels kParcels fun _ _ _ _ _ _ us hl => match us, hl with | [_], _ => rfl
  have DCheckParcel := df_mk (ps := ["parcels", "parcel"]) X G aCheckParcel lCheckParcel cCheckParcel kCheckParcel fun _ _ _ _ _ _ us hl => match us, hl with | [_, _], _ => rfl
  have DPlaceOfParcel := df_mk (ps := ["state", "parcel"]) X G aPlaceOfParcel lPlaceOfParcel cPlaceOfParcel kPlaceOfParcel fun _ _ _ _ _ _ us hl => match us, hl with | [_, _], _ => rfl
  have DStartOf := df_mk (ps := ["plan", "state", "parcel"]) X G aStartOf lStartOf cStartOf kStartOf fun _ _ _ _ _ _ us hl => match us, hl with | [_, _, _], _ => rfl
  have DAdvance := df_mk (ps := ["plan", "state", "count"]) X G aAdvance lAdvance cAdvance kAdvance fun _ _ _ _ _ _ us hl => match us, hl with | [_, _, _], _ => rfl
  have DLocate := df_mk (ps := ["plan", "state", "parcel", "count"]) X G aLocate lLocate cLocate kLocate fun _ _ _ _ _ _ us hl => match us, hl with | [_, _, _, _], _ => rfl
  have DPeriod := df_mk (ps := ["plan", "state"]) X G aPeriod lPeriod cPeriod kPeriod fun _ _ _ _ _ _ us hl => match us, hl with | [_, _], _ => rfl
  have DStopsJ := df_mk (ps := ["lap", "start"]) X G aStopsJ lStopsJ cStopsJ kStopsJ fun _ _ _ _ _ _ us hl => match us, hl with | [_, _], _ => rfl
  have DLeftsJ := df_mk (ps := ["lap", "start"]) X G aLeftsJ lLeftsJ cLeftsJ kLeftsJ fun _ _ _ _ _ _ us hl => match us, hl with | [_, _], _ => rfl
  have DCountIn := df_mk (ps := ["row", "wanted", "count"]) X G aCountIn lCountIn cCountIn kCountIn fun _ _ _ _ _ _ us hl => match us, hl with | [_, _, _], _ => rfl
  have DTimesLeft := df_mk (ps := ["plan", "state", "parcel", "shelf", "count"]) X G aTimesLeft lTimesLeft cTimesLeft kTimesLeft fun _ _ _ _ _ _ us hl => match us, hl with | [_, _, _, _, _], _ => rfl
  have DTicksCarried := df_mk (ps := ["plan", "state", "parcel", "carrier", "count"]) X G aTicksCarried lTicksCarried cTicksCarried kTicksCarried fun _ _ _ _ _ _ us hl => match us, hl with | [_, _, _, _, _], _ => rfl
  have DNthLeft := df_mk (ps := ["plan", "state", "parcel", "shelf", "number"]) X G aNthLeft lNthLeft cNthLeft kNthLeft fun _ _ _ _ _ _ us hl => match us, hl with | [_, _, _, _, _], _ => rfl
  have DStampAt := df_mk (ps := ["plan", "state", "parcel", "number"]) X G aStampAt lStampAt cStampAt kStampAt fun _ _ _ _ _ _ us hl => match us, hl with | [_, _, _, _], _ => rfl
  have DStampsJ := df_mk (ps := ["plan", "state", "start"]) X G aStampsJ lStampsJ cStampsJ kStampsJ fun _ _ _ _ _ _ us hl => match us, hl with | [_, _, _], _ => rfl
  have DFollowsBy := df_mk (ps := ["plan", "state", "one", "other"]) X G aFollowsBy lFollowsBy cFollowsBy kFollowsBy fun _ _ _ _ _ _ us hl => match us, hl with | [_, _, _, _], _ => rfl
  have DFamilies := df_mk (ps := ["plan", "state"]) X G aFamilies lFamilies cFamilies kFamilies fun _ _ _ _ _ _ us hl => match us, hl with | [_, _], _ => rfl
  have DFirstMeeting := df_mk (ps := ["plan", "state", "one", "other"]) X G aFirstMeeting lFirstMeeting cFirstMeeting kFirstMeeting fun _ _ _ _ _ _ us hl => match us, hl with | [_, _, _, _], _ => rfl
  have DMarks := df_mk (ps := ["plan", "state", "one", "other"]) X G aMarks lMarks cMarks kMarks fun _ _ _ _ _ _ us hl => match us, hl with | [_, _, _, _], _ => rfl
  have DShelvesLap := df_mk (ps := ["plan", "lap"]) X G aShelvesLap lShelvesLap cShelvesLap kShelvesLap fun _ _ _ _ _ _ us hl => match us, hl with | [_, _], _ => rfl
  have DMarksLap := df_mk (ps := ["row", "other"]) X G aMarksLap lMarksLap cMarksLap kMarksLap fun _ _ _ _ _ _ us hl => match us, hl with | [_, _], _ => rfl
  have DPairs := df_mk (ps := ["effect", "one", "other"]) X G aPairs lPairs cPairs kPairs fun _ _ _ _ _ _ us hl => match us, hl with | [_, _, _], _ => rfl
  have DLMix := df_mk (ps := ["_law_script", "_law_seed"]) X G aLMix lLMix cLMix kLMix fun _ _ _ _ _ _ us hl => match us, hl with | [_, _], _ => rfl
  have DLNext := df_mk (ps := ["_law_h", "_law_limit"]) X G aLNext lLNext cLNext kLNext fun _ _ _ _ _ _ us hl => match us, hl with | [_, _], _ => rfl
  have DLAlike := df_mk (ps := ["_law_found", "_law_due"]) X G aLAlike lLAlike cLAlike kLAlike fun _ _ _ _ _ _ us hl => match us, hl with | [_, _], _ => rfl
  have DLOneRight := df_mk (ps := ["_law_h"]) X G aLOneRight lLOneRight cLOneRight kLOneRight fun _ _ _ _ _ _ us hl => match us, hl with | [_], _ => rfl
  have DLQueueRight := df_mk (ps := ["_law_h"]) X G aLQueueRight lLQueueRight cLQueueRight kLQueueRight fun _ _ _ _ _ _ us hl => match us, hl with | [_], _ => rfl
  have DLRoundRight := df_mk (ps := ["_law_h"]) X G aLRoundRight lLRoundRight cLRoundRight kLRoundRight fun _ _ _ _ _ _ us hl => match us, hl with | [_], _ => rfl
  have DLaw := df_mk (ps := ["_law_script"]) X G aLaw lLaw cLaw kLaw fun _ _ _ _ _ _ us hl => match us, hl with | [_], _ => rfl
  have B : Bt mg := ⟨PySem.W.mg_none_of X G n_isinstance, PySem.W.mg_none_of X G n_bool, PySem.W.mg_none_of X G n_int, PySem.W.mg_none_of X G n_str, PySem.W.mg_none_of X G n_list, PySem.W.mg_none_of X G n_tuple, PySem.W.mg_none_of X G n_dict, PySem.W.mg_none_of X G n_len, PySem.W.mg_none_of X G n_range, PySem.W.mg_none_of X G n_enumerate, PySem.W.mg_none_of X G n_max, PySem.W.mg_none_of X G n_sum, PySem.W.mg_none_of X G n_set, PySem.W.mg_none_of X G n_zip, PySem.W.mg_none_of X G n_divmod, PySem.W.mg_none_of X G n_sorted, PySem.W.mg_none_of X G n_abs, PySem.W.mg_none_of X G n_min⟩
  have OX : OexC K C0 := ⟨⟨pnm, pq, pN, pbs, pbm, psn, psub, pab, pcol, pdd, pk0, pk1, pk2, pk3, pk5, pC, pR⟩, pSa, xb0, xt0, xk0⟩
  have XF : XfC K C0 := ⟨yg0, yk0, xb0, yd0⟩
  have SF : SupF P K mg C0 fI cc (nfPlan cc c0) arPlan := ⟨OX, rfl, ⟨_, _, _, pCell⟩, pCode, ⟨_, _, _, _, _, _, pKo, pKf, pKm⟩, pTop, PySem.W.mg_none_of X G n_super, rfl, rfl, rfl, pHs, pHo, pHB, pHm⟩
  have PL : Pl P K mg C0 fI ((nfPlan cc c0).fd docI pmI ctI) := ⟨⟨cc, c0, _, _, _, _, _, _, rfl, SF, lI⟩, pN1, pN2, PySem.W.mg_of X G e0, iC, tI, .all fun us hl => match us, hl with | [_, _, _], _ => rfl, XF⟩
  have FLp := fun_mk (st := sLapInit) q3 q4 q5
  have LPF : LapF K mg CL fL _ := ⟨PySem.W.mg_of X G qC, ⟨q10, q1, q2, q11⟩, ⟨q6, q7, q8, q9⟩, q12, q13, q14, q15, FLp, FLp.binds (ps := ["self", "plan", "time"]) fun _ _ _ _ _ _ us hl => match us, hl with | [_, _, _], _ => rfl⟩
  let T : Bd P K mg := { bt := B, CLap := CL, aLap := fL, dLap := _, lap := LPF, lcm := PySem.W.mg_of X G n_lcm, C := C0, aInit := fI, dInit := _, pl := PL, m1 := ⟨_, PySem.W.mg_of X G m1⟩, m2 := ⟨_, PySem.W.mg_of X G m2⟩, m3 := ⟨_, PySem.W.mg_of X G m3⟩, m4 := ⟨_, PySem.W.mg_of X G m4⟩, lim := hlim, tlim := htlim, lastP := ⟨_, PySem.W.mg_of X G lastP⟩, CC := C2, cc := ⟨PySem.W.mg_of X G e2, x2, xk2, xb2, xt2⟩, CS := C1, cs := ⟨PySem.W.mg_of X G e1, x1, xk1, xb1, xt1⟩, CUr := C4, cur := ⟨PySem.W.mg_of X G e4, x4, xk4, xb4, xt4⟩, CUs := C5, cus := ⟨PySem.W.mg_of X G e5, x5, xk5, xb5, xt5⟩, CUc := C6, cuc := ⟨PySem.W.mg_of X G e6, x6, xk6, xb6, xt6⟩, aWithin := _, dWithin := _, Within := DWithin, aCheckCount := _, dCheckCount := _, CheckCount := DCheckCount, aCheckTicks := _, dCheckTicks := _, CheckTicks := DCheckTicks, aCheckOrdinal := _, dCheckOrdinal := _, CheckOrdinal := DCheckOrdinal, aCheckBetween := _, dCheckBetween := _, CheckBetween := DCheckBetween, aPattern := _, dPattern := _, Pattern := DPattern, aCheckPlan := _, dCheckPlan := _, CheckPlan := DCheckPlan, aCheckSizes := _, dCheckSizes := _, CheckSizes := DCheckSizes, aCheckRoutes := _, dCheckRoutes := _, CheckRoutes := DCheckRoutes, aIsRoute := _, dIsRoute := _, IsRoute := DIsRoute, aPlacesOf := _, dPlacesOf := _, PlacesOf := DPlacesOf, aCheckShelf := _, dCheckShelf := _, CheckShelf := DCheckShelf, aCheckCarrier := _, dCheckCarrier := _, CheckCarrier := DCheckCarrier, aShelvesOf := _, dShelvesOf := _, ShelvesOf := DShelvesOf, aNumPlaces := _, dNumPlaces := _, NumPlaces := DNumPlaces, aVisitsIn := _, dVisitsIn := _, VisitsIn := DVisitsIn, aCommon := _, dCommon := _, Common := DCommon, aRoutePat := _, dRoutePat := _, RoutePat := DRoutePat, aJoin := _, dJoin := _, Join := DJoin, aSplit := _, dSplit := _, Split := DSplit, aAfterTick := _, dAfterTick := _, AfterTick := DAfterTick, aEffectTicks := _, dEffectTicks := _, EffectTicks := DEffectTicks, aInverse := _, dInverse := _, Inverse := DInverse, aRepeated := _, dRepeated := _, Repeated := DRepeated, aOrderOf := _, dOrderOf := _, OrderOf := DOrderOf, aCyclesOf := _, dCyclesOf := _, CyclesOf := DCyclesOf, aCycleFrom := _, dCycleFrom := _, CycleFrom := DCycleFrom, aInitial := _, dInitial := _, Initial := DInitial, aMoved := _, dMoved := _, Moved := DMoved, aStateOf := _, dStateOf := _, StateOf := DStateOf, aParcelsIn := _, dParcelsIn := _, ParcelsIn := DParcelsIn, aCheckState := _, dCheckState := _, CheckState := DCheckState, aFits := _, dFits := _, Fits := DFits, aTupOf := _, dTupOf := _, TupOf := DTupOf, aParcels := _, dParcels := _, Parcels := DParcels, aCheckParcel := _, dCheckParcel := _, CheckParcel := DCheckParcel, aPlaceOfParcel := _, dPlaceOfParcel := _, PlaceOfParcel := DPlaceOfParcel, aStartOf := _, dStartOf := _, StartOf := DStartOf, aAdvance := _, dAdvance := _, Advance := DAdvance, aLocate := _, dLocate := _, Locate := DLocate, aPeriod := _, dPeriod := _, Period := DPeriod, aStopsJ := _, dStopsJ := _, StopsJ := DStopsJ, aLeftsJ := _, dLeftsJ := _, LeftsJ := DLeftsJ, aCountIn := _, dCountIn := _, CountIn := DCountIn, aTimesLeft := _, dTimesLeft := _, TimesLeft := DTimesLeft, aTicksCarried := _, dTicksCarried := _, TicksCarried := DTicksCarried, aNthLeft := _, dNthLeft := _, NthLeft := DNthLeft, aStampAt := _, dStampAt := _, StampAt := DStampAt, aStampsJ := _, dStampsJ := _, StampsJ := DStampsJ, aFollowsBy := _, dFollowsBy := _, FollowsBy := DFollowsBy, aFamilies := _, dFamilies := _, Families := DFamilies, aFirstMeeting := _, dFirstMeeting := _, FirstMeeting := DFirstMeeting, aMarks := _, dMarks := _, Marks := DMarks, aShelvesLap := _, dShelvesLap := _, ShelvesLap := DShelvesLap, aMarksLap := _, dMarksLap := _, MarksLap := DMarksLap, aPairs := _, dPairs := _, Pairs := DPairs, aLMix := _, dLMix := _, LMix := DLMix, aLNext := _, dLNext := _, LNext := DLNext, aLAlike := _, dLAlike := _, LAlike := DLAlike, aLOneRight := _, dLOneRight := _, LOneRight := DLOneRight, aLQueueRight := _, dLQueueRight := _, LQueueRight := DLQueueRight, aLRoundRight := _, dLRoundRight := _, LRoundRight := DLRoundRight, aLaw := _, dLaw := _, Law := DLaw }
  refine ⟨_, [], spLaw K, (fun p hp => nomatch hp), (fun p hp => nomatch hp), (fun p hp => nomatch hp), fun s u => .of_eq rfl, fun H a ns hl _ hH hS => ⟨a, ns, rfl, hS, hl, fun _ => rfl⟩, fun base _ _ TB => ok_law T DLaw⟩
end
end Sv
open PySem PySem.W PyProof.Rows
set_option maxHeartbeats 0 in
theorem PySem.Challenge.cw_swapshelves_k19_whole_known_plans_holds : PySem.Challenge.rw_swapshelves_k19_whole_known_plans.Holds := by
  refine head ?_
  k_fill
  refine Sv.walk_ofTsX (l := PySem.Challenge.rw_swapshelves_k19_whole_known_plans) (n := 63) (k := 14) (x := "_law_script") (CX := fun _ => L2.CX0) rfl (by decide) rfl ⟨rfl, by decide, by decide⟩ (fun w h Y => PySem.W.kIn_of Y) ?F (fun _ _ _ _ _ h => h)
  case F =>
    intro w mg fa h XPh Y KX G hmg
    have hlim : ∃ t, mg "COUNT_LIMIT" = some (.int 1000000000000000000 t) := by
      obtain ⟨v, hv, hr⟩ := XPh.2.val _ (List.mem_cons_self ..)
      cases hr
      exact ⟨_, hv⟩
    have htlim : ∃ t, mg "TIME_LIMIT" = some (.int 1000000000000000000000000000000 t) := by
      obtain ⟨v, hv, hr⟩ := XPh.2.val _ (List.mem_cons_of_mem _ (List.mem_cons_self ..))
      cases hr
      exact ⟨_, hv⟩
    refine' Sv.all_mk KX G hmg hlim htlim ?aWithin ?lWithin ?cWithin ?kWithin ?aCheckCount ?lCheckCount ?cCheckCount ?kCheckCount ?aCheckTicks ?lCheckTicks ?cCheckTicks ?kCheckTicks ?aCheckOrdinal ?lCheckOrdinal ?cCheckOrdinal ?kCheckOrdinal ?aCheckBetween ?lCheckBetween ?cCheckBetween ?kCheckBetween ?aPattern ?lPattern ?cPattern ?kPattern ?aCheckPlan ?lCheckPlan ?cCheckPlan ?kCheckPlan ?aCheckSizes ?lCheckSizes ?cCheckSizes ?kCheckSizes ?aCheckRoutes ?lCheckRoutes ?cCheckRoutes ?kCheckRoutes ?aIsRoute ?lIsRoute ?cIsRoute ?kIsRoute ?aPlacesOf ?lPlacesOf ?cPlacesOf ?kPlacesOf ?aCheckShelf ?lCheckShelf ?cCheckShelf ?kCheckShelf ?aCheckCarrier ?lCheckCarrier ?cCheckCarrier ?kCheckCarrier ?aShelvesOf ?lShelvesOf ?cShelvesOf ?kShelvesOf ?aNumPlaces ?lNumPlaces ?cNumPlaces ?kNumPlaces ?aVisitsIn ?lVisitsIn ?cVisitsIn ?kVisitsIn ?aCommon ?lCommon ?cCommon ?kCommon ?aRoutePat ?lRoutePat ?cRoutePat ?kRoutePat ?aJoin ?lJoin ?cJoin ?kJoin ?aSplit ?lSplit ?cSplit ?kSplit ?aAfterTick ?lAfterTick ?cAfterTick ?kAfterTick ?aEffectTicks ?lEffectTicks ?cEffectTicks ?kEffectTicks ?aInverse ?lInverse ?cInverse ?kInverse ?aRepeated ?lRepeated ?cRepeated ?kRepeated ?aOrderOf ?lOrderOf ?cOrderOf ?kOrderOf ?aCyclesOf ?lCyclesOf ?cCyclesOf ?kCyclesOf ?aCycleFrom ?lCycleFrom ?cCycleFrom ?kCycleFrom ?aInitial ?lInitial ?cInitial ?kInitial ?aMoved ?lMoved ?cMoved ?kMoved ?aStateOf ?lStateOf ?cStateOf ?kStateOf ?aParcelsIn ?lParcelsIn ?cParcelsIn ?kParcelsIn ?aCheckState ?lCheckState ?cCheckState ?kCheckState ?aFits ?lFits ?cFits ?kFits ?aTupOf ?lTupOf ?cTupOf ?kTupOf ?aParcels ?lParcels ?cParcels ?kParcels ?aCheckParcel ?lCheckParcel ?cCheckParcel ?kCheckParcel ?aPlaceOfParcel ?lPlaceOfParcel ?cPlaceOfParcel ?kPlaceOfParcel ?aStartOf ?lStartOf ?cStartOf ?kStartOf ?aAdvance ?lAdvance ?cAdvance ?kAdvance ?aLocate ?lLocate ?cLocate ?kLocate ?aPeriod ?lPeriod ?cPeriod ?kPeriod ?aStopsJ ?lStopsJ ?cStopsJ ?kStopsJ ?aLeftsJ ?lLeftsJ ?cLeftsJ ?kLeftsJ ?aCountIn ?lCountIn ?cCountIn ?kCountIn ?aTimesLeft ?lTimesLeft ?cTimesLeft ?kTimesLeft ?aTicksCarried ?lTicksCarried ?cTicksCarried ?kTicksCarried ?aNthLeft ?lNthLeft ?cNthLeft ?kNthLeft ?aStampAt ?lStampAt ?cStampAt ?kStampAt ?aStampsJ ?lStampsJ ?cStampsJ ?kStampsJ ?aFollowsBy ?lFollowsBy ?cFollowsBy ?kFollowsBy ?aFamilies ?lFamilies ?cFamilies ?kFamilies ?aFirstMeeting ?lFirstMeeting ?cFirstMeeting ?kFirstMeeting ?aMarks ?lMarks ?cMarks ?kMarks ?aShelvesLap ?lShelvesLap ?cShelvesLap ?kShelvesLap ?aMarksLap ?lMarksLap ?cMarksLap ?kMarksLap ?aPairs ?lPairs ?cPairs ?kPairs ?aLMix ?lLMix ?cLMix ?kLMix ?aLNext ?lLNext ?cLNext ?kLNext ?aLAlike ?lLAlike ?cLAlike ?kLAlike ?aLOneRight ?lLOneRight ?cLOneRight ?kLOneRight ?aLQueueRight ?lLQueueRight ?cLQueueRight ?kLQueueRight ?aLRoundRight ?lLRoundRight ?cLRoundRight ?kLRoundRight ?aLaw ?lLaw ?cLaw ?kLaw ?n_isinstance ?n_bool ?n_int ?n_str ?n_list ?n_tuple ?n_dict ?n_len ?n_range ?n_enumerate ?n_max ?n_sum ?n_set ?n_zip ?n_divmod ?n_sorted ?n_abs ?n_min ?n_super ?n_lcm ?m1 ?m2 ?m3 ?m4 ?lastP ?e0 ?e1 ?e2 ?e4 ?e5 ?e6 ?xk0 ?xb0 ?xt0 ?yg0 ?yk0 ?yd0 ?x1 ?xk1 ?xb1 ?xt1 ?x2 ?xk2 ?xb2 ?xt2 ?x4 ?xk4 ?xb4 ?xt4 ?x5 ?xk5 ?xb5 ?xt5 ?x6 ?xk6 ?xb6 ?xt6 ?qC ?q1 ?q2 ?q3 ?q4 ?q5 ?q6 ?q7 ?q8 ?q9 ?q10 ?q11 ?q12 ?q13 ?q14 ?q15 ?pC ?pR ?pSa ?pN1 ?pN2 ?iC ?tI ?lI ?pCell ?pCode ?pKo ?pKf ?pKm ?pTop ?pHs ?pHo ?pHB ?pHm
    (case aWithin => k_is)
    (case lWithin => k_is)
    (case cWithin => k_is)
    (case kWithin => k_is)
    (case aCheckCount => k_is)
    (case lCheckCount => k_is)
    (case cCheckCount => k_is)
    (case kCheckCount => k_is)
    (case aCheckTicks => k_is)
    (case lCheckTicks => k_is)
    (case cCheckTicks => k_is)
    (case kCheckTicks => k_is)
    (case aCheckOrdinal => k_is)
    (case lCheckOrdinal => k_is)
    (case cCheckOrdinal => k_is)
    (case kCheckOrdinal => k_is)
    (case aCheckBetween => k_is)
    (case lCheckBetween => k_is)
    (case cCheckBetween => k_is)
    (case kCheckBetween => k_is)
    (case aPattern => k_is)
    (case lPattern => k_is)
    (case cPattern => k_is)
    (case kPattern => k_is)
    (case aCheckPlan => k_is)
    (case lCheckPlan => k_is)
    (case cCheckPlan => k_is)
    (case kCheckPlan => k_is)
    (case aCheckSizes => k_is)
    (case lCheckSizes => k_is)
    (case cCheckSizes => k_is)
    (case kCheckSizes => k_is)
    (case aCheckRoutes => k_is)
    (case lCheckRoutes => k_is)
    (case cCheckRoutes => k_is)
    (case kCheckRoutes => k_is)
    (case aIsRoute => k_is)
    (case lIsRoute => k_is)
    (case cIsRoute => k_is)
    (case kIsRoute => k_is)
    (case aPlacesOf => k_is)
    (case lPlacesOf => k_is)
    (case cPlacesOf => k_is)
    (case kPlacesOf => k_is)
    (case aCheckShelf => k_is)
    (case lCheckShelf => k_is)
    (case cCheckShelf => k_is)
    (case kCheckShelf => k_is)
    (case aCheckCarrier => k_is)
    (case lCheckCarrier => k_is)
    (case cCheckCarrier => k_is)
    (case kCheckCarrier => k_is)
    (case aShelvesOf => k_is)
    (case lShelvesOf => k_is)
    (case cShelvesOf => k_is)
    (case kShelvesOf => k_is)
    (case aNumPlaces => k_is)
    (case lNumPlaces => k_is)
    (case cNumPlaces => k_is)
    (case kNumPlaces => k_is)
    (case aVisitsIn => k_is)
    (case lVisitsIn => k_is)
    (case cVisitsIn => k_is)
    (case kVisitsIn => k_is)
    (case aCommon => k_is)
    (case lCommon => k_is)
    (case cCommon => k_is)
    (case kCommon => k_is)
    (case aRoutePat => k_is)
    (case lRoutePat => k_is)
    (case cRoutePat => k_is)
    (case kRoutePat => k_is)
    (case aJoin => k_is)
    (case lJoin => k_is)
    (case cJoin => k_is)
    (case kJoin => k_is)
    (case aSplit => k_is)
    (case lSplit => k_is)
    (case cSplit => k_is)
    (case kSplit => k_is)
    (case aAfterTick => k_is)
    (case lAfterTick => k_is)
    (case cAfterTick => k_is)
    (case kAfterTick => k_is)
    (case aEffectTicks => k_is)
    (case lEffectTicks => k_is)
    (case cEffectTicks => k_is)
    (case kEffectTicks => k_is)
    (case aInverse => k_is)
    (case lInverse => k_is)
    (case cInverse => k_is)
    (case kInverse => k_is)
    (case aRepeated => k_is)
    (case lRepeated => k_is)
    (case cRepeated => k_is)
    (case kRepeated => k_is)
    (case aOrderOf => k_is)
    (case lOrderOf => k_is)
    (case cOrderOf => k_is)
    (case kOrderOf => k_is)
    (case aCyclesOf => k_is)
    (case lCyclesOf => k_is)
    (case cCyclesOf => k_is)
    (case kCyclesOf => k_is)
    (case aCycleFrom => k_is)
    (case lCycleFrom => k_is)
    (case cCycleFrom => k_is)
    (case kCycleFrom => k_is)
    (case aInitial => k_is)
    (case lInitial => k_is)
    (case cInitial => k_is)
    (case kInitial => k_is)
    (case aMoved => k_is)
    (case lMoved => k_is)
    (case cMoved => k_is)
    (case kMoved => k_is)
    (case aStateOf => k_is)
    (case lStateOf => k_is)
    (case cStateOf => k_is)
    (case kStateOf => k_is)
    (case aParcelsIn => k_is)
    (case lParcelsIn => k_is)
    (case cParcelsIn => k_is)
    (case kParcelsIn => k_is)
    (case aCheckState => k_is)
    (case lCheckState => k_is)
    (case cCheckState => k_is)
    (case kCheckState => k_is)
    (case aFits => k_is)
    (case lFits => k_is)
    (case cFits => k_is)
    (case kFits => k_is)
    (case aTupOf => k_is)
    (case lTupOf => k_is)
    (case cTupOf => k_is)
    (case kTupOf => k_is)
    (case aParcels => k_is)
    (case lParcels => k_is)
    (case cParcels => k_is)
    (case kParcels => k_is)
    (case aCheckParcel => k_is)
    (case lCheckParcel => k_is)
    (case cCheckParcel => k_is)
    (case kCheckParcel => k_is)
    (case aPlaceOfParcel => k_is)
    (case lPlaceOfParcel => k_is)
    (case cPlaceOfParcel => k_is)
    (case kPlaceOfParcel => k_is)
    (case aStartOf => k_is)
    (case lStartOf => k_is)
    (case cStartOf => k_is)
    (case kStartOf => k_is)
    (case aAdvance => k_is)
    (case lAdvance => k_is)
    (case cAdvance => k_is)
    (case kAdvance => k_is)
    (case aLocate => k_is)
    (case lLocate => k_is)
    (case cLocate => k_is)
    (case kLocate => k_is)
    (case aPeriod => k_is)
    (case lPeriod => k_is)
    (case cPeriod => k_is)
    (case kPeriod => k_is)
    (case aStopsJ => k_is)
    (case lStopsJ => k_is)
    (case cStopsJ => k_is)
    (case kStopsJ => k_is)
    (case aLeftsJ => k_is)
    (case lLeftsJ => k_is)
    (case cLeftsJ => k_is)
    (case kLeftsJ => k_is)
    (case aCountIn => k_is)
    (case lCountIn => k_is)
    (case cCountIn => k_is)
    (case kCountIn => k_is)
    (case aTimesLeft => k_is)
    (case lTimesLeft => k_is)
    (case cTimesLeft => k_is)
    (case kTimesLeft => k_is)
    (case aTicksCarried => k_is)
    (case lTicksCarried => k_is)
    (case cTicksCarried => k_is)
    (case kTicksCarried => k_is)
    (case aNthLeft => k_is)
    (case lNthLeft => k_is)
    (case cNthLeft => k_is)
    (case kNthLeft => k_is)
    (case aStampAt => k_is)
    (case lStampAt => k_is)
    (case cStampAt => k_is)
    (case kStampAt => k_is)
    (case aStampsJ => k_is)
    (case lStampsJ => k_is)
    (case cStampsJ => k_is)
    (case kStampsJ => k_is)
    (case aFollowsBy => k_is)
    (case lFollowsBy => k_is)
    (case cFollowsBy => k_is)
    (case kFollowsBy => k_is)
    (case aFamilies => k_is)
    (case lFamilies => k_is)
    (case cFamilies => k_is)
    (case kFamilies => k_is)
    (case aFirstMeeting => k_is)
    (case lFirstMeeting => k_is)
    (case cFirstMeeting => k_is)
    (case kFirstMeeting => k_is)
    (case aMarks => k_is)
    (case lMarks => k_is)
    (case cMarks => k_is)
    (case kMarks => k_is)
    (case aShelvesLap => k_is)
    (case lShelvesLap => k_is)
    (case cShelvesLap => k_is)
    (case kShelvesLap => k_is)
    (case aMarksLap => k_is)
    (case lMarksLap => k_is)
    (case cMarksLap => k_is)
    (case kMarksLap => k_is)
    (case aPairs => k_is)
    (case lPairs => k_is)
    (case cPairs => k_is)
    (case kPairs => k_is)
    (case aLMix => k_is)
    (case lLMix => k_is)
    (case cLMix => k_is)
    (case kLMix => k_is)
    (case aLNext => k_is)
    (case lLNext => k_is)
    (case cLNext => k_is)
    (case kLNext => k_is)
    (case aLAlike => k_is)
    (case lLAlike => k_is)
    (case cLAlike => k_is)
    (case kLAlike => k_is)
    (case aLOneRight => k_is)
    (case lLOneRight => k_is)
    (case cLOneRight => k_is)
    (case kLOneRight => k_is)
    (case aLQueueRight => k_is)
    (case lLQueueRight => k_is)
    (case cLQueueRight => k_is)
    (case kLQueueRight => k_is)
    (case aLRoundRight => k_is)
    (case lLRoundRight => k_is)
    (case cLRoundRight => k_is)
    (case kLRoundRight => k_is)
    (case aLaw => k_is)
    (case lLaw => k_is)
    (case cLaw => k_is)
    (case kLaw => k_is)
    (case n_isinstance => k_is)
    (case n_bool => k_is)
    (case n_int => k_is)
    (case n_str => k_is)
    (case n_list => k_is)
    (case n_tuple => k_is)
    (case n_dict => k_is)
    (case n_len => k_is)
    (case n_range => k_is)
    (case n_enumerate => k_is)
    (case n_max => k_is)
    (case n_sum => k_is)
    (case n_set => k_is)
    (case n_zip => k_is)
    (case n_divmod => k_is)
    (case n_sorted => k_is)
    (case n_abs => k_is)
    (case n_min => k_is)
    (case n_super => k_is)
    (case n_lcm => k_is)
    (case m1 => k_is)
    (case m2 => k_is)
    (case m3 => k_is)
    (case m4 => k_is)
    (case lastP => k_is)
    (case e0 => k_is)
    (case e1 => k_is)
    (case e2 => k_is)
    (case e4 => k_is)
    (case e5 => k_is)
    (case e6 => k_is)
    (case xk0 => k_is)
    (case xb0 => k_is)
    (case xt0 => k_is)
    (case yg0 => k_is)
    (case yk0 => k_is)
    (case yd0 => k_is)
    (case x1 => first | k_exc | k_is)
    (case xk1 => k_is)
    (case xb1 => k_is)
    (case xt1 => k_is)
    (case x2 => first | k_exc | k_is)
    (case xk2 => k_is)
    (case xb2 => k_is)
    (case xt2 => k_is)
    (case x4 => first | k_exc | k_is)
    (case xk4 => k_is)
    (case xb4 => k_is)
    (case xt4 => k_is)
    (case x5 => first | k_exc | k_is)
    (case xk5 => k_is)
    (case xb5 => k_is)
    (case xt5 => k_is)
    (case x6 => first | k_exc | k_is)
    (case xk6 => k_is)
    (case xb6 => k_is)
    (case xt6 => k_is)
    (case qC => k_is)
    (case q1 => k_is)
    (case q2 => k_is)
    (case q3 => k_is)
    (case q4 => k_is)
    (case q5 => k_is)
    (case q6 => k_is)
    (case q7 => k_is)
    (case q8 => k_is)
    (case q9 => k_is)
    (case q10 => k_is)
    (case q11 => k_is)
    (case q12 => k_is)
    (case q13 => k_is)
    (case q14 => k_is)
    (case q15 => k_is)
    (case pC => k_is)
    (case pR => decide +kernel)
    (case pSa => k_is)
    (case pN1 => k_is)
    (case pN2 => k_is)
    (case iC => k_is)
    (case tI => k_is)
    (case lI => k_is)
    (case pCell => k_is)
    (case pCode => k_is)
    (case pKo => k_is)
    (case pKf => rfl)
    (case pKm => first | rfl | decide +kernel)
    (case pTop => first | rfl | decide +kernel)
    (case pHs => kernel_rfl)
    (case pHo => first | k_is | kernel_rfl)
    (case pHB => k_is)
    (case pHm => first | k_is | kernel_rfl)

