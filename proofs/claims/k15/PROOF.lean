import PyProof.Rows.All
import Wide.All
import OpenK.AllK
import Wide.FinOn
import HandS.ForMost
import HandS.ForExc
import HandS.Lambda
import HandS.Nested
import HandS.EndTab
import HandS.Conv
import HandS.Zip
import HandS.SetFor
import HandS.TupAny
import HandS.Gcd
import HandS.Wide
import HandS.WideBits
import HandS.IsInst
import HandS.ExcIs
import HandS.Flow
import KE.KMathGC
import KE.GoesMore
import PyProof.EnumMake
import PyProof.Draws
import HandS.ExcInit
import HandS.ExcSuper
import HandS.ExcField
import HandS.FStr
import KE.KExcSuper
import KE.KSuper
import PySem.Str
import HandS.TupMul
import KE.KTupSum
import KE.KExcIs
import HandS.DictComp
import HandS.Strs
import KE.GoesZip
import HandS.Style
import HandS.More
import HandS.SortInts
import HandS.SortKw
import KE.DatumOrd
import PySem.Challenge.RW_swapshelves_k15_differences_of_plans
set_option Elab.async false
set_option linter.all false
set_option maxRecDepth 100000
set_option genInjectivity false
set_option genSizeOf false
set_option genSizeOfSpec false
section
open PySem PySem.W PyProof.Rows
set_option maxHeartbeats 0
open_top head for PySem.Challenge.rw_swapshelves_k15_differences_of_plans
end
set_option maxHeartbeats 4000000
namespace Sv
open PySem PySem.Spec PyProof.Rows L2 LamX NdefX
/-- a lambda: its text, what it captured, its defaults, its code object -/
structure LF where
  params : Arguments
  body : Expr
  scope : Scope
  qual : Str
  cl : List (Str × Addr)
  dV : Value
  c : Addr
def LF.fd (L : LF) (pm ctv : Value) : FuncData :=
  { PySem.W.kla_fn "<lambda>" L.qual L.params L.body L.scope L.cl pm (.ref L.c) ctv with defaults := L.dV }
def LF.obj (L : LF) (pm ctv : Value) : Obj := { cls := .type "function", data := .func (L.fd pm ctv) }
def LamO (f : Addr) (L : LF) : HO := .ext fun h => ∃ (od : Option Addr) (sl : Array (Option Value)) (pm ctv : Value), h.get? f = some (⟨.type "function", od, .func (L.fd pm ctv), sl⟩ : Obj)
theorem lamO_tbl {f : Addr} {L : LF} (ps : Array Value) : LamO f L ≠ .tbl ps := fun z => by
  unfold LamO at z
  cases z
theorem lamO_at {P : Program} {w : World} {H : Hp} {h : Heap} {f : Addr} {L : LF} (hok : HOk P w H h) (e : H f = some (LamO f L)) :
    ∃ (od : Option Addr) (sl : Array (Option Value)) (pm ctv : Value), h.get? f = some (⟨.type "function", od, .func (L.fd pm ctv), sl⟩ : Obj) := (hok f _ e).1
section
variable {M : Model} {A : Around} {E : Value → Shared → Prop} {s : Shared} {qual : Str} {params : Arguments} {body : Expr} {scope : Scope} {env : Env} {c P : Addr} {ps : Array Value}
  {pos : Pos} {fl : Nat} {mg : Str → Option Value} {clos : List (Str × Addr)} {dV : Value} {Q : Value → Shared → Prop}
/-- the end of its making, the code object new -/
theorem tail_new (hcl : closureFor scope env = pure clos) (hge : env.globals = mainGlobals) (hg : s.heap.Ns mainGlobals mg) (hcode : env.code = .ref c) (C : PySem.W.CodeHd s.heap c P)
    (hP : s.heap.get? P = some { cls := .none, data := .fields ps }) (ht : TriplesOk ps.toList) (hnf : codeAmong pos ps.toList = none) (hgP : mainGlobals ≠ P) (hb : s.heap.BuiltinsAt mg P)
    (h : ∀ c' ctv h' tk, Heap.ExtBut P s.heap h' → s.heap.objs.size ≤ c' → c' < h'.objs.size → h'.CodeRec (.ref c') qual →
      h'.get? P = some { cls := .none, data := .fields (ps ++ #[rawInt pos.line, rawInt pos.col, .ref c']) } →
      Q (.ref h'.objs.size) { s with heap := h'.push (LF.obj ⟨params, body, scope, qual, clos, dV, c'⟩ ((mg "__name__").getD .none) ctv), toks := tk }) :
    wpAny M A (makeTail "<lambda>" qual params (.expr body) scope env dV .none none pos fl) Q E s := by
  obtain ⟨bm, ob, e1, e2, _, e3, e4, e5, e6, e7⟩ := hb
  unfold makeTail
  rw [hcl, hge]
  refine wpAny_bind (wpAny_pure ?_)
  by_cases hz : clos.isEmpty = true
  · rw [if_pos hz]
    refine wpAny_bind (wpAny_pure (wpAny_bind (wpAny_functionCodeX hcode (C.code hP ht) (C.tab hP) hnf fun c' h' tk x1 x2 x3 _ x4 x5 _ => ?_)))
    have g1 := hg.extBut x1 hgP
    refine wpAny_bind (wpAny_builtinsFor g1 e1 e2 (x1 _ _ e3 e4) e5 e6 e7 (wpAny_bind (wpAny_nsGet g1 ?_)))
    exact wpAny_bind (wpAny_pure (wpAny_newObj_type (h c' .none h' tk x1 x2 x3 x4 x5.2) (by size_fits)))
  · rw [if_neg hz]
    refine wpAny_bind (wpAny_newTextTuple ?_)
    have kp : ∀ (oT : Obj) b o, s.heap.get? b = some o → (s.heap.push oT).get? b = some o := fun oT b o e => Heap.get?_push_of_some _ e
    refine wpAny_bind (wpAny_functionCodeX hcode ((C.keeps (kp _)).code (kp _ _ _ hP) ht) ((C.keeps (kp _)).tab (kp _ _ _ hP)) hnf fun c' h' tk x1 x2 x3 _ x4 x5 _ => ?_)
    have g1 := (hg.push _).extBut x1 hgP
    have x1' : Heap.ExtBut P s.heap h' := fun b o n e => x1 b o n (kp _ b o e)
    have x2' : s.heap.objs.size ≤ c' := Nat.le_trans (by rw [Heap.size_push]; omega) x2
    refine wpAny_bind (wpAny_builtinsFor g1 e1 e2 (x1' _ _ e3 e4) e5 e6 e7 (wpAny_bind (wpAny_nsGet g1 ?_)))
    exact wpAny_bind (wpAny_pure (wpAny_newObj_type (h c' _ h' tk x1' x2' x3 x4 x5.2) (by size_fits)))
/-- .. the code object found -/
theorem tail_hit {c' : Addr} (hcl : closureFor scope env = pure clos) (hge : env.globals = mainGlobals) (hg : s.heap.Ns mainGlobals mg) (hcode : env.code = .ref c) (C : PySem.W.CodeHd s.heap c P)
    (hP : s.heap.get? P = some { cls := .none, data := .fields ps }) (ht : TriplesOk ps.toList) (hf : codeAmong pos ps.toList = some (.ref c')) (hb : s.heap.BuiltinsAt mg P)
    (h : ∀ (ctv : Value) (h' : Heap) (tk : Tok), (∀ b o, s.heap.get? b = some o → h'.get? b = some o) → s.heap.objs.size ≤ h'.objs.size →
      Q (.ref h'.objs.size) { s with heap := h'.push (LF.obj ⟨params, body, scope, qual, clos, dV, c'⟩ ((mg "__name__").getD .none) ctv), toks := tk }) :
    wpAny M A (makeTail "<lambda>" qual params (.expr body) scope env dV .none none pos fl) Q E s := by
  obtain ⟨bm, ob, e1, e2, _, e3, e4, e5, e6, e7⟩ := hb
  unfold makeTail
  rw [hcl, hge]
  refine wpAny_bind (wpAny_pure ?_)
  by_cases hz : clos.isEmpty = true
  · rw [if_pos hz]
    refine wpAny_bind (wpAny_pure (wpAny_bind (wpAny_functionCode_hit hcode (C.code hP ht) hf ?_)))
    refine wpAny_bind (wpAny_builtinsFor hg e1 e2 e4 e5 e6 e7 (wpAny_bind (wpAny_nsGet hg ?_)))
    exact wpAny_bind (wpAny_pure (wpAny_newObj_type (h .none s.heap s.toks (fun _ _ e => e) (Nat.le_refl _)) (by size_fits)))
  · rw [if_neg hz]
    refine wpAny_bind (wpAny_newTextTuple ?_)
    have kp : ∀ (oT : Obj) b o, s.heap.get? b = some o → (s.heap.push oT).get? b = some o := fun oT b o e => Heap.get?_push_of_some _ e
    refine wpAny_bind (wpAny_functionCode_hit hcode ((C.keeps (kp _)).code (kp _ _ _ hP) ht) hf ?_)
    refine wpAny_bind (wpAny_builtinsFor (hg.push _) e1 e2 (kp _ _ _ e4) e5 e6 e7 (wpAny_bind (wpAny_nsGet (hg.push _) ?_)))
    have sz : ∀ oT : Obj, s.heap.objs.size ≤ (s.heap.push oT).objs.size := fun oT => by rw [Heap.size_push]; omega
    exact wpAny_bind (wpAny_pure (wpAny_newObj_type (h _ _ s.toks (kp _) (sz _)) (by size_fits)))
end
section
variable {X : Cx} {pins : List (Addr × Obj)} {σ : L2.St} {H : Hp} {s : Shared}
/-- a function object just made is known from now on -/
theorem inv_lam {L : LF} {t' : Nat} {pm ctv : Value} (I : Inv X pins σ H s) :
    Inv X pins σ (upd H s.heap.objs.size (LamO s.heap.objs.size L)) { s with heap := s.heap.push (L.obj pm ctv), toks := t' } := by
  refine I.laid (a := s.heap.objs.size) (fun b u e => Heap.get?_push_of_some _ e) (Nat.le_refl _) ?_
  have e : (s.heap.push (L.obj pm ctv)).get? s.heap.objs.size = some (L.obj pm ctv) := Heap.get?_push_size _ rfl
  exact ⟨⟨_, _, pm, ctv, e⟩, ⟨_, e⟩, fun h1 h2 ⟨a1, a2, a3, a4, z⟩ st => ⟨a1, a2, a3, a4, st _ z⟩⟩
/-- what is asked of the makers' tables -/
structure LamT (X : Cx) (T : List (Addr × Str)) (c P : Addr) : Prop where
  tb : TabB X.base X.mg c P
  code : X.env.code = .ref c
  mem : (P, X.env.qual ++ "<lambda>") ∈ T
  uni : ∀ p ∈ T, p.1 = P → p.2 = X.env.qual ++ "<lambda>"
theorem lam_tail {T : List (Addr × Str)} {c P : Addr} {params : Arguments} {body : Expr} {scope : Scope} {pos : Pos} {fl : Nat} {dV : Value} {E : Value → Shared → Prop} {Q : Value → Shared → Prop} (I : Inv X pins σ H s) (LT : LamT X T c P)
    (hT : Tabs T H) (hfree : ∀ y ∈ scope.names, y.2 = .free → ∃ c, X.env.cells.lookup y.1 = some c)
    (h : ∀ (f c' : Addr) (H1 : Hp) (s' : Shared), Inv X pins σ H1 s' → ExtN H H1 → (∀ b, H1 b = none → H b = none) → Tabs T H1 → H f = none →
      H1 f = some (LamO f ⟨params, body, scope, X.env.qual ++ "<lambda>", cloFrom X.env.cells scope.names [], dV, c'⟩) → H1 c' = some (CodeO c' (X.env.qual ++ "<lambda>")) → Q (.ref f) s') :
    wpAny (model X.prog X.w) X.A (makeTail "<lambda>" (X.env.qual ++ "<lambda>") params (.expr body) scope X.env dV .none none pos fl) Q E s := by
  obtain ⟨ps, hP, ht, ha⟩ := hT _ LT.mem
  have bP : s.heap.BuiltinsAt X.mg P := LT.tb.bm.keeps I.bk
  have gP : s.heap.get? P = some { cls := .none, data := .fields ps } := I.hok P _ hP
  cases hc : codeAmong pos ps.toList with
  | none =>
    refine tail_new (mg := X.mg) (c := c) (P := P) (ps := ps) (closure_ok hfree) I.ok.glob (I.mod.glob.keeps I.bk) LT.code (LT.tb.code.keeps I.bk) gP ht hc LT.tb.gP bP fun c' ctv h' tk x1 x2 x3 x4 x5 => ?_
    obtain ⟨c2, oc, vs, t, e2, hoc, hd, hv⟩ := x4
    cases e2
    have nC : H c' = none := I.hok.fresh x2
    have I1 := inv_table (t' := tk) (more := #[rawInt pos.line, rawInt pos.col, .ref c']) (h' := h') I hP (fun b o hb e => x1 b o hb e) x5 x2 ⟨oc, vs, t, hoc, hd, hv⟩
    generalize hG : upd (upd H P (.tbl (ps ++ #[rawInt pos.line, rawInt pos.col, .ref c']))) c' (CodeO c' (X.env.qual ++ "<lambda>")) = G at I1
    have atC : G c' = some (CodeO c' (X.env.qual ++ "<lambda>")) := by rw [← hG]; exact upd_same
    have hE : ExtN H G := fun b o e n => by
      rw [← hG, upd_ne (ne_of_none e nC), upd_ne (fun z => n ps (Option.some.inj (e.symm.trans (by rw [z]; exact hP))))]
      exact e
    have eL : (ps ++ #[rawInt pos.line, rawInt pos.col, .ref c']).toList = ps.toList ++ [rawInt pos.line, rawInt pos.col, .ref c'] := by simp
    have T1 : Tabs T G := fun p hp => by
      by_cases hb : p.1 = P
      · rw [LT.uni p hp hb, hb]
        refine ⟨_, by rw [← hG, upd_ne (ne_of_none hP nC), upd_same], by rw [eL]; exact PySem.TriplesOk_snoc _ _ _ _ ht, fun p' cv hcv => ?_⟩
        rw [eL] at hcv
        rcases among_app _ ht hcv with z | z
        · obtain ⟨c0, q1, q2⟩ := ha p' cv z
          exact ⟨c0, q1, hE _ _ q2 codeO_ne⟩
        · exact ⟨c', z, atC⟩
      · obtain ⟨ps', a1, a2, a3⟩ := hT p hp
        refine ⟨ps', by rw [← hG, upd_ne (ne_of_none a1 nC), upd_ne hb]; exact a1, a2, fun p' cv hcv => ?_⟩
        obtain ⟨c0, q1, q2⟩ := a3 p' cv hcv
        exact ⟨c0, q1, hE _ _ q2 codeO_ne⟩
    have nF := I1.hok.fresh (Nat.le_refl _)
    have I2 := inv_lam (L := ⟨params, body, scope, X.env.qual ++ "<lambda>", cloFrom X.env.cells scope.names [], dV, c'⟩) (t' := tk) (pm := (X.mg "__name__").getD .none) (ctv := ctv) I1
    refine h h'.objs.size c' _ _ I2 (fun b o e n => ?_) (fun b e => ?_) (T1.ext fun b o e => ?_) (I.hok.fresh (Nat.le_trans x2 (Nat.le_of_lt x3))) upd_same ?_
    · exact (upd_ne (ne_of_none (hE b o e n) nF)).trans (hE b o e n)
    · have e1 := upd_none e
      rw [← hG] at e1
      exact upd_none (upd_none e1)
    · exact (upd_ne (ne_of_none e nF)).trans e
    · exact (upd_ne (Nat.ne_of_lt x3)).trans atC
  | some cv =>
    obtain ⟨c', e, hco⟩ := ha pos cv hc
    subst e
    refine tail_hit (mg := X.mg) (c := c) (P := P) (ps := ps) (closure_ok hfree) I.ok.glob (I.mod.glob.keeps I.bk) LT.code (LT.tb.code.keeps I.bk) gP ht hc bP fun ctv h' tk x1 x2 => ?_
    have I1 : Inv X pins σ H { s with heap := h', toks := tk } := I.kept x1
    have nF : H h'.objs.size = none := I1.hok.fresh (Nat.le_refl _)
    have I2 := inv_lam (L := ⟨params, body, scope, X.env.qual ++ "<lambda>", cloFrom X.env.cells scope.names [], dV, c'⟩) (t' := tk) (pm := (X.mg "__name__").getD .none) (ctv := ctv) I1
    refine h h'.objs.size c' _ _ I2 (fun b o e n => ?_) (fun b e => upd_none e) (hT.ext fun b o e => ?_) nF upd_same ?_
    · exact (upd_ne (ne_of_none e nF)).trans e
    · exact (upd_ne (ne_of_none e nF)).trans e
    · exact (upd_ne (ne_of_none hco nF)).trans hco
end
/-- what the defaults' place holds -/
def DflAt (H : Hp) (dV : Value) (dvs : List V) : Prop := (dvs = [] ∧ dV = .none) ∨ (dvs ≠ [] ∧ ∃ T, dV = .ref T ∧ H T = some (.tup dvs))
/-- the reading of a lambda: a new function, mk its datum -/
def tLamV (T : List (Addr × Str)) (dvs : List V) (mk : Value → Addr → LF) : TE := fun _ H Q => Tabs T H ∧ ∀ (f c' : Addr) (dV : Value) (H1 : Hp), ExtN H H1 → (∀ b, H1 b = none → H b = none) → Tabs T H1 → H f = none →
  H1 f = some (LamO f (mk dV c')) → H1 c' = some (CodeO c' (mk dV c').qual) → DflAt H1 dV dvs → Q (.ref f) H1
section
variable {X : Cx}
theorem pe_lam0 {T : List (Addr × Str)} {c P : Addr} {params : Arguments} {body : Expr} {scope : Scope} {pos : Pos} (LT : LamT X T c P) (hd : defaultsOf params X.env = ([], []))
    (hfree : ∀ y ∈ scope.names, y.2 = .free → X.env.scope.names.lookup y.1 = some .cell ∨ X.env.scope.names.lookup y.1 = some .free) :
    PE X (.Lambda params body scope pos) (tLamV T [] fun dV c' => ⟨params, body, scope, X.env.qual ++ "<lambda>", cloFrom X.env.cells scope.names [], dV, c'⟩) := by
  refine ⟨fun pins s σ H Q I ⟨hT, h⟩ => PySem.W.kla_eval hd ?_⟩
  rw [makeFunction_eq]
  simp only [List.zip_nil_right, List.filterMap_nil, List.isEmpty_nil, if_true, pure_bind]
  have hf : ∀ y ∈ scope.names, y.2 = .free → ∃ c, X.env.cells.lookup y.1 = some c := fun y hy e => (hfree y hy e).elim (fun z => I.ok.has _ (.inl z)) fun z => I.ok.has _ (.inr z)
  exact lam_tail I LT hT hf fun f c' H1 s' I1 a1 a2 a3 a4 a5 a6 => ⟨.ref f, H1, I1, rfl, h f c' .none H1 a1 a2 a3 a4 a5 a6 (.inl ⟨rfl, rfl⟩)⟩
theorem pe_lam1 {T : List (Addr × Str)} {c P : Addr} {params : Arguments} {body : Expr} {scope : Scope} {pos : Pos} {i j : Int} {jn : Nat} {p2 : Pos} (LT : LamT X T c P)
    (hd : defaultsOf params X.env = ([eval (.Constant (.int i) jn p2) X.env], []))
    (hfree : ∀ y ∈ scope.names, y.2 = .free → X.env.scope.names.lookup y.1 = some .cell ∨ X.env.scope.names.lookup y.1 = some .free) :
    PE X (.Lambda params body scope pos) (tLamV T [.int i] fun dV c' => ⟨params, body, scope, X.env.qual ++ "<lambda>", cloFrom X.env.cells scope.names [], dV, c'⟩) := by
  refine ⟨fun pins s σ H Q I ⟨hT, h⟩ => ?_⟩
  rw [arm_eval_Lambda, hd]
  have hf : ∀ y ∈ scope.names, y.2 = .free → ∃ c, X.env.cells.lookup y.1 = some c := fun y hy e => (hfree y hy e).elim (fun z => I.ok.has _ (.inl z)) fun z => I.ok.has _ (.inr z)
  refine wpAny_bind (wpAny_evalAll_cons (thn ((pe_int (X := X) (i := i) (j := jn) (pos := p2)).run pins s σ H (fun v H1 => v = .int i ∧ H1 = H) I ⟨rfl, rfl⟩) fun u s1 ⟨v, H1, I1, r1, q1⟩ => ?_))
  obtain ⟨ev, eH⟩ := q1
  subst ev
  subst eH
  refine wpAny_evalAll_nil (wpAny_bind (wpAny_holding (wpAny_pure ?_)))
  rw [makeFunction_eq]
  simp only [List.zip_nil_right, List.filterMap_nil, List.isEmpty_nil, if_true, pure_bind, List.isEmpty_cons, Bool.false_eq_true, if_false]
  refine wpAny_bind (wpAny_newTextTuple ?_)
  have nT := I1.hok.fresh (Nat.le_refl s1.heap.objs.size)
  have I2 : Inv X pins σ (upd H1 s1.heap.objs.size (.tup [.int i])) { s1 with heap := s1.heap.push { cls := .type "tuple", data := .seq [u].toArray } } := by
    refine I1.laid (t' := s1.toks) (fun b o e => Heap.get?_push_of_some _ e) (Nat.le_refl _) ⟨(by decide : (1 : Nat) ≤ sizeLine), [u], .cons r1 .nil, ?_⟩
    exact ⟨_, Heap.get?_push_size _ rfl, rfl, ⟨_, rfl⟩⟩
  have hT2 : Tabs T (upd H1 s1.heap.objs.size (.tup [.int i])) := hT.ext fun b o e => by
    rw [upd_ne (ne_of_none e nT)]
    exact e
  refine lam_tail I2 LT hT2 hf fun f c' H2 s' I3 a1 a2 a3 a4 a5 a6 => ⟨.ref f, H2, I3, rfl, h f c' _ H2 (fun b o e n => ?_) (fun b e => upd_none (a2 b e)) a3 (upd_none a4) a5 a6 (.inr ⟨List.cons_ne_nil _ _, _, rfl, ?_⟩)⟩
  · exact a1 b o (by rw [upd_ne (ne_of_none e nT)]; exact e) n
  · exact a1 _ _ upd_same (fun ps z => nomatch z)
end
end Sv
set_option maxHeartbeats 4000000
namespace Sv
open PySem PySem.Spec PyProof.Rows L2 LamX NdefX
def LF.nf (L : LF) : NF := ⟨"<lambda>", L.qual, L.params, [], L.scope, L.cl, L.c⟩
/-- how the defaults bind -/
def LBinds (L : LF) (ps : List Str) (dvs : List V) : Prop := ∀ (H : Hp) (P : Program) (w : World) (s : Shared), HOk P w H s.heap → DflAt H L.dV dvs →
  ∃ us, Vals dvs us ∧ ∀ pm ctv, BindsTo s (L.fd pm ctv) ⟨[], []⟩ (ps.zip us)
theorem lbinds0 {L : LF} (h : ∀ q cl pm cv ctv, bindArgs (PySem.W.kla_fn "<lambda>" q L.params L.body L.scope cl pm cv ctv) ⟨[], []⟩ = pure []) : LBinds L [] [] := fun H P w s hok d => by
  rcases d with ⟨_, e⟩ | ⟨e, _⟩
  · refine ⟨[], .nil, fun pm ctv => .of_eq ?_⟩
    have z := h L.qual L.cl pm (.ref L.c) ctv
    unfold LF.fd
    rw [e]
    exact z
  · exact absurd rfl e
theorem lbinds1 {L : LF} {a : Str} {v : V} (h : ∀ q cl pm cv ctv (T : Addr) (u : Value), ∃ k, bindArgs { PySem.W.kla_fn "<lambda>" q L.params L.body L.scope cl pm cv ctv with defaults := .ref T } ⟨[], []⟩ = seqItems? (.ref T) >>= k ∧
    k (some [u].toArray) = pure [(a, u)]) : LBinds L [a] [v] := fun H P w s hok d => by
  rcases d with ⟨e, _⟩ | ⟨_, T, e, hT⟩
  · cases e
  · obtain ⟨_, its, r, o, ho, _, n, hd⟩ := hok T _ hT
    obtain ⟨u, rfl, ru⟩ := Vals.one r
    refine ⟨[u], .cons ru .nil, fun pm ctv M A Q E q => ?_⟩
    obtain ⟨k, e1, e2⟩ := h L.qual L.cl pm (.ref L.c) ctv T u
    unfold LF.fd
    rw [e]
    rw [e1]
    refine wpAny_bind (wpAny_seqItems ho hd ?_)
    rw [e2]
    exact wpAny_pure q
/-- the promise of the lambda L at f, its cells holding ws -/
structure LOk (P : Program) (w : World) (K : PySem.W.Frag) (mg : Str → Option Value) (base : Heap) (k : Nat) (f : Addr) (L : LF) (fr : List Str) (dvs : List V) (tl : List (Option V) → XK → Hp → VK → Prop) : Prop where
  run : ∀ (A : Around) (outer : List Env) (s : Shared) (H : Hp) (ws : List (Option V)) (Q : VK) (E : XK), Room k A → Env0 P w K mg base A outer s H → H f = some (LamO f L) → H L.c = some (CodeO L.c L.qual) → DflAt H L.dV dvs →
    CellsAt L.cl fr ws s.heap H → tl ws E H Q → codeAny (model P w) A (.call (.ref f) ⟨[], []⟩) (CR (L2.CX P w) outer P w H s Q E) s
section
variable {P : Program} {w : World} {K : PySem.W.Frag} {mg : Str → Option Value} {base : Heap} {N ps fr : List Str} {L : LF} {f : Addr} {k : Nat} {dvs : List V} {tl : List (Option V) → XK → Hp → VK → Prop}
theorem lok_of (S : NScope N ps fr L.scope) (hb : LBinds L ps dvs) (hl : dvs.length = ps.length)
    (hbody : ∀ (A : Around) (outer : List Env) (s : Shared) (H : Hp) (ws : List (Option V)) (Q : VK) (E : XK), Room k (A.deeper (envF L.nf f s.heap.objs.size)) → ws.length = fr.length → tl ws E H Q →
      ∃ t, PE (ncx (L2.CX P w) P w K mg base N L.nf f A outer s H E) L.body t ∧ t (startF N dvs ws) H Q) : LOk P w K mg base (k + 1) f L fr dvs tl := by
  refine ⟨fun A outer s H ws Q E hr e0 hf hc hd C ht => ?_⟩
  have lim : s.heap.NoLimit := e0.mod.nolimit.keeps fun b o e => (e0.bs b o e).1
  obtain ⟨od, sl, pm, ctv, ho⟩ := lamO_at e0.hok hf
  obtain ⟨us, r, hbi⟩ := hb H P w s e0.hok hd
  obtain ⟨⟨oc, vs, t, hoc, hdc, hvc⟩, _, _⟩ := e0.hok L.c _ hc
  have hus : us.length = ps.length := by rw [← r.length]; exact hl
  refine PySem.W.kla_callFunE hr.depth ho rfl S.co S.gen rfl ⟨L.c, oc, vs, t, rfl, hoc, hdc, hvc⟩ (hbi pm ctv _ _ _ _ ?_)
  refine wpAny_newFunctionEnv S.nocell (fun ⟨n, _⟩ hy => S.par n (List.of_mem_zip hy).1) (fun h₁ hns hsb => ⟨lim.fresh _ hsb, ?_⟩) S.kind
  show codeAny _ _ (.expr L.body (envF L.nf f s.heap.objs.size)) _ _
  have kp : ∀ b o, s.heap.get? b = some o → h₁.get? b = some o := fun b o e => hsb.extBut b o (Nat.ne_of_lt (Heap.lt_size e)) (Heap.get?_push_of_some _ e)
  obtain ⟨t, hp, hq⟩ := hbody A outer s H ws Q E (hr.deeper _) C.len ht
  have I : Inv (ncx (L2.CX P w) P w K mg base N L.nf f A outer s H E) [] (startF N dvs ws) H { s with heap := h₁, toks := s.toks + (ps.zip us).length } := inv_startN (F := L.nf) S hr.hd e0 hl r C hns kp
  refine PySem.W.kla_codeExpr (wpAny_mono (hp.run [] _ _ H Q I hq) (fun u s' hs => ?_) fun e s' hs => hs)
  obtain ⟨v', H', J, rv, q⟩ := hs
  exact ⟨v', H', J.os, J.bare, J.base, J.hok, rv, q⟩
theorem LOk.mono {j : Nat} (o : LOk P w K mg base j f L fr dvs tl) (h : j ≤ k) : LOk P w K mg base k f L fr dvs tl := ⟨fun A outer s H ws Q E hr => o.run A outer s H ws Q E (hr.mono h)⟩
end
/-- what the cells held they hold behind anything that keeps the untracked -/
theorem cells_later {fs ex : List Addr} {cl : List (Str × Addr)} {fr : List Str} {ws : List (Option V)} {h h1 : Heap} {H H1 : Hp} (C : CellsAt cl fr ws h H) (nf : ∀ y c, cl.lookup y = some c → c ∉ fs) (nx : ∀ y c, cl.lookup y = some c → c ∉ ex) (u : Un fs ex H H1 h h1) :
    CellsAt cl fr ws h1 H1 := by
  have kp : ∀ y c, cl.lookup y = some c → ∀ v, h.IsCell c v → h1.IsCell c v := fun y c e v ⟨o, ho, hd⟩ => ⟨o, u.keep c o ho (C.all y c e).1 (nf y c e) (nx y c e), hd⟩
  refine ⟨C.len, fun y c e => ?_, C.inj, fun i y e => ?_⟩
  · obtain ⟨n, v, z⟩ := C.all y c e
    refine ⟨?_, v, kp y c e v z⟩
    obtain ⟨o, ho, _⟩ := z
    exact u.free c o ho n (nx y c e)
  · obtain ⟨c, hc, hv⟩ := C.has i y e
    refine ⟨c, hc, fun v ev => ?_⟩
    obtain ⟨uu, r, z⟩ := hv v ev
    exact ⟨uu, r, kp y c hc _ z⟩
/-- no cell of the running frame is one of the frames that run -/
def Far (X : Cx) : Prop := ∀ y c, X.env.cells.lookup y = some c → c ∉ frs X.stack
theorem far_def {X : Cx} {pins : List (Addr × Obj)} {σ : L2.St} {H : Hp} {s : Shared} (I : Inv X pins σ H s) (hf : ∀ y, X.fn y = true) : Far X := fun y c e hm => by
  rcases List.mem_cons.mp (I.stkSub c hm) with z | z
  · exact I.cne y c e z
  · obtain ⟨_, o, ho, _⟩ := I.ok.funs.mem z
    exact Nat.lt_irrefl _ (Nat.lt_of_lt_of_le (Heap.lt_size ho) (I.ok.cab y c (hf y) e))
/-- what is known where a comprehension's block begins -/
structure Blk0 (X : Cx) (σ : L2.St) (s : Shared) (H : Hp) (cl : List (Str × Addr)) (fp : List Addr) : Prop where
  inv : ∃ pins, Inv X pins σ H s ∧ ∀ b ∈ fp, FpOk X pins H b
  far : Far X → ∀ y c, cl.lookup y = some c → c ∉ frs X.stack
theorem blk_far {X : Cx} {pins : List (Addr × Obj)} {σ : L2.St} {H : Hp} {s : Shared} {scope : Scope} (I : Inv X pins σ H s) (hfree : ∀ y ∈ scope.names, y.2 = .free → ∃ c, X.env.cells.lookup y.1 = some c) (F : Far X) :
    ∀ y c, (cellsFrom (s.heap.objs.size + 1) scope.names (cloFrom X.env.cells scope.names [])).lookup y = some c → c ∉ frs X.stack := fun y c e hm => by
  rw [← Heap.size_push s.heap { cls := .type "dict", data := .dict #[] }] at e
  rcases cells_mem (PySem.mem_of_lookup e) with z | ⟨_, z, _⟩
  · rcases cloFrom_mem z with z | ⟨h1, h2⟩
    · cases z
    · obtain ⟨c1, hc⟩ := hfree _ h1 rfl
      have e2 : c = c1 := by
        rw [h2, hc]
        rfl
      exact F y c (by rw [e2]; exact hc) hm
  · rw [Heap.size_push] at z
    obtain ⟨_, o, ho, _⟩ := I.stack.mem hm
    exact Nat.lt_irrefl _ (Nat.lt_of_lt_of_le (Heap.lt_size ho) (Nat.le_of_succ_le z))
section
variable {X : Cx}
/-- a comprehension whose element may know the state where the block begins -/
theorem pe_lcI {elt tg iter : Expr} {ifs : List Expr} {scope : Scope} {own : List (Str × Nat)} {pos : Pos} {wi : TI} {g : TG} {tt : L2.St → TT} {te : L2.St → TE} (hc : X.calm = true) (hN : X.N.Nodup) (hi : PI X tg iter wi) (ok : BlkOk X.N X.env.scope scope own)
    (hg : ∀ (s : Shared) (H : Hp) (C : Addr) (cl : List (Str × Addr)) (fp : List Addr), PG (X.blk s H scope (compEnvC scope cl C X.env) fp) tg g)
    (ht : ∀ (σ : L2.St) (s : Shared) (H : Hp) (C : Addr) (cl : List (Str × Addr)) (fp : List Addr), Blk0 X σ s H cl fp → PTs (X.blk s H scope (compEnvC scope cl C X.env) fp) ifs (tt σ))
    (he : ∀ (σ : L2.St) (s : Shared) (H : Hp) (C : Addr) (cl : List (Str × Addr)) (fp : List Addr), Blk0 X σ s H cl fp → PE (X.blk s H scope (compEnvC scope cl C X.env) fp) elt (te σ))
    (hs : ∀ x, foldedSetIterable iter X.env x = pure x := by intro _; rfl) :
    PE X (.ListComp elt [⟨tg, iter, ifs, 0⟩] scope pos) (fun σ H Q => tLc wi g (tt σ) (te σ) (own.map (·.2)) σ H Q) := by
  refine ⟨fun pins s σ H Q I h => ?_⟩
  have hfree : ∀ y ∈ scope.names, y.2 = .free → ∃ c, X.env.cells.lookup y.1 = some c := fun y hy e => (ok.free y hy e).elim (fun k => I.ok.has _ (.inl k)) fun k => I.ok.has _ (.inr k)
  rw [eval_ListComp]
  refine wpAny_comprehension_free (use := none) rfl hs (closure_ok hfree) ok.kind (fun y hy e => by rw [ok.uniq y hy, e]) (thn (hi.run pins s σ H _ I h) fun xv s1 hx => thn hx fun itv s2 h2 => ?_)
  obtain ⟨it, fp, tn, J, H2, rfl, I2, T, st2, f2, q⟩ := h2
  refine wpAny_newObj_type (newEnv_comp ?_) (by show 0 ≤ sizeLine; decide)
  have nD : H2 s2.heap.objs.size = none := I2.hok.fresh (Nat.le_refl _)
  obtain ⟨W, ⟨m0, w0⟩, turn⟩ := q _ nD
  generalize hD : s2.heap.objs.size = D at nD w0 turn ⊢
  generalize hs3 : ({ s2 with heap := s2.heap.push { cls := .type "list", data := .seq ([] : List Value).toArray } } : Shared) = s3
  have h3 : s3.heap = s2.heap.push { cls := .type "list", data := .seq ([] : List Value).toArray } := by rw [← hs3]
  have I3 : Inv X pins σ (upd H2 D (.lst [])) s3 := by
    rw [← hs3]
    refine I2.laid (t' := s2.toks) (fun b o e => Heap.get?_push_of_some _ e) (Nat.le_of_eq hD) ⟨Nat.zero_le _, [], 0, .nil, ?_⟩
    rw [← hD]
    exact Heap.get?_push_size _ rfl
  have f3 : ∀ b ∈ fp, FpOk X pins (upd H2 D (.lst [])) b ∧ b < s3.heap.objs.size := fun b hb => by
    obtain ⟨o, e, _⟩ := T.obj _ _ st2 b hb
    have hlt := Heap.lt_size e
    refine ⟨⟨?_, (f2 b hb).2⟩, by rw [h3, Heap.size_push]; exact Nat.lt_succ_of_lt hlt⟩
    rw [upd_ne (by rw [← hD]; exact Nat.ne_of_lt hlt)]
    exact (f2 b hb).1
  have st3 : tn 0 s3.heap := T.keep _ _ _ st2 fun b _ o e => by rw [h3]; exact Heap.get?_push_of_some _ e
  have I4 := block_start I3 ok hN f3
  have K0 : Blk0 X σ s3 (upd H2 D (.lst [])) (cellsFrom (s3.heap.objs.size + 1) scope.names (cloFrom X.env.cells scope.names [])) fp := ⟨⟨pins, I3, fun b hb => (f3 b hb).1⟩, blk_far I3 hfree⟩
  have pg := hg s3 (upd H2 D (.lst [])) s3.heap.objs.size (cellsFrom (s3.heap.objs.size + 1) scope.names (cloFrom X.env.cells scope.names [])) fp
  have pt := ht σ s3 (upd H2 D (.lst [])) s3.heap.objs.size _ fp K0
  have pe := he σ s3 (upd H2 D (.lst [])) s3.heap.objs.size _ fp K0
  have nfp : ∀ b ∈ fp, (upd H2 D (.lst [])) b = none := fun b hb => (f3 b hb).1.1
  have fin0 : ∀ (C : Addr) (s' : Shared) (m : Str → Option Value) (H' : Hp), Inv X pins σ H' s' → Q (.ref D) H' → s'.heap.Ns C m → FpOk X pins H' C →
      compPost (model X.prog X.w) X.A X.xe none (fun u s' => EP X pins σ Q u s') (.ref D) C (.ok .next) s' := fun C s' m H' I' qq hn f =>
    ⟨m, hn, fun h'' sb => ⟨.ref D, H', I'.turned (t' := s'.toks) (fun b o hb e => (sb.2 b hb).trans e) f.1 f.2.1 f.2.2.2.1 f.2.2.2.2.1 f.2.2.2.2.2, rfl, qq⟩⟩
  generalize hce : compEnvC scope (cellsFrom (s3.heap.objs.size + 1) scope.names (cloFrom X.env.cells scope.names [])) s3.heap.objs.size X.env = ce at I4 pg pt pe
  have cL : ce.locals = s3.heap.objs.size := by subst hce; rfl
  generalize hH3 : upd H2 D (.lst []) = H3 at I3 I4 pg pt pe w0 nfp f3
  show codeAny _ _ (.compStart (.ListComp elt [⟨tg, iter, ifs, 0⟩] scope pos) 0 (.ref it) (.ref D) (compEnvC scope (cellsFrom (s3.heap.objs.size + 1) scope.names (cloFrom X.env.cells scope.names [])) s3.heap.objs.size X.env)) (compPost (model X.prog X.w) X.A X.xe none _ (.ref D) s3.heap.objs.size) { s3 with heap := pushCells (s3.heap.push { cls := .type "dict", data := .dict #[] }) scope.names }
  rw [hce]
  generalize hs4 : ({ s3 with heap := pushCells (s3.heap.push { cls := .type "dict", data := .dict #[] }) scope.names } : Shared) = s4 at I4 ⊢
  have st4 : tn 0 s4.heap := T.keep _ _ _ st3 fun b _ o e => by rw [← hs4]; exact pushCells_keeps _ _ _ _ (Heap.get?_push_of_some _ e)
  let Y : Cx := X.blk s3 H3 scope ce fp
  have stat : ∀ {σ' : L2.St} {H' : Hp} {s' : Shared}, Inv Y [] σ' H' s' → (∀ b ∈ fp, H' b = none) → ∀ b ∈ fp, FpOk Y [] H' b := fun {σ' H' s'} I' hn b hb =>
    ⟨hn b hb, (I'.ok.exf b hb).1, I'.ok.exfs b hb, .inl hb, fun x c e => (I'.ok.exf b hb).2 x c e, fun p hp => absurd (show p ∈ ([] : List (Addr × Obj)) ++ [] from hp) (by simp)⟩
  refine codeAny_compStart_list ?loop (T.self X.A 0 _ _ _ st4 ?loop)
  refine compLoop_any (fun n s' => ∃ i H', Inv Y [] (wipe σ (own.map (·.2))) H' s' ∧ tn i s'.heap ∧ (∀ b ∈ fp, H' b = none) ∧ W i n H') ?_ m0 ⟨0, H3, I4, st4, nfp, w0⟩
  rintro n s5 ⟨i, H5, I5, st5, n5, w5⟩
  rcases turn i n H5 w5 with ⟨stop, qq⟩ | ⟨go, Nx, hNx, step⟩
  · refine thnF (T.done Y rfl rfl rfl hc i [] s5 _ H5 (fun _ _ => False) I5 (stat I5 n5) st5 stop) fun r s6 ⟨hr, I6⟩ => ?_
    subst hr
    have I7 : Inv X pins σ H5 s6 := I3.call' (ch := fp) I6.os I6.base I6.hok I6.bare fun b hb => ⟨(f3 b hb).1.2.2.2.1, (f3 b hb).1.2.1, (f3 b hb).1.2.2.2.2.1, (f3 b hb).1.2.2.2.2.2⟩
    have nC : H5 s3.heap.objs.size = none := by
      have z : H5 ce.locals = none := I6.free
      rw [cL] at z
      exact z
    obtain ⟨m, hn, _⟩ := I6.loc
    have hn : s6.heap.Ns ce.locals m := hn
    rw [cL] at hn
    exact fin0 s3.heap.objs.size s6 m H5 I7 qq hn (I3.fpOk (Nat.le_refl _) nC)
  · refine thnF (T.item Y rfl rfl rfl hc i [] s5 _ H5 (fun _ _ => False) I5 (stat I5 n5) st5 go) fun r s6 ⟨u, hr, h6⟩ => ?_
    subst hr
    refine thnF h6 fun _ s7 ⟨x, H7, I7, r7, y7, st7, n7⟩ => ?_
    have I7' := I7.pinned (stat I7 n7) (T.obj _ _ st7)
    refine thnF (pg.run _ s7 _ H7 x u _ I7' r7 (step x H7 y7)) fun _ s8 ⟨σ8, H8, I8, hw8, q8⟩ => ?_
    refine thnF (pt.run _ s8 σ8 H8 _ I8 q8) fun b s9 ⟨H9, I9, q9⟩ => ?_
    have fin : ∀ {s' : Shared} {H' : Hp}, Inv Y ([] ++ pinsAt fp s7.heap) σ8 H' s' → Nx H' → ∃ m, m < n ∧ ∃ i H', Inv Y [] (wipe σ (own.map (·.2))) H' s' ∧ tn i s'.heap ∧ (∀ b ∈ fp, H' b = none) ∧ W i m H' := fun {s' H'} I' nx => by
      obtain ⟨m', hm, w'⟩ := hNx H' nx
      have pin' : ∀ b ∈ fp, ∀ o, s7.heap.get? b = some o → s'.heap.get? b = some o ∧ H' b = none := fun b hb o e =>
        let z := I'.pin (b, o) (List.mem_append_right _ (List.mem_append_right _ (mem_pinsAt hb e)))
        ⟨z.1, z.2.1⟩
      refine ⟨m', hm, i + 1, H', (I'.unpinned (pins := [])).weak (by rw [← hw8, wipe_length]) (fun j v e => ?_), T.keep _ _ _ st7 fun b hb o e => (pin' b hb o e).1, fun b hb => ?_, w'⟩
      · rw [← hw8] at e
        exact (wipe_some e).1
      · obtain ⟨o, e, _⟩ := T.obj _ _ st7 b hb
        exact (pin' b hb o e).2
    cases b with
    | false =>
      simp only [Bool.false_eq_true, if_false] at q9 ⊢
      exact fin I9 q9
    | true =>
      simp only [if_true] at q9 ⊢
      refine thnF (pe.run _ s9 σ8 H9 _ I9 q9) fun z s10 ⟨yv, H10, I10, r10, acc, hD10, hz10, nx⟩ => ?_
      exact app_ok (X := Y) I10 hD10 hz10 r10 fun s11 I11 => fin I11 nx
end
end Sv
set_option maxHeartbeats 4000000
namespace Sv
open PySem PySem.Spec PyProof.Rows L2 LamX NdefX
/-- at this state the lambda stands at f, its cells hold ws -/
structure LamAt (P : Program) (w : World) (K : PySem.W.Frag) (mg : Str → Option Value) (base : Heap) (k : Nat) (fs : List Addr) (s : Shared) (H : Hp) (f : Addr) (L : LF) (fr : List Str) (dvs : List V) (ws : List (Option V)) (tl : List (Option V) → XK → Hp → VK → Prop) : Prop where
  fn : H f = some (LamO f L)
  code : H L.c = some (CodeO L.c L.qual)
  dfl : DflAt H L.dV dvs
  ok : LOk P w K mg base k f L fr dvs tl
  cells : CellsAt L.cl fr ws s.heap H
  far : ∀ y c, L.cl.lookup y = some c → c ∉ fs
section
variable {CXg : CXT} {P : Program} {w : World} {K : PySem.W.Frag} {mg : Str → Option Value} {base : Heap} {Ng : List Str} {qg : Str} {sg : Scope} {g : Addr} {cdg : Value} {A : Around} {outer : List Env} {s : Shared} {H : Hp} {Eg : XK}
  {k i : Nat} {a : Str} {pn : List (Addr × Obj)} {xe : Value → Shared → Prop} {W : WX} {E : XK} {f : Addr} {L : LF} {fr : List Str} {dvs : List V} {ws : List (Option V)} {tl : List (Option V) → XK → Hp → VK → Prop} {p1 p2 : Pos}
/-- x() in the def that was handed the lambda -/
theorem pe_actL (LA : LamAt P w K mg base k (frs outer) s H f L fr dvs ws tl) (tk : Takes ((cxOf CXg P w K mg base Ng qg sg g cdg A outer s H Eg).tr pn xe) W)
    (hr : Room k (A.deeper (envOfC qg sg s.heap.objs.size g cdg))) (hN : Ng[i]? = some a) (hv : Vis sg a) (hd : (a == ("__debug__" : Str)) = false := by decide) (hcd : (a == ("__classdict__" : Str)) = false := by decide) :
    PE ((cxOf CXg P w K mg base Ng qg sg g cdg A outer s H Eg).tr pn xe) (.Call (.Name a p1) [] [] p2)
      (fun σZ HZ Q => σZ[i]? = some (some (.ref f)) ∧ HZ f = some (LamO f L) ∧ HZ L.c = some (CodeO L.c L.qual) ∧ DflAt HZ L.dV dvs ∧ ∃ (E' : XK) (Q' : VK), (∀ cls d H', E' cls d H' → W cls d σZ H') ∧ (∀ v H', Q' v H' → Q v H') ∧ tl ws E' HZ Q') := by
  refine ⟨fun pinsZ sZ σZ HZ Q IZ ⟨hs, h1, h2, h3, E', Q', hE, hQ, h4⟩ => ?_⟩
  refine wpAny_Call_Name_kw (thn ((pe_var (pos := p1) hN hv hd hcd).run pinsZ sZ σZ HZ (fun v H1 => v = .ref f ∧ H1 = HZ) IZ ⟨.ref f, hs, rfl, rfl⟩) fun u s1 ⟨v, H1, I1, r1, e1, e2⟩ => ?_)
  subst e1
  subst e2
  obtain rfl : u = Value.ref f := r1
  obtain ⟨od, sl, pm, ctv, ho⟩ := lamO_at I1.hok h1
  refine PySem.W.callWith_F0 ⟨_, _, _, _, ho⟩ ?_
  have C1 : CellsAt L.cl fr ws s1.heap H1 := cells_later (fs := frs outer) (ex := []) LA.cells LA.far (fun y c e z => nomatch z) I1.base
  refine wpAny_call (codeAny_mono (LA.ok.run _ _ s1 H1 ws Q' E' hr I1.env0 h1 h2 h3 C1 h4) fun r s' hq => ?_)
  cases r with
  | error e => exact tk e s' (XE.of_call I1 hE hq)
  | ok fl =>
    cases fl with
    | ret u =>
      obtain ⟨v', H', J, rv, q⟩ := I1.after hq
      exact ⟨v', H', J, rv, hQ _ _ q⟩
    | next => exact False.elim hq
    | brk => exact False.elim hq
    | cont => exact False.elim hq
end
/-- a def of one parameter, its promise told of the very state -/
structure FnSt (P : Program) (w : World) (K : PySem.W.Frag) (mg : Str → Option Value) (base : Heap) (k : Nat) (g : Addr) (Kn : List Addr → Shared → Hp → V → VK → Prop) : Prop where
  run : ∀ (A : Around) (outer : List Env) (s : Shared) (H : Hp) (u : Value) (v : V) (Q : VK), Room k A → Env0 P w K mg base A outer s H → RelV v u → Kn (frs outer) s H v Q → codeAny (model P w) A (.call (.ref g) ⟨[u], []⟩) (CR CX0 outer P w H s Q E0) s
theorem fnst_of {P : Program} {w : World} {K : PySem.W.Frag} {mg : Str → Option Value} {base : Heap} {x : Str} {st : Stmt} {g : Addr} {fd : FuncData} {N : List Str} {a : Str} {k : Nat} {Kn : List Addr → Shared → Hp → V → VK → Prop}
    (F : Fun K x x st g fd) (S : FnScope N [a] (defScope st)) (hb : Binds K fd [a] [])
    (hbody : ∀ (cdv : Value) (A : Around) (outer : List Env) (s : Shared) (H : Hp) (v : V) (Q : VK), Room k (A.deeper (envOfC x (defScope st) s.heap.objs.size g cdv)) → Env0 P w K mg base A outer s H → Kn (frs outer) s H v Q →
      ∃ t, PSs (cxOf CX0 P w K mg base N x (defScope st) g cdv A outer s H E0).nox (defBody st) t ∧ t { nx := fun _ H' => Q .non H', rt := Q } (L2.start N [v]) H) : FnSt P w K mg base (k + 1) g Kn := by
  obtain ⟨oc, od, kV, doc, pm, an, cdv, ct, osl, rfl, lk, hcd⟩ := F.ex
  refine ⟨fun A outer s H u v Q hr e0 r hk => ?_⟩
  refine run_ofS (N := N) (ps := [a]) (us := [u]) (vs := [v]) lk hcd S hr e0 (hb s [u] (e0.mod.kin.keeps fun b o e => (e0.bs b o e).1) rfl) (.cons r .nil) rfl fun hr' => ?_
  obtain ⟨t, ht, hq⟩ := hbody cdv A outer s H v Q hr' e0 hk
  exact ⟨t, ht.nox, hq⟩
section
variable {Y : Cx} {x : Str} {g : Addr} {e : Expr} {te : TE} {k : Nat} {p pos : Pos} {Kn : List Addr → Shared → Hp → V → VK → Prop}
/-- its call -/
theorem pe_callSt (G : FnSt Y.prog Y.w Y.K Y.mg Y.base k g Kn) (hr : Room k Y.A) (hg : Gl Y x) (hm : Y.mg x = some (.ref g)) (hk : PySem.W.keepIn Y.K (.ref g) = true) (he : PE Y e te) (hdb : (x == ("__debug__" : Str)) = false := by decide)
    (hst : starEach [e] Y.env = (false, eval e Y.env) :: starEach [] Y.env := by rfl) : PE Y (.Call (.Name x p) [e] [] pos) (fun σ H Q => te σ H fun v H1 => ∀ pins s, Inv Y pins σ H1 s → Kn (frs Y.stack) s H1 v Q) := by
  refine ⟨fun pins s σ H Q I h => ?_⟩
  refine wpAny_Call_Name_kw (ld_glob I hg hm ?_ hdb)
  refine PySem.W.callWith_K (h₀ := Y.base) I.ok.mod.kin hk (thn ((pa_cons he pa_nil hst).run pos pins s σ H (fun vs H1 => match vs with | [v] => ∀ pins s, Inv Y pins σ H1 s → Kn (frs Y.stack) s H1 v Q | _ => False) I h) fun us s1 ⟨vs, H1, I1, r, q⟩ => ⟨I1.kIn, ?_⟩) hst (by rfl)
  match vs, r, q with
  | [v], r, q =>
    obtain ⟨u, rfl, ru⟩ := Vals.one r
    refine wpAny_call (codeAny_mono (G.run Y.A Y.stack s1 H1 u v Q hr I1.env0 ru (q pins s1 I1)) fun r s' hq => ?_)
    cases r with
    | error e => exact (show False from hq).elim
    | ok fl =>
      cases fl with
      | ret u => exact I1.after hq
      | next => exact False.elim hq
      | brk => exact False.elim hq
      | cont => exact False.elim hq
  | [], _, q => exact q.elim
  | _ :: _ :: _, _, q => exact q.elim
end
end Sv
set_option maxHeartbeats 4000000
namespace Sv
open PySem PySem.Spec PyProof.Rows L2
section
open AutoSeq1 (wpAny_loadPart')
theorem enum_newT (l : Addr) (items : Array Value) (n : Nat) (dct : Option Addr) (sl : Array (Option Value)) :
    Meets (Builtin.«enumerate.__new__» ⟨[.type "enumerate", .ref l], []⟩) (fun _ R s => s.heap.get? l = some { cls := .type "tuple", dict := dct, data := .seq items n, slots := sl } ∧
      R (.ok (.ret (.ref (s.heap.push { cls := .type "tuple_iterator", data := .fields #[.ref l, .int 0 0] }).objs.size)))
        { s with heap := (s.heap.push { cls := .type "tuple_iterator", data := .fields #[.ref l, .int 0 0] }).push { cls := .type "enumerate", data := .fields #[.none, .bool false, .ref s.heap.objs.size, rawInt 0, .none, .none] } }) :=
  .of_wp fun prog w A R s h => by
    obtain ⟨hp, g, d, tk, os⟩ := s
    obtain ⟨hl, h⟩ := h
    have hsub := sub_enumerate
    have hL : Heap.IsTuple (Shared.heap ⟨hp, g, d, tk, os⟩) l items := ⟨_, hl, rfl, n, rfl⟩
    wp_walk using wpAny_loadPart' hl
    refine wpAny_stack_any fun st => wpAny_pure ?_
    split
    · rename_i c _ _ _ _ _
      cases (c == Value.type "enumerate")
      · wp_walk using wpAny_loadPart' hl, wpAny_pyIter_tuple hL
        exact ⟨_, rfl, h⟩
      · wp_walk using wpAny_loadPart' hl, wpAny_pyIter_tuple hL
        exact ⟨_, rfl, h⟩
    · wp_walk using wpAny_loadPart' hl, wpAny_pyIter_tuple hL
      exact ⟨_, rfl, h⟩
end
section
variable {prog : Program} {w : World} {A : Around} {E : Value → Shared → Prop} {s : Shared}
theorem call_enumT {l : Addr} {items : Array Value} {Q : Value → Shared → Prop} (hL : s.heap.IsTuple l items)
    (h : ∀ h', IsEnum h' (s.heap.objs.size + 1) s.heap.objs.size 0 .none → h'.IsTupleIter s.heap.objs.size l 0 → h'.objs.size = s.heap.objs.size + 2 → (∀ b o, s.heap.get? b = some o → h'.get? b = some o) → Q (.ref (s.heap.objs.size + 1)) { s with heap := h' }) :
    wpAny (model prog w) A (call (.type "enumerate") [.ref l]) Q E s := by
  obtain ⟨⟨c, dct, dt, sl⟩, hl, hc, n, hd⟩ := hL
  obtain rfl : c = .type "tuple" := hc
  obtain rfl : dt = .seq items n := hd
  refine callType_new F.called_enumerate (by decide) (F.typeCall_enumerate_1 _) (F.newCall_enumerate_1 _) (fun obj => F.args_object_init_2 obj _) F.entry_enumerate_new (enum_newT l items n dct sl) ⟨hl, ?_⟩
  have hz : ∀ o : Obj, (s.heap.push o).objs.size = s.heap.objs.size + 1 := fun o => Heap.size_push ..
  have g2 : ∀ (o1 o2 : Obj), o2.isFreed = false → ((s.heap.push o1).push o2).get? (s.heap.objs.size + 1) = some o2 := fun o1 o2 e => by
    have q := Heap.get?_push_size (s.heap.push o1) (o := o2) e
    rw [hz] at q
    exact q
  show _ ∧ _
  rw [hz]
  refine ⟨⟨_, g2 _ _ rfl, rfl⟩, h _ (g2 _ _ rfl) ⟨_, Heap.get?_push_of_some _ (Heap.get?_push_size _ rfl), rfl, rfl⟩ (by rw [Heap.size_push, hz]) fun b o y => Heap.get?_push_of_some _ (Heap.get?_push_of_some _ y)⟩
end
/-- a tuple's items with their numbers, each in a new pair -/
def IteT (K : PySem.W.Frag) (a : Addr) : It :=
  ⟨fun i H => ∃ (xs : List V) (x : V), SqT K H a xs ∧ xs[i]? = some x, fun i H v H' => ∃ T x, v = .ref T ∧ H T = none ∧ H' = upd H T (.tup [.int (i : Nat), x]) ∧ ∀ xs, SqT K H a xs → xs[i]? = some x,
    fun i H => ∃ xs : List V, SqT K H a xs ∧ i = xs.length⟩
theorem turn_enumT {P : Program} {w : World} {K : PySem.W.Frag} {elts : List Expr} {kk : Nat} {tpos : Pos} (a e it : Addr) (hai : a ≠ it) (hea : e ≠ a) :
    Turn P w K (.Tuple elts kk tpos) (IteT K a) [e, it] e (fun i h => (∃ old, IsEnum h e it ((i : Nat) : Int) old) ∧ h.IsTupleIter it a i ∧ e ≠ it) where
  mem := by simp
  obj := fun i h st b hb => by
    obtain ⟨⟨old, he⟩, ⟨o, ho, hc, hd⟩, _⟩ := st
    rcases (by simpa using hb : b = e ∨ b = it) with z | z
    · subst z
      exact ⟨_, he, fun v q => nomatch q⟩
    · subst z
      exact ⟨o, ho, fun v q => by rw [hd] at q; cases q⟩
  keep := fun i h h' st k => ⟨st.1.elim fun old he => ⟨old, k e (by simp) _ he⟩, st.2.1.at fun o q => k it (by simp) o q, st.2.2⟩
  item := by
    intro X hP hw hK hc i pins s σ H E I hf st hg
    subst hP hw hK
    obtain ⟨⟨old, he⟩, hit, hne⟩ := st
    obtain ⟨xs, x, hq, hx⟩ := hg
    obtain ⟨its, rv, p, hz⟩ := I.tuple hq
    obtain ⟨u, hu, ru⟩ := rv.get hx
    have hi : i < its.toArray.size := by
      obtain ⟨hlt, _⟩ := List.getElem?_eq_some_iff.mp hu
      simpa using hlt
    have hel : e < s.heap.objs.size := Heap.lt_size he
    have hil : it < s.heap.objs.size := by obtain ⟨_, q, _⟩ := hit; exact Heap.lt_size q
    have hh : X.A.in1.handled = none := by
      have := I.ok.hd hc
      simpa using this
    refine wpAny_pyNext_enum_itemD (Draws.tuple hh it a hai its.toArray) he ⟨hit, p⟩ hi hne (by simp; exact ⟨hne, hea⟩) fun y h' tk hy ho hst' hT hsz hk => ?_
    obtain rfl : y = u := by
      have q : its.toArray[i]? = some y := hy
      rw [show its.toArray[i]? = some u by simpa using hu] at q
      exact (Option.some.inj q).symm
    refine ⟨_, rfl, wpAny_letOwnedTupleGo_enum (s := { s with heap := h', toks := tk + 1 }) ho fun h'' he' sb => ?_⟩
    have hT2 : h''.get? s.heap.objs.size = some { cls := .type "tuple", data := .seq #[.int i tk, y] } := (sb.2 _ (Nat.ne_of_gt hel)).trans hT
    have new : ObjOk X.prog X.w (upd H s.heap.objs.size (.tup [.int (i : Nat), x])) h'' s.heap.objs.size (.tup [.int (i : Nat), x]) :=
      ⟨by show 2 ≤ sizeLine; decide, [.int i tk, y], .cons ⟨_, rfl⟩ (.cons ru .nil), ⟨_, hT2, rfl, _, rfl⟩⟩
    have I1 : Inv X pins σ (upd H s.heap.objs.size (.tup [.int (i : Nat), x])) { s with heap := h'', toks := tk + 1 } :=
      I.turnedNew (ch := [e, it]) (fun b ob hb q => (sb.2 b (fun z => hb (by simp [z]))).trans (hk b ob (fun z => hb (by simp [z])) (fun z => hb (by simp [z])) q)) hf (Nat.le_refl _) new
    refine ⟨.ref s.heap.objs.size, _, I1, rfl, ⟨_, x, rfl, I.hok.fresh (Nat.le_refl _), rfl, fun ys hy => by rw [I.tuple_inj hy hq]; exact hx⟩, ⟨⟨y, ?_⟩, hst'.1.at fun o q => (sb.2 it (Ne.symm hne)).trans q, hne⟩, fun b hb => ?_⟩
    · rw [show ((i + 1 : Nat) : Int) = (i : Int) + 1 by omega]
      exact he'
    · have hb' : b < s.heap.objs.size := by
        rcases (by simpa using hb : b = e ∨ b = it) with z | z
        · rw [z]; exact hel
        · rw [z]; exact hil
      rw [upd_ne (Nat.ne_of_lt hb')]
      exact (hf b hb).1
  done := by
    intro X hP hw hK hc i pins s σ H E I hf st hg
    subst hP hw hK
    obtain ⟨⟨old, he⟩, hit, hne⟩ := st
    obtain ⟨xs, hq, hx⟩ := hg
    obtain ⟨its, rv, p, hz⟩ := I.tuple hq
    obtain ⟨f0, f1, f2, f3, f4, f5⟩ := hf it (by simp)
    have hl := rv.length
    have hh : X.A.in1.handled = none := by
      have := I.ok.hd hc
      simpa using this
    refine wpAny_pyNext_enum_endD (Draws.tuple hh it a hai its.toArray) he ⟨?_, p⟩ fun h' eb => ⟨rfl, I.turned (t' := s.toks) (fun b o hb q => eb b o hb q) f0 f1 f3 f4 f5⟩
    rw [List.size_toArray, ← hl, ← hx]
    exact hit
  self := fun A i s Q E st h => let ⟨⟨_, he⟩, _⟩ := st; wpAny_pyIter_enum he h
def iEnumT (K : PySem.W.Frag) (ta : TA) : TI := fun σ H R => ta σ H fun vs H1 => ∃ a xs, vs = [.ref a] ∧ SqT K H1 a xs ∧ R (IteT K a) H1
theorem pi_enumT {X : Cx} {e : Expr} {ta : TA} {p pos tpos : Pos} {elts : List Expr} {kk : Nat} (hg : Gl X "enumerate") (hm : X.mg "enumerate" = none) (ha : PA X [e] ta) (hs : starEach [e] X.env = [(false, eval e X.env)] := by rfl) :
    PI X (.Tuple elts kk tpos) (.Call (.Name "enumerate" p) [e] [] pos) (iEnumT X.K ta) := by
  refine ⟨fun pins s σ H R I h => ?_⟩
  refine Call_ (ld_blt I hg hm boot_enumerate (PyProof.Rows.callWith_type1 (thn (ha.run pos pins s σ H _ I h) fun us s1 ⟨vs, H1, I1, r1, a, xs, ex, hq, q⟩ => ?_) hs rfl))
  subst ex
  obtain rfl := r1.ref1
  obtain ⟨its, rv, p', hz⟩ := I1.tuple hq
  have hal : a < s1.heap.objs.size := (let ⟨_, q, _⟩ := p'; Heap.lt_size q)
  refine call_enumT p' fun h' he hit hsz hk => wpAny_pyIter_enum he ?_
  have I2 : Inv X pins σ H1 { s1 with heap := h' } := I1.kept (t' := s1.toks) hk
  refine ⟨s1.heap.objs.size + 1, [s1.heap.objs.size + 1, s1.heap.objs.size], _, _, H1, rfl, I2, turn_enumT a (s1.heap.objs.size + 1) s1.heap.objs.size (Nat.ne_of_lt hal) (Nat.ne_of_gt (Nat.lt_succ_of_lt hal)), ⟨⟨.none, he⟩, hit, Nat.succ_ne_self _⟩, fun b hb => ?_, q⟩
  have hle : s1.heap.objs.size ≤ b := by
    rcases (by simpa using hb : b = s1.heap.objs.size + 1 ∨ b = s1.heap.objs.size) with z | z
    · rw [z]; exact Nat.le_add_right _ _
    · rw [z]; exact Nat.le_refl _
  exact I1.fpOk hle (I1.hok.fresh hle)
theorem for_enumT {K : PySem.W.Frag} {a : Addr} {xs : List V} {g : TG} {tb : TS} {D : Ends} {σ : L2.St} {H : Hp} (Pv : Nat → L2.St → Hp → Prop) (h0 : Pv 0 σ H) (hl : ∀ i σ H, i ≤ xs.length → Pv i σ H → SqT K H a xs)
    (turn : ∀ i x σ H T, xs[i]? = some x → Pv i σ H → H T = none → g (.ref T) σ (upd H T (.tup [.int (i : Nat), x])) fun σ' H' => tb { nx := fun σ2 H2 => Pv (i + 1) σ2 H2, rt := D.rt, bk := D.nx, ct := fun σ2 H2 => Pv (i + 1) σ2 H2 } σ' H')
    (after : ∀ σ H, Pv xs.length σ H → D.nx σ H) : ∃ W : Nat → Nat → L2.St → Hp → Prop, (∃ m, W 0 m σ H) ∧ ∀ i m σ H, W i m σ H →
      ((IteT K a).stop i H ∧ D.nx σ H) ∨ ((IteT K a).go i H ∧ ∃ Nx : L2.St → Hp → Prop, (∀ σ' H', Nx σ' H' → ∃ m', m' < m ∧ W (i + 1) m' σ' H') ∧ ∀ x H', (IteT K a).yld i H x H' → g x σ H' fun σ2 H2 => tb { nx := Nx, rt := D.rt, bk := D.nx, ct := Nx } σ2 H2) := by
  refine ⟨fun i m σ H => i + m = xs.length ∧ Pv i σ H, ⟨xs.length, Nat.zero_add _, h0⟩, fun i m σ H ⟨em, hP⟩ => ?_⟩
  have hS := hl i σ H (by omega) hP
  by_cases hi : i < xs.length
  · have gx : xs[i]? = some xs[i] := List.getElem?_eq_getElem hi
    refine .inr ⟨⟨xs, _, hS, gx⟩, fun σ' H' => Pv (i + 1) σ' H', fun σ' H' h => ⟨m - 1, by omega, by omega, h⟩, fun x H' hy => ?_⟩
    obtain ⟨T, y, rfl, nT, rfl, hy⟩ := hy
    have ey : y = xs[i] := Option.some.inj ((hy xs hS).symm.trans gx)
    rw [ey]
    exact turn i _ σ H T gx hP nT
  · have e : i = xs.length := by omega
    refine .inl ⟨⟨xs, hS, e⟩, after σ H ?_⟩
    rw [← e]
    exact hP
def rLcm : List V → Hp → VK → Prop := fun vs H Q => ∃ a b : Nat, vs = [.int a, .int b] ∧ a < 2 ^ 64 ∧ b < 2 ^ 64 ∧ Q (.int ((Nat.lcm a b : Nat) : Int)) H
theorem cr_lcm {X : Cx} : CallR X (.builtin "math.lcm") rLcm := by
  intro pins s σ H vs us Q I r h
  obtain ⟨a, b, rfl, ha, hb, q⟩ := h
  obtain ⟨t, u, rfl⟩ := Vals.int2 r
  exact PySem.W.mc_lcm (by simpa using ha) (by simpa using hb) fun _ => ⟨.int _, H, I.tok _, ⟨_, rfl⟩, by simpa using q⟩
theorem count_eqU {x : V} : ∀ {xs : List V} {us : List Value}, Vals xs us → xs.all flatV = true → us.countP (eqU x) = xs.countP fun y => eqV y x
  | _, _, .nil, _ => rfl
  | y :: xs, u :: us, .cons r t, f => by
    rw [List.all_cons, Bool.and_eq_true] at f
    rw [List.countP_cons, List.countP_cons, count_eqU t f.2, eqU_of r f.1]
def rCntV (K : PySem.W.Frag) : V → List V → Hp → VK → Prop := fun x xs H Q => ∃ (p : Addr) (ys : List V) (y : V), x = .ref p ∧ xs = [y] ∧ SqL K H p ys ∧ flatV y = true ∧ ys.all flatV = true ∧ Q (.int (ys.countP fun z => eqV z y : Nat)) H
theorem mt_countV {X : Cx} : MtR X "list.count" (rCntV X.K) := by
  intro pins s σ H x xs v us Q I rx rxs h
  obtain ⟨p, ys, y, rfl, rfl, hs, fy, fys, q⟩ := h
  cases rx
  obtain ⟨u, rfl, ru⟩ := rxs.one
  obtain ⟨its, rv, ⟨⟨cls, dd, data, sl⟩, n, ho, hc, hdn, hd⟩, hlen⟩ := I.list hs
  simp only at hc hd
  subst hc hd
  refine call_meets PySem.F.slot_list_count ⟨_, ho, rfl⟩ PySem.F.entry_list_count (PySem.F.args_list_count_2 _ _)
    (SeqAt.list_countAt p its.toArray n dd sl u (eqU y)) ⟨ho, fun u' hu' => mem_eqAt ru fy rv fys u' (by simpa using hu'), ?_⟩
  refine ⟨.int (ys.countP fun z => eqV z y : Nat), H, I.tok _, ⟨s.toks, ?_⟩, q⟩
  rw [← count_eqU rv fys]
end Sv
set_option maxHeartbeats 4000000
namespace Sv
open PySem PySem.Spec PyProof.Rows L2
def topS (i : Nat) : Stmt := PySem.Challenge.pw_swapshelves_k15_differences_of_plans.main.body.getD i (.Pass ⟨0, 0, 0, 0⟩)
abbrev sInvalidPlan : Stmt := topS 3
abbrev sWithin : Stmt := topS 20
abbrev sCheckCount : Stmt := topS 21
abbrev sCheckBetween : Stmt := topS 22
abbrev sCheckPlan : Stmt := topS 28
abbrev sCheckSizes : Stmt := topS 29
abbrev sCheckRoutes : Stmt := topS 30
abbrev sIsRoute : Stmt := topS 31
abbrev sNumPlaces : Stmt := topS 32
abbrev sVisitsIn : Stmt := topS 33
abbrev sCommon : Stmt := topS 34
abbrev sRoutePat : Stmt := topS 35
abbrev sJoin : Stmt := topS 37
abbrev sSplit : Stmt := topS 38
abbrev sAfterTick : Stmt := topS 39
abbrev sOrigins : Stmt := topS 40
abbrev sLap : Stmt := topS 42
abbrev sEffectOf : Stmt := topS 44
abbrev sEffectTicks : Stmt := topS 45
abbrev sRepeated : Stmt := topS 46
abbrev sCyclesOf : Stmt := topS 47
abbrev sCycleFrom : Stmt := topS 48
abbrev sFirstDiff : Stmt := topS 50
abbrev sMix : Stmt := topS 52
abbrev sNext : Stmt := topS 53
abbrev sAlike : Stmt := topS 54
abbrev sError : Stmt := topS 55
abbrev sPlan : Stmt := topS 56
abbrev sState : Stmt := topS 57
abbrev sStep : Stmt := topS 58
abbrev sBegun : Stmt := topS 59
abbrev sSeen : Stmt := topS 60
abbrev sOther : Stmt := topS 62
abbrev sLateRight : Stmt := topS 63
abbrev sLaw : Stmt := topS 64
end Sv
set_option maxHeartbeats 4000000
namespace Sv
open PySem PySem.Spec PyProof.Rows L2 NdefX
section
open PySem.W PySem.Calls
variable {prog : Program} {w : World} {A : Around} {E : Value → Shared → Prop} {h : Heap} {g : Array GenState} {d : Drawn} {t : Nat} {os : OsState}
variable {nm q : Str} {C N : Addr} {bs bm : List Value} {hdct : Bool} {sn : List Str} {sub : List Value} {ab : Bool} {col : Option Bool} {dd : Option Addr} {k0 k1 k2 k3 k5 : Option Value}
/-- the bound ValueError.__init__, called -/
theorem call_mw {u e t0 : Addr} {rest : List Value} {Q : Value → Shared → Prop}
    (hC : h.get? C = some (excClassObj nm q C N bs bm hdct sn sub ab col dd k0 k1 k2 k3 k5 "ValueError.__new__")) (he : h.get? e = some (HandSPX.excO C t0)) (hu : h.get? u = some (kxs_mw "ValueError.__init__" e)) (hrest : rest.length ≤ sizeLine)
    (hq : ∀ h' t1, (∀ b o, b ≠ e → h.get? b = some o → h'.get? b = some o) → h'.get? e = some (HandSPX.excO C t1) → Q .none ⟨h', g, d, t, os⟩) :
    wpAny (model prog w) A (call (.ref u) rest) Q E ⟨h, g, d, t, os⟩ := by
  refine wpAny_call (codeAny_of_tree ?_)
  show wpAny _ A.in1 (callAny (.ref u) ⟨rest, []⟩) _ _ _
  simp only [callAny]
  refine wpAny_bind (wpAny_load hu ?_)
  simp only [kxs_mw, show (Value.type "method-wrapper" == Value.type "method" || Value.type "method-wrapper" == Value.type "builtin_function_or_method" || Value.type "method-wrapper" == Value.type "method-wrapper") = true by decide, if_true]
  refine W.KFB.if_so (by decide) ?_
  refine wpAny_bind (ESX.check_bound F.excBase_ValueError hC he rfl ?_)
  refine wpAny_bind (wpAny_pure (wpAny_pure ?_))
  refine ⟨Code.quiet_builtin _ (by decide +kernel), codeAny_builtin F.excBase_ValueError.initEntry ?_⟩
  rw [Around.under_plainId F.excBase_ValueError.init.plain _]
  wp_walk
  refine hq _ h.objs.size (fun b o hb ho => ?_) ?_
  · rw [Heap.get?_update_other _ _ (Ne.symm hb)]
    exact Heap.get?_push_of_some _ ho
  · rw [Heap.get?_update_self _ (Heap.get?_push_of_some _ he) rfl]
    rfl
end
/-- what is asked of such a class and of its __init__ -/
structure SupF (P : Program) (K : PySem.W.Frag) (mg : Str → Option Value) (C fI cc : Addr) (F : NF) (ar : Arg) : Prop where
  T : OexC K C
  cl : F.cl = [(("__class__" : Str), cc)]
  cell : ∃ cl cld csl, K.lookup cc = some ⟨cl, cld, .cell (some (.ref C)), csl⟩
  code : PySem.W.codeIn K (.ref F.c) F.qual = true
  file : ∃ (ccl : Value) (cdd : Option Addr) (vs : Array Value) (ccs : Array (Option Value)) (fl : Str) (tf : Tok), K.lookup F.c = some ⟨ccl, cdd, .fields vs, ccs⟩ ∧ vs[2]? = some (.str fl tf) ∧ ((P.main.file : Str) == fl) = true
  top : (P.main.scope.names.lookup ("super" : Str)).isSome = false
  sup : mg "super" = none
  ks : F.scope.names.lookup ("super" : Str) = some .globalImplicit
  kc : F.scope.names.lookup ("__class__" : Str) = some .free
  hp : (F.params.posonlyargs ++ F.params.args).head? = some ar
  hs : PySem.W.ks_superIn K C C "__init__" = some (some (.builtin "ValueError.__init__"))
  ho : PySem.W.nsIn K PySem.cStatics "thirdparty.any" = some none
  hB : PySem.W.subIn K (.ref C) (.type "ValueError") = some true
  hm : PySem.W.mroIn K C (.ref C) = some true
section
variable {P : Program} {w : World} {K : PySem.W.Frag} {mg : Str → Option Value} {base : Heap} {C fI cc : Addr} {F : NF} {ar : Arg}
theorem boot_super : bootBuiltins "super" = some (.type "super") := by decide +kernel
/-- super().__init__(e) as a statement -/
theorem sup_stmt {X : Cx} {pins : List (Addr × Obj)} {σ : L2.St} {H : Hp} {s : Shared} {a : Addr} {e : Expr} {te : TE} {p0 p1 p2 p3 p4 : Pos} {body : List Stmt} {Q : Flow → Shared → Prop} (S : SupF X.prog X.K X.mg C fI cc F ar) (I : Inv X pins σ H s)
    (henv : X.env = envF F fI X.env.locals) (hf : ∃ oc od osl doc pm ctv, X.K.lookup fI = some ⟨oc, od, .func (F.fd doc pm ctv), osl⟩) (hi : X.N[0]? = some ar.arg) (hσ : σ[0]? = some (some (.ref a))) (hv : X.env.scope.names.lookup ar.arg = some .local) (ha : H a = some (exo a C none)) (he : PE X e te)
    (hst : starEach [e] X.env = (false, eval e X.env) :: starEach [] X.env)
    (hev : ∃ pl, eval (.Call (.Attribute (.Call (.Name "super" p0) [] [] p1) "__init__" p2) [e] [] p3) X.env = (do
      let ov ← attributeBase (.Call (.Name "super" p0) [] [] p1) "__init__" X.env (eval (.Call (.Name "super" p0) [] [] p1) X.env)
      standAt p2.atName
      let (f, first) ← holding [ov] (getMethod ov "__init__" pl)
      callWith p3 f first (backTo p3 (starEach [e] X.env)) []))
    (hin : interactive X.env = false) (hsw : swapsWith (.Call (.Attribute (.Call (.Name "super" p0) [] [] p1) "__init__" p2) [e] [] p3) none p4.line X.env = pure false)
    {W : VK} (h : te σ H W) (hW : ∀ v H1, W v H1 → H1 a = some (exo a C none) ∧ ∀ s', Inv X pins σ H1 s' → Q .next s') :
    _root_.PySem.wpAt (model X.prog X.w) X.A (.func body X.env) (exec (.Expr (.Call (.Attribute (.Call (.Name "super" p0) [] [] p1) "__init__" p2) [e] [] p3) p4) X.env) Q X.xe s := by
  obtain ⟨pl, hev⟩ := hev
  refine PySem.ks_wpAt_Expr_any ?_ hin hsw
  refine PySem.ks_wpAt_MethodCall (pl := pl) ?_ hev
  have KX : X.K.In s.heap := I.kIn
  obtain ⟨cl, cld, csl, hcell⟩ := S.cell
  obtain ⟨ccl, cdd, vs, ccs, fl, tf, hcode, hvs, hfile⟩ := S.file
  obtain ⟨oc, od, osl, doc, pm, ctv, hfo⟩ := hf
  obtain ⟨nm, q, N, bs, bm, sn, sub, ab, col, dd, k0, k1, k2, k3, k5, hC, hbm⟩ := S.T.cls
  have hcl : PySem.W.clsIn X.K C = some { name := nm, bases := bs, mro := .ref C :: bm, ns := N, qualname := q, hasDict := true, slotNames := sn, subclasses := sub, abstract := ab, collection := col, hasDel := false } := by unfold PySem.W.clsIn; rw [hC] <;> rfl
  have ek : ∀ y, X.env.kindOf y = F.scope.names.lookup y := fun y => by rw [henv]; rfl
  have efn : X.env.func = some fI := by rw [henv]
  have eco : X.env.code = .ref F.c := by rw [henv]
  have ecl : X.env.cells = F.cl := by rw [henv]
  refine PySem.ks_wpAt_super_base (ar := ar) (by rw [ek]; exact S.ks) (by rw [ek]; exact S.kc) (by decide) efn (KX _ _ hfo) rfl S.hp eco (KX _ _ hcode) rfl hvs hfile S.top ?_
  obtain ⟨mb, hb1, hb2⟩ := I.mod.blt
  refine PySem.W.ks_loadName_global I.ok.kind (by rw [ek]; exact S.ks) (Calls.loadGlobal_builtin (by rw [I.ok.glob]; exact I.mod.glob.keeps I.bk) S.sup (by rw [I.ok.blt]; exact hb1.keeps I.bk) ((hb2 _ (by decide +kernel)).trans boot_super) ⟨rfl, ?_⟩)
  refine wpAny_loadName_free I.ok.kind (by rw [ek]; exact S.kc) (c := cc) (by rw [ecl, S.cl]; rfl) ⟨_, KX _ _ hcell, rfl⟩ ?_
  obtain ⟨m, hn, hl⟩ := I.loc
  obtain ⟨ua, rua, la⟩ := hl 0 ar.arg (.ref a) hi hσ (.inl hv)
  obtain rfl : ua = Value.ref a := rua
  have hma : m ar.arg = some (.ref a) := by
    rcases la with ⟨_, z⟩ | ⟨z, _⟩
    · exact z
    · have hv' : X.env.kindOf ar.arg = some .local := hv
      rcases z with z | z <;> rw [hv'] at z <;> cases z
  refine wpAny_loadName_local I.ok.kind hv hn hma ?_
  refine PySem.ks_wpAny_isType_cls (KX _ _ hC) rfl ⟨rfl, ?_⟩
  obtain ⟨t1, hoa⟩ := exo_at I.hok ha
  obtain ⟨hp, g, d, tk, os⟩ := s
  refine PySem.ks_wpAny_call_super (C := C) (KX _ _ hC) rfl hoa rfl (fun c z => nomatch z) (PySem.W.looks_mroIn KX S.hm) (fun h' hso kp => ?_)
  have I1 : Inv X pins σ H ⟨h', g, d, tk, os⟩ := I.kept (t' := tk) kp
  have KX1 := I1.kIn
  have IA : PySem.W.InstAt h' a { cls := .ref C, dict := none, data := .fields #[.ref t1, .none, .none, .none, .bool false, .none] } C none := ⟨kp _ _ hoa, rfl, rfl, trivial⟩
  have hm := S.hs
  unfold PySem.W.ks_superIn at hm
  rw [hcl] at hm
  refine PySem.W.kxs_getMethod PySem.W.kxs_ValueError hso (PySem.W.looks_opaque KX1 S.ho) (l₀ := .ref C :: bm) (fun A Q E s k q => wpAny_bind ((PySem.W.looks_clsIn KX1 hcl) A _ E s k (wpAny_pure q))) rfl KX1 hm (IA.type.andThen (PySem.W.looks_subIn KX1 S.hB)) (PySem.W.ks_ne KX1 IA hcl) (by decide) ?_
  have hmw : (h'.push (PySem.W.kxs_mw "ValueError.__init__" a)).get? h'.objs.size = some (PySem.W.kxs_mw "ValueError.__init__" a) := Heap.get?_push_size _ rfl
  have I2 : Inv X pins σ H ⟨h'.push (PySem.W.kxs_mw "ValueError.__init__" a), g, d, tk + 1, os⟩ := I1.kept (t' := tk + 1) fun b o e => Heap.get?_push_of_some _ e
  generalize hG : h'.push (PySem.W.kxs_mw "ValueError.__init__" a) = G at hmw I2
  have fpo : FpOk X pins H h'.objs.size := I1.fpOk (Nat.le_refl _) (I1.hok.fresh (Nat.le_refl _))
  have I3 := I2.pinned (fp := [h'.objs.size]) (fun b hb => by rw [List.mem_singleton.mp hb]; exact fpo) (fun b hb => by rw [List.mem_singleton.mp hb]; exact ⟨_, hmw, fun v z => nomatch z⟩)
  have hpl : (backTo p3 (starEach [e] X.env)).any (·.1) = false := by rw [hst]; rfl
  refine PySem.W.kxs_callWith (i := "ValueError.__init__") (x := a) hpl ?_
  rw [hst]
  refine PySem.Calls.evalArgs_plain ?_
  show wpAny _ _ (spliced (backTo p3 ((false, eval e X.env) :: starEach [] X.env))) _ _ _
  rw [← hst]
  refine wpAny_mono ((pa_cons he pa_nil hst).run p3 _ _ σ H (fun vs H1 => match vs with | [v] => W v H1 | _ => False) I3 h) (fun us s1 hs => ?_) fun _ _ x => x
  · obtain ⟨vs1, H1, J, rv, hw⟩ := hs
    obtain ⟨v, rfl, ea, hq⟩ : ∃ v, vs1 = [v] ∧ H1 a = some (exo a C none) ∧ ∀ s', Inv X pins σ H1 s' → Q .next s' := by
      match vs1, hw with
      | [v], hw => exact ⟨v, rfl, hW v H1 hw⟩
      | [], hw => exact hw.elim
      | _ :: _ :: _, hw => exact hw.elim
    obtain ⟨u, rfl, ru⟩ := Vals.one rv
    have hpin := (J.pin (h'.objs.size, _) (List.mem_append_right _ (List.mem_append_right _ (mem_pinsAt (List.mem_singleton.mpr rfl) hmw)))).1
    refine ⟨hpin, ?_⟩
    obtain ⟨t2, hoa2⟩ := exo_at J.hok ea
    obtain ⟨hp1, g1, d1, tk1, os1⟩ := s1
    refine call_mw (J.kIn _ _ hC) hoa2 hpin (by show 1 ≤ sizeLine; decide) fun h3 t3 k3 hx => ?_
    have J2 := J.write (t' := tk1) (x := a) (e := a) (o := exo a C none) (by rw [ea]; exact True.intro) (.inl rfl) k3 ⟨_, hx⟩ (exo_ok hx)
    have eu : upd H1 a (exo a C none) = H1 := by
      funext b
      by_cases hb : b = a
      · rw [hb, upd_same, ea]
      · rw [upd_ne hb]
    rw [eu] at J2
    exact hq _ J2.unpinned
/-- THE RULE for such an __init__ -/
theorem fnOk_sup {N ps : List Str} {e : Expr} {rest : List Stmt} {p0 p1 p2 p3 p4 : Pos} {sp : Sp} {k : Nat} {oc : Value} {od : Option Addr} {osl : Array (Option Value)} {doc pm ctv : Value} (S : SupF P K mg C fI cc F ar) (lk : K.lookup fI = some ⟨oc, od, .func (F.fd doc pm ctv), osl⟩)
    (NS : NScope N ps ["__class__"] F.scope) (hN : N[0]? = some ar.arg) (hv : F.scope.names.lookup ar.arg = some .local) (hbd : F.body = .Expr (.Call (.Attribute (.Call (.Name "super" p0) [] [] p1) "__init__" p2) [e] [] p3) p4 :: rest)
    (len : ∀ vs H Q E, sp vs H Q E → vs.length = ps.length)
    (hst : ∀ env, starEach [e] env = (false, eval e env) :: starEach [] env)
    (hev : ∀ L, ∃ pl, eval (.Call (.Attribute (.Call (.Name "super" p0) [] [] p1) "__init__" p2) [e] [] p3) (envF F fI L) = (do
      let ov ← attributeBase (.Call (.Name "super" p0) [] [] p1) "__init__" (envF F fI L) (eval (.Call (.Name "super" p0) [] [] p1) (envF F fI L))
      standAt p2.atName
      let (f, first) ← holding [ov] (getMethod ov "__init__" pl)
      callWith p3 f first (backTo p3 (starEach [e] (envF F fI L))) []))
    (hin : ∀ L, interactive (envF F fI L) = false) (hsw : ∀ L, swapsWith (.Call (.Attribute (.Call (.Name "super" p0) [] [] p1) "__init__" p2) [e] [] p3) none p4.line (envF F fI L) = pure false)
    (hbody : ∀ (A : Around) (outer : List Env) (s : Shared) (H : Hp) (vs : List V) (Q : VK) (E : XK), Room k (A.deeper (envF F fI s.heap.objs.size)) → sp vs H Q E →
      ∃ (a : Addr) (te : TE) (tr : TS), (startF N vs [some (.ref C)])[0]? = some (some (.ref a)) ∧ H a = some (exo a C none) ∧ PE (ncx CX0 P w K mg base N F fI A outer s H E) e te ∧ PSs (ncx CX0 P w K mg base N F fI A outer s H E) rest tr ∧
        te (startF N vs [some (.ref C)]) H fun _ H1 => H1 a = some (exo a C none) ∧ tr { nx := fun _ H' => Q .non H', rt := Q } (startF N vs [some (.ref C)]) H1) :
    FnOk P w K mg base CX0 (k + 1) fI (F.fd doc pm ctv) ps sp := by
  refine ⟨len, fun A outer s H args us vs Q E hr e0 hbi r hsp => ?_⟩
  have KX : K.In s.heap := e0.mod.kin.keeps fun b o e => (e0.bs b o e).1
  have nT : ∀ b o, K.lookup b = some o → H b = none := fun b o e => (e0.bs b o (e0.mod.kin b o e)).2
  have lim : s.heap.NoLimit := e0.mod.nolimit.keeps fun b o e => (e0.bs b o e).1
  obtain ⟨cl, cld, csl, hcell⟩ := S.cell
  have hl := len _ _ _ _ hsp
  have ecl : ∀ y c, F.cl.lookup y = some c → y = "__class__" ∧ c = cc := fun y c e => by
    rw [S.cl] at e
    by_cases h : y = "__class__"
    · subst h
      exact ⟨rfl, (Option.some.inj e).symm⟩
    · have h2 : (y == ("__class__" : Str)) = false := by simpa using h
      simp [List.lookup, h2] at e
  have CA : CellsAt F.cl ["__class__"] [some (.ref C)] s.heap H := by
    refine ⟨rfl, fun y c e => ?_, fun x y c e1 e2 => (ecl x c e1).1.trans (ecl y c e2).1.symm, fun i y e => ?_⟩
    · obtain ⟨rfl, rfl⟩ := ecl y c e
      exact ⟨nT _ _ hcell, _, _, KX _ _ hcell, rfl⟩
    · have hi : i = 0 ∧ y = "__class__" := by
        cases i with
        | zero => exact ⟨rfl, (Option.some.inj e).symm⟩
        | succ n => simp at e
      obtain ⟨rfl, rfl⟩ := hi
      refine ⟨cc, by rw [S.cl]; rfl, fun v ev => ?_⟩
      obtain rfl : V.ref C = v := Option.some.inj (Option.some.inj ev)
      exact ⟨.ref C, rfl, _, KX _ _ hcell, rfl⟩
  refine PySem.ks_codeAny_call_defAt (body := F.body) hr.depth (KX _ _ lk) rfl lim (PySem.W.codeRec_of KX S.code) rfl hbi NS.nocell (fun ⟨n, _⟩ hy => NS.par n (List.of_mem_zip hy).1) (fun h₁ hns kp => ?_) NS.co NS.gen NS.kind
  have I : Inv (ncx CX0 P w K mg base N F fI A outer s H E) [] (startF N vs [some (.ref C)]) H { s with heap := h₁, toks := s.toks + (ps.zip us).length } := inv_startN NS hr.hd e0 (by rw [hl]) r CA hns kp
  obtain ⟨a, te, tr, h0, ha, he, hp, hq⟩ := hbody A outer s H vs Q E (hr.deeper _) hsp
  show _root_.PySem.wpAt _ (A.deeper (envF F fI s.heap.objs.size)) (.func F.body (envF F fI s.heap.objs.size)) (execs F.body (envF F fI s.heap.objs.size)) _ _ _
  rw [hbd]
  refine PySem.ks_wpAt_execs_cons ?_
  refine sup_stmt (X := ncx CX0 P w K mg base N F fI A outer s H E) (te := te) S I rfl ⟨oc, od, osl, doc, pm, ctv, lk⟩ hN h0 hv ha he (hst _) (hev _) (hin _) (hsw _) hq fun v H1 hw => ⟨hw.1, fun s' J => ?_⟩
  refine _root_.PySem.wpAt_of_wpAny (wpAny_mono (hp.run [] s' (startF N vs [some (.ref C)]) H1 _ J hw.2) (fun fl s2 hs => ?_) fun e s2 hs => hs)
  have fin : ∀ {σ' : L2.St} {H' : Hp} {v : V} {u : Value}, Inv (ncx CX0 P w K mg base N F fI A outer s H E) [] σ' H' s2 → L2.RelV v u → Q v H' → CE outer P w H s Q u s2 :=
    fun {σ' H' v u} J rv q => ⟨v, H', J.os, J.bare, J.base, J.hok, rv, q⟩
  cases fl with
  | ret u =>
    obtain ⟨v, σ', H', J, rv, q⟩ := hs
    exact fin J rv q
  | next =>
    obtain ⟨σ', H', J, q⟩ := hs
    exact fin (v := V.non) (u := Value.none) J rfl q
  | brk =>
    obtain ⟨_, _, _, q⟩ := hs
    exact False.elim q
  | cont =>
    obtain ⟨_, _, _, q⟩ := hs
    exact False.elim q
end
end Sv
set_option maxHeartbeats 1000000
namespace Sv
/-- a list of each number below its length once -/
def Eff (e : List Nat) : Prop := (∀ x ∈ e, x < e.length) ∧ e.Nodup
def ap (e : List Nat) (x : Nat) : Nat := e.getD x 0
def it (e : List Nat) : Nat → Nat → Nat
  | 0, x => x
  | k + 1, x => ap e (it e k x)
theorem ap_at {e : List Nat} {x : Nat} (h : x < e.length) : e[x]? = some (ap e x) := by
  unfold ap
  rw [List.getD_eq_getElem?_getD, List.getElem?_eq_getElem h]
  rfl
theorem ap_lt {e : List Nat} (E : Eff e) {x : Nat} (h : x < e.length) : ap e x < e.length := E.1 _ (List.mem_of_getElem? (ap_at h))
theorem ap_inj {e : List Nat} (E : Eff e) {x y : Nat} (hx : x < e.length) (hy : y < e.length) (q : ap e x = ap e y) : x = y := by
  have h1 := ap_at hx
  have h2 := ap_at hy
  rw [q, ← h2] at h1
  rw [List.getElem?_eq_getElem hx, List.getElem?_eq_getElem hy] at h1
  exact (List.getElem_inj E.2).mp (Option.some.inj h1)
theorem it_lt {e : List Nat} (E : Eff e) : ∀ {k x : Nat}, x < e.length → it e k x < e.length
  | 0, _, h => h
  | k + 1, _, h => ap_lt E (it_lt E h)
theorem it_add (e : List Nat) (a b x : Nat) : it e (a + b) x = it e a (it e b x) := by
  induction a with
  | zero =>
    rw [Nat.zero_add]
    rfl
  | succ a ih =>
    rw [Nat.succ_add]
    show ap e (it e (a + b) x) = ap e (it e a (it e b x))
    rw [ih]
theorem it_inj {e : List Nat} (E : Eff e) : ∀ {k x y : Nat}, x < e.length → y < e.length → it e k x = it e k y → x = y
  | 0, _, _, _, _, q => q
  | k + 1, _, _, hx, hy, q => it_inj (k := k) E hx hy (ap_inj E (it_lt E hx) (it_lt E hy) q)
theorem nat_sub_len : ∀ {l m : List Nat}, l.Nodup → (∀ x ∈ l, x ∈ m) → l.length ≤ m.length
  | [], _, _, _ => Nat.zero_le _
  | x :: r, m, nd, h => by
    have hx : x ∈ m := h x (List.mem_cons_self ..)
    have nr := (List.nodup_cons.mp nd)
    have ih := nat_sub_len (l := r) (m := m.erase x) nr.2 fun y hy => (List.mem_erase_of_ne (fun e => nr.1 (by rw [← e]; exact hy))).mpr (h y (List.mem_cons_of_mem _ hy))
    rw [List.length_erase_of_mem hx] at ih
    have := List.length_pos_of_mem hx
    show r.length + 1 ≤ m.length
    omega
theorem below_len {l : List Nat} {n : Nat} (nd : l.Nodup) (h : ∀ x ∈ l, x < n) : l.length ≤ n := by
  have q := nat_sub_len (m := List.range n) nd fun x hx => List.mem_range.mpr (h x hx)
  rwa [List.length_range] at q
theorem least {P : Nat → Prop} : (∃ k, P k) → ∃ k, P k ∧ ∀ j, j < k → ¬ P j := by
  intro ⟨k, hk⟩
  induction k using Nat.strongRecOn with
  | _ k ih =>
    by_cases h : ∃ j, j < k ∧ P j
    · obtain ⟨j, hj, pj⟩ := h
      exact ih j hj pj
    · exact ⟨k, hk, fun j hj pj => h ⟨j, hj, pj⟩⟩
theorem map_nodup {f : Nat → Nat} {n : Nat} (h : ∀ i j, i < j → j < n → f i ≠ f j) : ((List.range n).map f).Nodup := by
  refine List.pairwise_iff_getElem.mpr fun i j hi hj hij => ?_
  have hi' : i < n := by simpa using hi
  have hj' : j < n := by simpa using hj
  simp only [List.getElem_map, List.getElem_range]
  exact h i j hij hj'
theorem returns {e : List Nat} (E : Eff e) {s : Nat} (hs : s < e.length) : ∃ k, 1 ≤ k ∧ k ≤ e.length ∧ it e k s = s := by
  by_cases h : ∃ i j, i < j ∧ j < e.length + 1 ∧ it e i s = it e j s
  · obtain ⟨i, j, hij, hj, q⟩ := h
    refine ⟨j - i, by omega, by omega, ?_⟩
    have e1 : it e j s = it e i (it e (j - i) s) := by
      rw [← it_add]
      congr 1
      omega
    rw [e1] at q
    exact (it_inj (k := i) E hs (it_lt E hs) q).symm
  · have nd := map_nodup (f := fun k => it e k s) (n := e.length + 1) fun i j hij hj q => h ⟨i, j, hij, hj, q⟩
    have hl := below_len nd (n := e.length) fun x hx => by
      obtain ⟨k, _, rfl⟩ := List.mem_map.mp hx
      exact it_lt E hs
    simp at hl
    omega
/-- the period of a place -/
noncomputable def per (e : List Nat) (s : Nat) : Nat := open Classical in if h : ∃ k, (1 ≤ k ∧ it e k s = s) then Classical.choose (least h) else 1
theorem per_spec {e : List Nat} (E : Eff e) {s : Nat} (hs : s < e.length) : 1 ≤ per e s ∧ it e (per e s) s = s ∧ (∀ j, 1 ≤ j → j < per e s → it e j s ≠ s) ∧ per e s ≤ e.length := by
  obtain ⟨k, h1, h2, h3⟩ := returns E hs
  have h : ∃ k, (1 ≤ k ∧ it e k s = s) := ⟨k, h1, h3⟩
  have q := Classical.choose_spec (least h)
  have ep : per e s = Classical.choose (least h) := by
    unfold per
    rw [dif_pos h]
  rw [ep]
  refine ⟨q.1.1, q.1.2, fun j a b c => q.2 j b ⟨a, c⟩, ?_⟩
  refine Nat.le_trans ?_ h2
  by_cases hk : Classical.choose (least h) ≤ k
  · exact hk
  · exact absurd ⟨h1, h3⟩ (q.2 k (by omega))
theorem per_pos {e : List Nat} (E : Eff e) {s : Nat} (hs : s < e.length) : 0 < per e s := (per_spec E hs).1
theorem it_mul {e : List Nat} {s p : Nat} (h : it e p s = s) : ∀ m : Nat, it e (m * p) s = s
  | 0 => by rw [Nat.zero_mul]; rfl
  | m + 1 => by
    rw [Nat.succ_mul, it_add, h]
    exact it_mul h m
theorem it_mod {e : List Nat} (E : Eff e) {s : Nat} (hs : s < e.length) (k : Nat) : it e k s = it e (k % per e s) s := by
  have h := Nat.div_add_mod k (per e s)
  have e1 : it e k s = it e (k % per e s + (k / per e s) * per e s) s := by
    congr 1
    rw [Nat.mul_comm (k / per e s)]
    omega
  rw [e1, it_add, it_mul (per_spec E hs).2.1]
theorem per_it {e : List Nat} (E : Eff e) {s : Nat} (hs : s < e.length) (j : Nat) : per e (it e j s) = per e s := by
  have key : ∀ k, it e k (it e j s) = it e j s ↔ it e k s = s := fun k => by
    constructor
    · intro h
      rw [← it_add, Nat.add_comm, it_add] at h
      exact it_inj (k := j) E (it_lt E hs) hs h
    · intro h
      rw [← it_add, Nat.add_comm, it_add, h]
  have h1 := per_spec E hs
  have h2 := per_spec E (it_lt E hs : it e j s < e.length)
  refine Nat.le_antisymm ?_ ?_
  · by_cases h : per e (it e j s) ≤ per e s
    · exact h
    · exact absurd ((key _).mpr h1.2.1) (h2.2.2.1 _ h1.1 (by omega))
  · by_cases h : per e s ≤ per e (it e j s)
    · exact h
    · exact absurd ((key _).mp h2.2.1) (h1.2.2.1 _ h2.1 (by omega))
/-- a place, so many times on (or back) -/
noncomputable def rp (e : List Nat) (c : Int) (p : Nat) : Nat := it e (c % (per e p : Int)).toNat p
theorem rp_lt {e : List Nat} (E : Eff e) {c : Int} {p : Nat} (hp : p < e.length) : rp e c p < e.length := it_lt E hp
theorem rp_nat {e : List Nat} (E : Eff e) (k : Nat) {p : Nat} (hp : p < e.length) : rp e (k : Int) p = it e k p := by
  unfold rp
  rw [it_mod E hp k]
  congr 1
theorem rp_add {e : List Nat} (E : Eff e) (a b : Int) {p : Nat} (hp : p < e.length) : rp e b (rp e a p) = rp e (a + b) p := by
  have hpos : (0 : Int) < (per e p : Int) := by
    have := per_pos E hp
    omega
  unfold rp
  rw [per_it E hp, ← it_add, it_mod E hp]
  congr 1
  have h1 := Int.emod_nonneg a (Int.ne_of_gt hpos)
  have h2 := Int.emod_nonneg b (Int.ne_of_gt hpos)
  have h3 := Int.emod_nonneg (a + b) (Int.ne_of_gt hpos)
  have e1 : (((b % (per e p : Int)).toNat + (a % (per e p : Int)).toNat : Nat) : Int) % (per e p : Int) = (a + b) % (per e p : Int) := by
    rw [Int.natCast_add, Int.toNat_of_nonneg h1, Int.toNat_of_nonneg h2, ← Int.add_emod, Int.add_comm]
  rw [← Int.natCast_emod] at e1
  omega
theorem rp_zero {e : List Nat} (p : Nat) : rp e 0 p = p := by
  unfold rp
  rw [Int.zero_emod]
  rfl
theorem rp_inj {e : List Nat} (E : Eff e) {c : Int} {p q : Nat} (hp : p < e.length) (hq : q < e.length) (h : rp e c p = rp e c q) : p = q := by
  have h1 := congrArg (rp e (-c)) h
  rw [rp_add E _ _ hp, rp_add E _ _ hq] at h1
  have e0 : c + -c = 0 := by omega
  rwa [e0, rp_zero, rp_zero] at h1
/-- the effect, so many times -/
noncomputable def rep (e : List Nat) (c : Int) : List Nat := (List.range e.length).map (rp e c)
theorem rep_len (e : List Nat) (c : Int) : (rep e c).length = e.length := by unfold rep; simp
theorem rep_ap {e : List Nat} {c : Int} {p : Nat} (hp : p < e.length) : ap (rep e c) p = rp e c p := by
  unfold rep ap
  rw [List.getD_eq_getElem?_getD, List.getElem?_map, List.getElem?_range hp]
  rfl
theorem map_eff {n : Nat} {f : Nat → Nat} (h1 : ∀ p, p < n → f p < n) (h2 : ∀ p q, p < n → q < n → f p = f q → p = q) : Eff ((List.range n).map f) := by
  refine ⟨fun x hx => ?_, map_nodup fun i j hij hj q => ?_⟩
  · obtain ⟨p, hp, rfl⟩ := List.mem_map.mp hx
    rw [List.length_map, List.length_range]
    exact h1 p (List.mem_range.mp hp)
  · have := h2 i j (by omega) hj q
    omega
theorem rep_eff {e : List Nat} (E : Eff e) (c : Int) : Eff (rep e c) := map_eff (fun p hp => rp_lt E hp) fun p q hp hq h => rp_inj E hp hq h
/-- two lists of one length are one if they are so at each place -/
theorem ext_ap {a b : List Nat} (hl : a.length = b.length) (h : ∀ p, p < a.length → ap a p = ap b p) : a = b := by
  refine List.ext_getElem? fun i => ?_
  by_cases hi : i < a.length
  · rw [ap_at hi, ap_at (by omega), h i hi]
  · rw [List.getElem?_eq_none (by omega), List.getElem?_eq_none (by omega)]
def comp (a b : List Nat) : List Nat := a.map (ap b)
theorem comp_len (a b : List Nat) : (comp a b).length = a.length := by unfold comp; simp
theorem comp_ap {a b : List Nat} {p : Nat} (hp : p < a.length) : ap (comp a b) p = ap b (ap a p) := by
  unfold comp
  have h : (a.map (ap b))[p]? = some (ap b (ap a p)) := by rw [List.getElem?_map, ap_at hp]; rfl
  rw [ap_at (by simpa using hp)] at h
  exact Option.some.inj h
theorem comp_eff {a b : List Nat} (A : Eff a) (B : Eff b) (hl : a.length = b.length) : Eff (comp a b) := by
  refine ⟨fun x hx => ?_, ?_⟩
  · obtain ⟨y, hy, rfl⟩ := List.mem_map.mp hx
    rw [comp_len, hl]
    exact ap_lt B (by rw [← hl]; exact A.1 y hy)
  · unfold comp
    refine List.pairwise_iff_getElem.mpr fun i j hi hj hij q => ?_
    simp only [List.getElem_map] at q
    simp at hi hj
    have q2 := ap_inj B (by rw [← hl]; exact A.1 _ (List.getElem_mem hi)) (by rw [← hl]; exact A.1 _ (List.getElem_mem hj)) q
    exact absurd ((List.getElem_inj A.2).mp q2) (by omega)
theorem comp_assoc {a b c : List Nat} (A : Eff a) (hl : a.length = b.length) : comp (comp a b) c = comp a (comp b c) := by
  refine ext_ap (by simp [comp_len]) fun p hp => ?_
  rw [comp_len, comp_len] at hp
  rw [comp_ap (by rw [comp_len]; exact hp), comp_ap hp, comp_ap hp, comp_ap (by rw [← hl]; exact ap_lt A hp)]
theorem rep_comp {e : List Nat} (E : Eff e) (a b : Int) : comp (rep e a) (rep e b) = rep e (a + b) := by
  refine ext_ap (by simp [comp_len, rep_len]) fun p hp => ?_
  rw [comp_len, rep_len] at hp
  rw [comp_ap (by rw [rep_len]; exact hp), rep_ap hp, rep_ap (rp_lt E hp), rep_ap hp, rp_add E _ _ hp]
theorem rep_one {e : List Nat} (E : Eff e) : rep e 1 = e := by
  refine ext_ap (rep_len e 1) fun p hp => ?_
  rw [rep_len] at hp
  rw [rep_ap hp]
  exact rp_nat E 1 hp
theorem rep_zero (e : List Nat) : rep e 0 = List.range e.length := by
  unfold rep
  rw [show (List.range e.length).map (rp e 0) = (List.range e.length).map id from List.map_congr_left fun p _ => rp_zero p]
  exact List.map_id _
/-- the inverse, as the program makes it: step by step -/
def invF (e : List Nat) : Nat → List Nat
  | 0 => List.replicate e.length 0
  | k + 1 => (invF e k).set (ap e k) k
theorem invF_len (e : List Nat) : ∀ k, (invF e k).length = e.length
  | 0 => List.length_replicate
  | k + 1 => by
    show ((invF e k).set _ _).length = _
    rw [List.length_set, invF_len e k]
theorem invF_at {e : List Nat} (E : Eff e) : ∀ (k : Nat), k ≤ e.length → ∀ i, i < k → ap (invF e k) (ap e i) = i
  | 0, _, i, hi => by omega
  | k + 1, hk, i, hi => by
    have hlen := invF_len e k
    show ap ((invF e k).set (ap e k) k) (ap e i) = i
    have hik : ap e i < (invF e k).length := by
      rw [hlen]
      exact ap_lt E (by omega)
    by_cases h : i = k
    · subst h
      unfold ap at *
      rw [List.getD_eq_getElem?_getD, List.getElem?_set_self hik]
      rfl
    · have ne : ap e k ≠ ap e i := fun q => h (ap_inj E (by omega) (by omega) q).symm
      have ih := invF_at E k (by omega) i (by omega)
      unfold ap at *
      rw [List.getD_eq_getElem?_getD, List.getElem?_set_ne ne, ← List.getD_eq_getElem?_getD]
      exact ih
def inv (e : List Nat) : List Nat := invF e e.length
theorem inv_len (e : List Nat) : (inv e).length = e.length := invF_len e _
theorem inv_ap {e : List Nat} (E : Eff e) {i : Nat} (hi : i < e.length) : ap (inv e) (ap e i) = i := invF_at E _ (Nat.le_refl _) i hi
/-- the inverse of a repetition -/
theorem inv_rep {e : List Nat} (E : Eff e) (c : Int) : inv (rep e c) = rep e (-c) := by
  refine ext_ap (by rw [inv_len, rep_len, rep_len]) fun q hq => ?_
  rw [inv_len, rep_len] at hq
  have h1 : rp e c (rp e (-c) q) = q := by
    rw [rp_add E _ _ hq, show -c + c = 0 by omega, rp_zero]
  have h2 := inv_ap (rep_eff E c) (i := rp e (-c) q) (by rw [rep_len]; exact rp_lt E hq)
  rw [rep_ap (rp_lt E hq), h1] at h2
  rw [h2, rep_ap hq]
theorem inv_eq {e : List Nat} (E : Eff e) : inv e = rep e (-1) := by
  have h := inv_rep E 1
  rwa [rep_one E] at h
theorem inv_eff {e : List Nat} (E : Eff e) : Eff (inv e) := by
  rw [inv_eq E]
  exact rep_eff E _
theorem inv_inv {e : List Nat} (E : Eff e) : inv (inv e) = e := by
  rw [inv_eq E, inv_rep E, show (- -1 : Int) = 1 by decide, rep_one E]
theorem rep_succ {e : List Nat} (E : Eff e) (k : Nat) : comp (rep e (k : Int)) e = rep e ((k + 1 : Nat) : Int) := by
  have h := rep_comp E (k : Int) 1
  rw [rep_one E] at h
  rw [h]
  rfl
end Sv
set_option maxHeartbeats 1000000
namespace Sv
open PySem
abbrev Ro := List (Option Int)
/-- the first that p does not hold of -/
def fst {α : Type} (p : α → Bool) : List α → Nat → Option Nat
  | [], _ => none
  | x :: r, i => if p x = true then fst p r (i + 1) else some i
theorem fst_some {α : Type} {p : α → Bool} : ∀ {l : List α} {i k : Nat} {x : α}, (∀ (j : Nat) (y : α), j < i → l[j]? = some y → p y = true) → l[i]? = some x → p x = false → fst p l k = some (i + k)
  | [], i, k, x, _, h, _ => by simp at h
  | y :: l, 0, k, x, _, h, hp => by
    obtain rfl := Option.some.inj h
    unfold fst
    rw [hp]
    simp
  | y :: l, i + 1, k, x, hb, h, hp => by
    unfold fst
    rw [hb 0 y (by omega) rfl, if_pos rfl, fst_some (l := l) (i := i) (k := k + 1) (fun j z hj hz => hb (j + 1) z (by omega) (by simpa using hz)) (by simpa using h) hp]
    congr 1
    omega
theorem fst_none {α : Type} {p : α → Bool} : ∀ {l : List α} {k : Nat}, (∀ (j : Nat) (y : α), l[j]? = some y → p y = true) → fst p l k = none
  | [], _, _ => rfl
  | y :: l, k, h => by
    unfold fst
    rw [h 0 y rfl, if_pos rfl]
    exact fst_none fun j z hz => h (j + 1) z (by simpa using hz)
theorem fst_all {α : Type} {p : α → Bool} : ∀ {l : List α} {k : Nat}, fst p l k = none → ∀ y ∈ l, p y = true
  | [], _, _, y, hy => by simp at hy
  | x :: l, k, h, y, hy => by
    unfold fst at h
    split at h
    · rename_i hx
      rcases List.mem_cons.mp hy with rfl | hy
      · exact hx
      · exact fst_all h y hy
    · cases h
def okZ (z : Int) : Bool := decide (0 ≤ z ∧ z ≤ 9)
def okE (n : Int) : Option Int → Bool
  | none => true
  | some i => decide (0 ≤ i ∧ i ≤ n - 1)
def okR (n : Int) (r : Ro) : Bool := decide (1 ≤ r.length ∧ r.length ≤ 6) && r.all (okE n)
def badS (zs : List Int) : Option Int := if 1 ≤ zs.length ∧ zs.length ≤ 12 then (fst okZ zs 0).map fun (k : Nat) => (k : Int) else some (-1)
def badR (n : Int) (rs : List Ro) : Option Int := if 1 ≤ rs.length ∧ rs.length ≤ 6 then (fst (okR n) rs 0).map fun (k : Nat) => (k : Int) else some (-1)
/-- what is wrong with a plan -/
def bad (zs : List Int) (rs : List Ro) : Option (Str × Int) := match badS zs with
  | some i => some ("sizes", i)
  | none => (badR zs.length rs).map fun i => ("routes", i)
def Small (zs : List Int) (rs : List Ro) : Prop := zs.length ≤ 1000 ∧ rs.length ≤ 1000 ∧ ∀ r ∈ rs, r.length ≤ 1000
/-- the entry of a route at a time -/
def ent (r : Ro) (m : Int) : Option Int := r.getD (m % (r.length : Int)).toNat none
theorem ent_get {r : Ro} (h : r ≠ []) (m : Int) : r[(m % (r.length : Int)).toNat]? = some (ent r m) ∧ m % (r.length : Int) = ((m % (r.length : Int)).toNat : Int) := by
  have hl : 0 < r.length := List.length_pos_iff.mpr h
  have h0 := Int.emod_nonneg m (by omega : (r.length : Int) ≠ 0)
  have h1 := Int.emod_lt_of_pos m (by omega : (0 : Int) < (r.length : Int))
  have e := Int.toNat_of_nonneg h0
  refine ⟨?_, e.symm⟩
  have hlt : (m % (r.length : Int)).toNat < r.length := by omega
  unfold ent
  rw [List.getD_eq_getElem?_getD, List.getElem?_eq_getElem hlt]
  rfl
def rot {α : Type} (r : List α) (s : Nat) : List α := r.drop s ++ r.take s
theorem rot_full {α : Type} (r : List α) : rot r r.length = r := by
  unfold rot
  rw [List.drop_of_length_le (Nat.le_refl _), List.take_of_length_le (Nat.le_refl _), List.nil_append]
theorem leastN {P : Nat → Prop} : (∃ k, P k) → ∃ k, P k ∧ ∀ j, j < k → ¬ P j := by
  rintro ⟨k, hk⟩
  induction k using Nat.strongRecOn with
  | _ k ih =>
    by_cases h : ∃ j, j < k ∧ P j
    · obtain ⟨j, hj, hp⟩ := h
      exact ih j hj hp
    · exact ⟨k, hk, fun j hj hp => h ⟨j, hj, hp⟩⟩
open Classical in
/-- the least number of steps that leaves a list as it is -/
noncomputable def rtp {α : Type} (r : List α) : Nat := if h : ∃ k, 1 ≤ k ∧ rot r k = r then Classical.choose (leastN h) else 0
theorem rtp_spec {α : Type} {r : List α} (h : r ≠ []) : 1 ≤ rtp r ∧ rot r (rtp r) = r ∧ (∀ j, 1 ≤ j → j < rtp r → rot r j ≠ r) ∧ rtp r ≤ r.length := by
  have hl : 1 ≤ r.length := List.length_pos_iff.mpr h
  have ex : ∃ k, 1 ≤ k ∧ rot r k = r := ⟨r.length, hl, rot_full r⟩
  have e : rtp r = Classical.choose (leastN ex) := by
    unfold rtp
    rw [dif_pos ex]
  have sp := Classical.choose_spec (leastN ex)
  rw [← e] at sp
  refine ⟨sp.1.1, sp.1.2, fun j h1 h2 z => sp.2 j h2 ⟨h1, z⟩, ?_⟩
  by_cases hh : rtp r ≤ r.length
  · exact hh
  · exact absurd ⟨hl, rot_full r⟩ (sp.2 r.length (by omega))
structure Good (zs : List Int) (rs : List Ro) : Prop where
  z1 : 1 ≤ zs.length ∧ zs.length ≤ 12
  z2 : ∀ z ∈ zs, 0 ≤ z ∧ z ≤ 9
  r1 : 1 ≤ rs.length ∧ rs.length ≤ 6
  r2 : ∀ r ∈ rs, 1 ≤ r.length ∧ r.length ≤ 6
theorem good_of {zs : List Int} {rs : List Ro} (h : bad zs rs = none) : Good zs rs := by
  unfold bad at h
  cases hb : badS zs with
  | some i => rw [hb] at h; cases h
  | none =>
    rw [hb] at h
    simp only [Option.map_eq_none_iff] at h
    unfold badS at hb
    unfold badR at h
    split at hb
    · split at h
      · rename_i c1 c2
        rw [Option.map_eq_none_iff] at hb h
        refine ⟨c1, fun z hz => of_decide_eq_true (fst_all hb z hz), c2, fun r hr => ?_⟩
        have := fst_all h r hr
        unfold okR at this
        rw [Bool.and_eq_true] at this
        exact of_decide_eq_true this.1
      · cases h
    · cases hb
theorem Good.ne {zs : List Int} {rs : List Ro} (g : Good zs rs) : ∀ r ∈ rs, r ≠ [] ∧ r.length ≤ 1000 := fun r hr => by
  have := g.r2 r hr
  exact ⟨fun z => by rw [z] at this; simp at this, by omega⟩
noncomputable def lc (rs : List Ro) : Nat := rs.foldl (fun m r => Nat.lcm m (rtp r)) 1
theorem lc_snoc (rs : List Ro) (r : Ro) : lc (rs ++ [r]) = Nat.lcm (lc rs) (rtp r) := by
  unfold lc
  rw [List.foldl_append]
  rfl
theorem dvd60 {k : Nat} (h1 : 1 ≤ k) (h2 : k ≤ 6) : k ∣ 60 := by
  have : k = 1 ∨ k = 2 ∨ k = 3 ∨ k = 4 ∨ k = 5 ∨ k = 6 := by omega
  rcases this with rfl | rfl | rfl | rfl | rfl | rfl <;> decide
theorem rtp_dvd60 {r : Ro} (h : 1 ≤ r.length ∧ r.length ≤ 6) : rtp r ∣ 60 := by
  obtain ⟨a, _, _, d⟩ := rtp_spec (r := r) (fun z => by rw [z] at h; simp at h)
  exact dvd60 a (by omega)
theorem fold_dvd60 : ∀ {rs : List Ro} {m : Nat}, m ∣ 60 → (∀ r ∈ rs, 1 ≤ r.length ∧ r.length ≤ 6) → rs.foldl (fun m r => Nat.lcm m (rtp r)) m ∣ 60
  | [], m, hm, _ => hm
  | r :: rs, m, hm, h => fold_dvd60 (rs := rs) (m := Nat.lcm m (rtp r)) (Nat.lcm_dvd hm (rtp_dvd60 (h r (List.mem_cons_self ..)))) fun x hx => h x (List.mem_cons_of_mem _ hx)
theorem lc_dvd60 {rs : List Ro} (h : ∀ r ∈ rs, 1 ≤ r.length ∧ r.length ≤ 6) : lc rs ∣ 60 := fold_dvd60 (by decide) h
theorem lc_le {rs : List Ro} (h : ∀ r ∈ rs, 1 ≤ r.length ∧ r.length ≤ 6) : 1 ≤ lc rs ∧ lc rs ≤ 60 := by
  have d := lc_dvd60 h
  refine ⟨Nat.pos_of_ne_zero fun z => ?_, Nat.le_of_dvd (by decide) d⟩
  rw [z] at d
  have := Nat.eq_zero_of_zero_dvd d
  omega
theorem fold_ge : ∀ {rs : List Ro} {m d : Nat}, (m ∣ d ∧ ∀ r ∈ rs, rtp r ∣ d) ↔ rs.foldl (fun m r => Nat.lcm m (rtp r)) m ∣ d
  | [], m, d => by simp
  | r :: rs, m, d => by
    rw [List.foldl_cons, ← fold_ge (rs := rs), List.forall_mem_cons]
    constructor
    · rintro ⟨h1, h2, h3⟩
      exact ⟨Nat.lcm_dvd h1 h2, h3⟩
    · rintro ⟨h1, h3⟩
      exact ⟨Nat.dvd_trans (Nat.dvd_lcm_left _ _) h1, Nat.dvd_trans (Nat.dvd_lcm_right _ _) h1, h3⟩
theorem lc_dvd {rs : List Ro} {d : Nat} : lc rs ∣ d ↔ ∀ r ∈ rs, rtp r ∣ d := by
  unfold lc
  rw [← fold_ge]
  exact ⟨fun h => h.2, fun h => ⟨Nat.one_dvd _, h⟩⟩
theorem rotr_at {α : Type} {r : List α} {k j : Nat} (hk : k ≤ r.length) (hj : j < r.length) : (rot r k)[j]? = r[(j + k) % r.length]? := by
  unfold rot
  by_cases h : j < r.length - k
  · rw [List.getElem?_append_left (by rw [List.length_drop]; exact h), List.getElem?_drop, Nat.mod_eq_of_lt (by omega), Nat.add_comm]
  · rw [List.getElem?_append_right (by rw [List.length_drop]; omega), List.length_drop, List.getElem?_take_of_lt (by omega)]
    congr 1
    rw [show j + k = (j - (r.length - k)) + r.length by omega, Nat.add_mod_right, Nat.mod_eq_of_lt (by omega)]
theorem rot_iff {α : Type} {r : List α} {k : Nat} (hk : k ≤ r.length) : rot r k = r ↔ ∀ j, j < r.length → r[(j + k) % r.length]? = r[j]? := by
  refine ⟨fun h j hj => ?_, fun h => List.ext_getElem? fun j => ?_⟩
  · rw [← rotr_at hk hj, h]
  · by_cases hj : j < r.length
    · rw [rotr_at hk hj, h j hj]
    · have : (rot r k).length = r.length := by unfold rot; rw [List.length_append, List.length_drop, List.length_take]; omega
      rw [List.getElem?_eq_none (by omega), List.getElem?_eq_none (by omega)]
def entN (r : Ro) (i : Nat) : Option Int := r.getD (i % r.length) none
theorem ent_nat (r : Ro) (i : Nat) : ent r (i : Int) = entN r i := by
  unfold ent entN
  rw [← Int.natCast_emod, Int.toNat_natCast]
theorem entN_at {r : Ro} (h : r ≠ []) (i : Nat) : r[i % r.length]? = some (entN r i) := by
  have hl : 0 < r.length := List.length_pos_iff.mpr h
  unfold entN
  rw [List.getD_eq_getElem?_getD, List.getElem?_eq_getElem (Nat.mod_lt _ hl)]
  rfl
theorem rotN {r : Ro} {k : Nat} (h : r ≠ []) (hk : k ≤ r.length) : rot r k = r ↔ ∀ i, entN r (i + k) = entN r i := by
  have hl : 0 < r.length := List.length_pos_iff.mpr h
  rw [rot_iff hk]
  refine ⟨fun q i => ?_, fun q j hj => ?_⟩
  · have := q (i % r.length) (Nat.mod_lt _ hl)
    rw [entN_at h] at this
    have e2 : r[i % r.length]? = some (entN r i) := entN_at h i
    rw [e2] at this
    have e3 := Option.some.inj this
    rw [← e3]
    unfold entN
    rw [Nat.mod_add_mod]
  · have := q j
    rw [entN_at h, this]
    have e2 := entN_at h j
    rw [Nat.mod_eq_of_lt hj] at e2
    exact e2.symm
theorem per_dvd {r : Ro} (h : r ≠ []) (L : Nat) : (∀ i, entN r (i + L) = entN r i) ↔ rtp r ∣ L := by
  obtain ⟨p1, p2, p3, p4⟩ := rtp_spec h
  have hp := (rotN h p4).mp p2
  have mul : ∀ q i, entN r (i + rtp r * q) = entN r i := by
    intro q
    induction q with
    | zero => intro i; rw [Nat.mul_zero, Nat.add_zero]
    | succ q ih => intro i; rw [Nat.mul_succ, ← Nat.add_assoc, hp, ih]
  refine ⟨fun q => ?_, fun ⟨c, hc⟩ i => by rw [hc, mul]⟩
  by_cases hs : L % rtp r = 0
  · exact Nat.dvd_of_mod_eq_zero hs
  · exfalso
    have hlt : L % rtp r < rtp r := Nat.mod_lt _ (by omega)
    refine p3 (L % rtp r) (by omega) hlt ((rotN h (by omega)).mpr fun i => ?_)
    have e : i + L = (i + L % rtp r) + rtp r * (L / rtp r) := by
      have := Nat.mod_add_div L (rtp r)
      omega
    rw [← q i, e, mul]
/-- the pairs of a tick -/
def prs (rs : List Ro) (m : Int) : Nat → List (Nat × Int)
  | 0 => []
  | k + 1 => prs rs m k ++ (match rs[k]? with | some r => (match ent r m with | some z => [(k, z)] | none => []) | none => [])
theorem prs_lt (rs : List Ro) (m : Int) : ∀ k, ∀ p ∈ prs rs m k, p.1 < k
  | 0, p, h => by cases h
  | k + 1, p, h => by
    unfold prs at h
    rcases List.mem_append.mp h with h | h
    · have := prs_lt rs m k p h
      omega
    · cases hk : rs[k]? with
      | none => rw [hk] at h; cases h
      | some r =>
        rw [hk] at h
        simp only at h
        cases he : ent r m with
        | none => rw [he] at h; cases h
        | some z =>
          rw [he] at h
          rw [List.mem_singleton.mp h]
          exact Nat.lt_succ_self k
theorem look_none {l : List (Nat × Int)} {k : Nat} (h : ∀ p ∈ l, p.1 < k) : l.lookup k = none := by
  induction l with
  | nil => rfl
  | cons p l ih =>
    have h1 := h p (List.mem_cons_self ..)
    obtain ⟨a, b⟩ := p
    rw [List.lookup_cons, ih fun q hq => h q (List.mem_cons_of_mem _ hq)]
    have : (k == a) = false := by simp only [beq_eq_false_iff_ne]; simp at h1; omega
    rw [this]
theorem prs_look (rs : List Ro) (m : Int) : ∀ K k r, k < K → rs[k]? = some r → (prs rs m K).lookup k = ent r m
  | K + 1, k, r, hk, hr => by
    unfold prs
    rw [List.lookup_append]
    by_cases e : k = K
    · subst e
      rw [look_none (prs_lt rs m k), hr]
      simp only [Option.none_or]
      cases ent r m with
      | none => rfl
      | some z => simp [List.lookup]
    · rw [prs_look rs m K k r (by omega) hr]
      have e2 : (match rs[K]? with | some r => (match ent r m with | some z => [(K, z)] | none => []) | none => [] : List (Nat × Int)).lookup k = none := by
        have hb : (k == K) = false := by simpa using e
        cases rs[K]? with
        | none => rfl
        | some r2 =>
          simp only
          cases ent r2 m with
          | none => rfl
          | some z => simp [List.lookup, hb]
      rw [e2, Option.or_none]
theorem prs_eq {rs : List Ro} {m m' : Int} : ∀ K, (∀ k r, k < K → rs[k]? = some r → ent r m = ent r m') → prs rs m K = prs rs m' K
  | 0, _ => rfl
  | K + 1, h => by
    unfold prs
    rw [prs_eq K fun k r hk hr => h k r (by omega) hr]
    cases hr : rs[K]? with
    | none => rfl
    | some r => simp only [h K r (by omega) hr]
theorem prs_iff {rs : List Ro} {m m' : Int} : prs rs m rs.length = prs rs m' rs.length ↔ ∀ r ∈ rs, ent r m = ent r m' := by
  refine ⟨fun h r hr => ?_, fun h => prs_eq _ fun k r _ hr => h r (List.mem_of_getElem? hr)⟩
  obtain ⟨k, hk, e⟩ := List.getElem_of_mem hr
  have e2 : rs[k]? = some r := by rw [List.getElem?_eq_getElem hk, e]
  rw [← prs_look rs m rs.length k r hk e2, ← prs_look rs m' rs.length k r hk e2, h]
end Sv
set_option maxHeartbeats 1000000
namespace Sv
def sumN (zs : List Int) : Nat := (zs.map Int.toNat).sum
theorem sum_int {zs : List Int} (h : ∀ z ∈ zs, 0 ≤ z) : zs.sum = (sumN zs : Nat) := by
  unfold sumN
  induction zs with
  | nil => rfl
  | cons z zs ih =>
    have h1 := h z (List.mem_cons_self ..)
    have h2 := ih fun x hx => h x (List.mem_cons_of_mem _ hx)
    simp only [List.sum_cons, List.map_cons]
    rw [h2]
    omega
def segs {α : Type} (cs : List α) : Nat → List Int → List (List α)
  | _, [] => []
  | st, z :: zs => (cs.drop st).take z.toNat :: segs cs (st + z.toNat) zs
theorem segs_len {α : Type} (cs : List α) : ∀ (st : Nat) (zs : List Int), (segs cs st zs).length = zs.length
  | _, [] => rfl
  | st, z :: zs => congrArg Nat.succ (segs_len cs _ zs)
theorem segs_flat {α : Type} (cs : List α) : ∀ (st : Nat) (zs : List Int), (segs cs st zs).flatten = (cs.drop st).take (sumN zs)
  | st, [] => by
    show [] = (cs.drop st).take 0
    rw [List.take_zero]
  | st, z :: zs => by
    show (cs.drop st).take z.toNat ++ (segs cs (st + z.toNat) zs).flatten = (cs.drop st).take (sumN (z :: zs))
    rw [segs_flat cs _ zs]
    have e : sumN (z :: zs) = z.toNat + sumN zs := by unfold sumN; rw [List.map_cons, List.sum_cons]
    rw [e, List.take_add, List.drop_drop]
theorem segs_snoc {α : Type} (cs : List α) : ∀ (st : Nat) (zs : List Int) (z : Int), segs cs st (zs ++ [z]) = segs cs st zs ++ [(cs.drop (st + sumN zs)).take z.toNat]
  | st, [], z => by
    show [(cs.drop st).take z.toNat] = _
    rfl
  | st, y :: zs, z => by
    show (cs.drop st).take y.toNat :: segs cs (st + y.toNat) (zs ++ [z]) = _
    rw [segs_snoc cs _ zs z]
    have e : sumN (y :: zs) = y.toNat + sumN zs := by unfold sumN; rw [List.map_cons, List.sum_cons]
    rw [e, ← Nat.add_assoc]
    rfl
theorem sumN_snoc (zs : List Int) (z : Int) : sumN (zs ++ [z]) = sumN zs + z.toNat := by unfold sumN; simp
theorem segs_lens {α : Type} (cs : List α) : ∀ (st : Nat) (zs : List Int), st + sumN zs ≤ cs.length → (segs cs st zs).map List.length = zs.map Int.toNat
  | _, [], _ => rfl
  | st, z :: zs, h => by
    have e : sumN (z :: zs) = z.toNat + sumN zs := by unfold sumN; rw [List.map_cons, List.sum_cons]
    rw [e] at h
    show ((cs.drop st).take z.toNat).length :: (segs cs (st + z.toNat) zs).map List.length = _
    rw [segs_lens cs _ zs (by omega), List.length_take, List.length_drop, List.map_cons]
    congr 1
    omega
abbrev Lay (α : Type) := List α × List (List α)
def join {α : Type} (L : Lay α) : List α := L.1 ++ L.2.flatten
def mapL {α β : Type} (f : α → β) (L : Lay α) : Lay β := (L.1.map f, L.2.map (List.map f))
theorem join_map {α β : Type} (f : α → β) (L : Lay α) : join (mapL f L) = (join L).map f := by
  unfold join mapL
  rw [List.map_append, List.map_flatten]
/-- a carrier at a shelf -/
def step1 {α : Type} (L : Lay α) (p : Nat × Nat) : Lay α := match L.1[p.1]?, L.2[p.2]? with
  | some x, some row => (L.1.set p.1 (row.headD x), L.2.set p.2 (row ++ [x]).tail)
  | _, _ => L
def steps {α : Type} (ps : List (Nat × Nat)) (L : Lay α) : Lay α := ps.foldl step1 L
theorem steps_snoc {α : Type} (ps : List (Nat × Nat)) (p : Nat × Nat) (L : Lay α) : steps (ps ++ [p]) L = step1 (steps ps L) p := by
  unfold steps
  rw [List.foldl_append]
  rfl
theorem step1_map {α β : Type} (f : α → β) (L : Lay α) (p : Nat × Nat) : step1 (mapL f L) p = mapL f (step1 L p) := by
  unfold step1 mapL
  simp only [List.getElem?_map]
  cases L.1[p.1]? with
  | none => rfl
  | some x =>
    cases L.2[p.2]? with
    | none => rfl
    | some row =>
      simp only [Option.map_some, List.map_set]
      refine Prod.ext ?_ ?_
      · simp only
        congr 1
        cases row <;> rfl
      · simp only
        congr 1
        rw [List.map_tail, List.map_append]
        rfl
theorem steps_map {α β : Type} (f : α → β) : ∀ (ps : List (Nat × Nat)) (L : Lay α), steps ps (mapL f L) = mapL f (steps ps L)
  | [], _ => rfl
  | p :: ps, L => by
    show steps ps (step1 (mapL f L) p) = mapL f (steps ps (step1 L p))
    rw [step1_map, steps_map f ps]
/-- so many carriers, so much on the shelves -/
def Fits {α : Type} (n : Nat) (zs : List Int) (L : Lay α) : Prop := L.1.length = n ∧ L.2.map List.length = zs.map Int.toNat
theorem step1_fits {α : Type} {n : Nat} {zs : List Int} {L : Lay α} (h : Fits n zs L) (p : Nat × Nat) : Fits n zs (step1 L p) := by
  unfold step1
  cases h1 : L.1[p.1]? with
  | none => exact h
  | some x =>
    cases h2 : L.2[p.2]? with
    | none => exact h
    | some row =>
      refine ⟨by simp only [List.length_set]; exact h.1, ?_⟩
      simp only
      rw [List.map_set, ← h.2]
      have e : ((row ++ [x]).tail).length = row.length := by simp
      rw [e]
      refine List.ext_getElem? fun i => ?_
      by_cases hi : p.2 = i
      · subst hi
        obtain ⟨hlt, hv⟩ := List.getElem?_eq_some_iff.mp h2
        rw [List.getElem?_set_self (by simpa using hlt), List.getElem?_map, h2]
        rfl
      · rw [List.getElem?_set_ne hi]
theorem steps_fits {α : Type} {n : Nat} {zs : List Int} : ∀ (ps : List (Nat × Nat)) {L : Lay α}, Fits n zs L → Fits n zs (steps ps L)
  | [], _, h => h
  | p :: ps, _, h => steps_fits ps (step1_fits h p)
theorem count_set {l : List Nat} {i x y : Nat} (h : l[i]? = some x) (a : Nat) : (l.set i y).count a + (if x = a then 1 else 0) = l.count a + (if y = a then 1 else 0) := by
  induction l generalizing i with
  | nil => cases h
  | cons z l ih =>
    cases i with
    | zero =>
      cases h
      simp only [List.set_cons_zero, List.count_cons, beq_iff_eq]
      omega
    | succ i =>
      have := ih (i := i) (by simpa using h)
      simp only [List.set_cons_succ, List.count_cons]
      omega
theorem count_flat_set {l : List (List Nat)} {i : Nat} {x y : List Nat} (h : l[i]? = some x) (a : Nat) : (l.set i y).flatten.count a + x.count a = l.flatten.count a + y.count a := by
  induction l generalizing i with
  | nil => cases h
  | cons z l ih =>
    cases i with
    | zero =>
      cases h
      simp only [List.set_cons_zero, List.flatten_cons, List.count_append]
      omega
    | succ i =>
      have := ih (i := i) (by simpa using h)
      simp only [List.set_cons_succ, List.flatten_cons, List.count_append]
      omega
theorem step1_perm (L : Lay Nat) (p : Nat × Nat) : (join (step1 L p)).Perm (join L) := by
  unfold step1
  cases h1 : L.1[p.1]? with
  | none => exact .refl _
  | some x =>
    cases h2 : L.2[p.2]? with
    | none => exact .refl _
    | some row =>
      refine List.perm_iff_count.mpr fun a => ?_
      unfold join
      simp only [List.count_append]
      have e1 := count_set (y := row.headD x) h1 a
      have e2 := count_flat_set (y := (row ++ [x]).tail) h2 a
      have e3 : (if row.headD x = a then 1 else 0) + ((row ++ [x]).tail).count a = row.count a + (if x = a then 1 else 0) := by
        cases row with
        | nil => simp
        | cons y row =>
          simp only [List.headD_cons, List.cons_append, List.tail_cons, List.count_append, List.count_cons, List.count_nil]
          by_cases q1 : y = a <;> by_cases q2 : x = a <;> simp [q1, q2] <;> omega
      omega
theorem steps_perm : ∀ (ps : List (Nat × Nat)) (L : Lay Nat), (join (steps ps L)).Perm (join L)
  | [], _ => .refl _
  | p :: ps, L => (steps_perm ps (step1 L p)).trans (step1_perm L p)
def spl {α : Type} (n : Nat) (zs : List Int) (cs : List α) : Lay α := (cs.take n, segs cs n zs)
theorem segs_map {α β : Type} (f : α → β) (cs : List α) : ∀ (st : Nat) (zs : List Int), segs (cs.map f) st zs = (segs cs st zs).map (List.map f)
  | _, [] => rfl
  | st, z :: zs => by
    show ((cs.map f).drop st).take z.toNat :: segs (cs.map f) (st + z.toNat) zs = ((cs.drop st).take z.toNat).map f :: (segs cs (st + z.toNat) zs).map (List.map f)
    rw [segs_map f cs, List.map_take, List.map_drop]
theorem spl_map {α β : Type} (f : α → β) (n : Nat) (zs : List Int) (cs : List α) : spl n zs (cs.map f) = mapL f (spl n zs cs) := by
  unfold spl mapL
  rw [segs_map, List.map_take]
theorem join_spl {α : Type} {n : Nat} {zs : List Int} {cs : List α} (h : cs.length = n + sumN zs) : join (spl n zs cs) = cs := by
  unfold join spl
  simp only
  rw [segs_flat, List.take_of_length_le (l := cs.drop n) (by rw [List.length_drop]; omega), List.take_append_drop]
theorem spl_fits {α : Type} {n : Nat} {zs : List Int} {cs : List α} (h : cs.length = n + sumN zs) : Fits n zs (spl n zs cs) := by
  refine ⟨?_, segs_lens cs n zs (by omega)⟩
  show (cs.take n).length = n
  rw [List.length_take]
  omega
theorem flat_len2 {α : Type} : ∀ {ss : List (List α)} {zs : List Int}, ss.map List.length = zs.map Int.toNat → ss.flatten.length = sumN zs
  | [], [], _ => rfl
  | [], _ :: _, h => by cases h
  | _ :: _, [], h => by cases h
  | s :: ss, z :: zs, h => by
    rw [List.map_cons, List.map_cons] at h
    injection h with h1 h2
    rw [List.flatten_cons, List.length_append, flat_len2 h2]
    unfold sumN
    rw [List.map_cons, List.sum_cons]
    omega
theorem join_len {α : Type} {n : Nat} {zs : List Int} {L : Lay α} (h : Fits n zs L) : (join L).length = n + sumN zs := by
  unfold join
  rw [List.length_append, h.1, flat_len2 h.2]
theorem segs_of {α : Type} : ∀ {ss : List (List α)} {zs : List Int} (pre : List α), ss.map List.length = zs.map Int.toNat → segs (pre ++ ss.flatten) pre.length zs = ss
  | [], [], _, _ => rfl
  | [], _ :: _, _, h => by cases h
  | _ :: _, [], _, h => by cases h
  | s :: ss, z :: zs, pre, h => by
    rw [List.map_cons, List.map_cons] at h
    injection h with h1 h2
    show ((pre ++ (s ++ ss.flatten)).drop pre.length).take z.toNat :: segs (pre ++ (s ++ ss.flatten)) (pre.length + z.toNat) zs = s :: ss
    rw [List.drop_left, ← h1, List.take_left]
    have e := segs_of (pre ++ s) h2
    rw [List.length_append, List.append_assoc] at e
    rw [e]
theorem spl_join {α : Type} {n : Nat} {zs : List Int} {L : Lay α} (h : Fits n zs L) : spl n zs (join L) = L := by
  unfold spl join
  obtain ⟨a, b⟩ := L
  obtain ⟨h1, h2⟩ := h
  simp only at h1 h2 ⊢
  rw [← h1, List.take_left, segs_of a h2]
/-- the numbers of the places -/
def idx (n : Nat) (zs : List Int) : Lay Nat := spl n zs (List.range (n + sumN zs))
theorem idx_fits (n : Nat) (zs : List Int) : Fits n zs (idx n zs) := spl_fits (by rw [List.length_range])
theorem join_idx (n : Nat) (zs : List Int) : join (idx n zs) = List.range (n + sumN zs) := join_spl (by rw [List.length_range])
theorem map_getD {α : Type} (d : α) (cs : List α) : (List.range cs.length).map (fun i => cs.getD i d) = cs := by
  refine List.ext_getElem? fun i => ?_
  by_cases h : i < cs.length
  · rw [List.getElem?_map, List.getElem?_range h, Option.map_some, List.getD_eq_getElem?_getD, List.getElem?_eq_getElem h]
    rfl
  · rw [List.getElem?_eq_none (by simp; omega), List.getElem?_eq_none (by omega)]
theorem lay_idx {α : Type} (d : α) {n : Nat} {zs : List Int} {L : Lay α} (h : Fits n zs L) : L = mapL (fun i => (join L).getD i d) (idx n zs) := by
  unfold idx
  rw [← spl_map, ← join_len h, map_getD, spl_join h]
/-- the visits of the tick behind the time t -/
def vis (rs : List Ro) (t : Int) : List (Nat × Nat) := (prs rs t rs.length).map fun p => (p.1, p.2.toNat)
def tickL {α : Type} (rs : List Ro) (t : Int) (L : Lay α) : Lay α := steps (vis rs t) L
def run {α : Type} (rs : List Ro) (t : Int) : Nat → Lay α → Lay α
  | 0, L => L
  | k + 1, L => tickL rs (t + (k : Nat)) (run rs t k L)
theorem run_add {α : Type} (rs : List Ro) (t : Int) (a : Nat) : ∀ (b : Nat) (L : Lay α), run rs t (a + b) L = run rs (t + (a : Nat)) b (run rs t a L)
  | 0, _ => rfl
  | b + 1, L => by
    show tickL rs (t + ((a + b : Nat) : Int)) (run rs t (a + b) L) = tickL rs (t + (a : Nat) + (b : Nat)) (run rs (t + (a : Nat)) b (run rs t a L))
    rw [run_add rs t a b L]
    congr 1
    omega
theorem run_map {α β : Type} (f : α → β) (rs : List Ro) (t : Int) : ∀ (k : Nat) (L : Lay α), run rs t k (mapL f L) = mapL f (run rs t k L)
  | 0, _ => rfl
  | k + 1, L => by
    show tickL _ _ (run rs t k (mapL f L)) = mapL f (tickL _ _ (run rs t k L))
    rw [run_map f rs t k L]
    exact steps_map f _ _
theorem run_fits {α : Type} {n : Nat} {zs : List Int} (rs : List Ro) (t : Int) : ∀ (k : Nat) {L : Lay α}, Fits n zs L → Fits n zs (run rs t k L)
  | 0, _, h => h
  | k + 1, _, h => steps_fits _ (run_fits rs t k h)
theorem run_perm (rs : List Ro) (t : Int) : ∀ (k : Nat) (L : Lay Nat), (join (run rs t k L)).Perm (join L)
  | 0, _ => .refl _
  | k + 1, L => (steps_perm _ _).trans (run_perm rs t k L)
/-- from which place what is at each place now has come -/
def org (n : Nat) (zs : List Int) (rs : List Ro) (t : Int) (k : Nat) : List Nat := join (run rs t k (idx n zs))
theorem org_len (n : Nat) (zs : List Int) (rs : List Ro) (t : Int) (k : Nat) : (org n zs rs t k).length = n + sumN zs := join_len (run_fits rs t k (idx_fits n zs))
theorem org_eff (n : Nat) (zs : List Int) (rs : List Ro) (t : Int) (k : Nat) : Eff (org n zs rs t k) := by
  have p : (org n zs rs t k).Perm (List.range (n + sumN zs)) := by
    have := run_perm rs t k (idx n zs)
    rwa [join_idx] at this
  refine ⟨fun x hx => ?_, p.nodup_iff.mpr List.nodup_range⟩
  rw [org_len]
  exact List.mem_range.mp (p.mem_iff.mp hx)
theorem run_org {α : Type} (d : α) {n : Nat} {zs : List Int} {L : Lay α} (h : Fits n zs L) (rs : List Ro) (t : Int) (k : Nat) : join (run rs t k L) = (org n zs rs t k).map fun i => (join L).getD i d := by
  have e := lay_idx d h
  unfold org
  rw [← join_map, ← run_map, ← e]
theorem org_add (n : Nat) (zs : List Int) (rs : List Ro) (t : Int) (a b : Nat) : org n zs rs t (a + b) = comp (org n zs rs (t + (a : Nat)) b) (org n zs rs t a) := by
  show join (run rs t (a + b) (idx n zs)) = _
  rw [run_add, run_org 0 (run_fits rs t a (idx_fits n zs))]
  rfl
theorem org_zero (n : Nat) (zs : List Int) (rs : List Ro) (t : Int) : org n zs rs t 0 = List.range (n + sumN zs) := join_idx n zs
end Sv
set_option maxHeartbeats 1000000
namespace Sv
theorem ent_mod (r : Ro) (h : r ≠ []) (m : Int) : ent r m = entN r (m % (r.length : Int)).toNat := by
  have hl : 0 < r.length := List.length_pos_iff.mpr h
  have h0 := Int.emod_nonneg m (by omega : (r.length : Int) ≠ 0)
  have h1 := Int.emod_lt_of_pos m (by omega : (0 : Int) < (r.length : Int))
  unfold ent entN
  rw [Nat.mod_eq_of_lt (by omega)]
theorem ent_add {r : Ro} (h : r ≠ []) {L : Nat} (hd : rtp r ∣ L) (m : Int) : ent r (m + (L : Nat)) = ent r m := by
  have hl : 0 < r.length := List.length_pos_iff.mpr h
  have h0 := Int.emod_nonneg m (by omega : (r.length : Int) ≠ 0)
  have e : ent r (m + (L : Nat)) = ent r (((m % (r.length : Int)).toNat + L : Nat) : Int) := by
    unfold ent
    congr 2
    rw [Int.natCast_add, Int.toNat_of_nonneg h0, Int.emod_add_emod]
  rw [e, ent_nat, (per_dvd h L).mpr hd, ent_mod r h m]
theorem prs_add {rs : List Ro} (h : ∀ r ∈ rs, r ≠ []) {L : Nat} (hd : lc rs ∣ L) (m : Int) : prs rs (m + (L : Nat)) rs.length = prs rs m rs.length :=
  prs_iff.mpr fun r hr => ent_add (h r hr) (lc_dvd.mp hd r hr) m
theorem prs_mod {rs : List Ro} (h : ∀ r ∈ rs, r ≠ []) {m m' : Int} (e : (lc rs : Int) ∣ m - m') : prs rs m rs.length = prs rs m' rs.length := by
  have key : ∀ (m : Int) (q : Nat), prs rs (m + ((lc rs * q : Nat) : Int)) rs.length = prs rs m rs.length := fun m q => prs_add h (Nat.dvd_mul_right _ _) m
  obtain ⟨c, hc⟩ := e
  by_cases h0 : 0 ≤ c
  · obtain ⟨q, rfl⟩ := Int.eq_ofNat_of_zero_le h0
    rw [show m = m' + ((lc rs * q : Nat) : Int) by rw [Int.natCast_mul]; omega]
    exact key _ _
  · obtain ⟨q, hq⟩ := Int.eq_ofNat_of_zero_le (show 0 ≤ -c by omega)
    have e2 : m' = m + ((lc rs * q : Nat) : Int) := by
      rw [Int.natCast_mul, ← hq, Int.mul_neg]
      omega
    rw [e2]
    exact (key _ _).symm
theorem vis_mod {rs : List Ro} (h : ∀ r ∈ rs, r ≠ []) {m m' : Int} (e : (lc rs : Int) ∣ m - m') : vis rs m = vis rs m' := by
  unfold vis
  rw [prs_mod h e]
theorem run_mod {α : Type} {rs : List Ro} (h : ∀ r ∈ rs, r ≠ []) {m m' : Int} (e : (lc rs : Int) ∣ m - m') : ∀ (k : Nat) (L : Lay α), run rs m k L = run rs m' k L
  | 0, _ => rfl
  | k + 1, L => by
    show steps (vis rs (m + (k : Nat))) (run rs m k L) = steps (vis rs (m' + (k : Nat))) (run rs m' k L)
    rw [run_mod h e k L, vis_mod h (m := m + (k : Nat)) (m' := m' + (k : Nat)) (by rwa [show m + (k : Nat) - (m' + (k : Nat)) = m - m' by omega])]
theorem org_mod {n : Nat} {zs : List Int} {rs : List Ro} (h : ∀ r ∈ rs, r ≠ []) {m m' : Int} (e : (lc rs : Int) ∣ m - m') (k : Nat) : org n zs rs m k = org n zs rs m' k := by
  unfold org
  rw [run_mod h e]
theorem ap_inv {e : List Nat} (E : Eff e) {q : Nat} (hq : q < e.length) : ap e (ap (inv e) q) = q := by
  have := inv_ap (inv_eff E) (i := q) (by rw [inv_len]; exact hq)
  rwa [inv_inv E] at this
theorem inv_comp {a b : List Nat} (A : Eff a) (B : Eff b) (hl : a.length = b.length) : inv (comp a b) = comp (inv b) (inv a) := by
  have C := comp_eff A B hl
  refine ext_ap (by rw [inv_len, comp_len, comp_len, inv_len, hl]) fun q hq => ?_
  rw [inv_len, comp_len] at hq
  rw [comp_ap (by rw [inv_len]; omega)]
  have h1 : ap (inv b) q < b.length := by
    have := ap_lt (inv_eff B) (x := q) (by rw [inv_len]; omega)
    rwa [inv_len] at this
  have h2 : ap (inv a) (ap (inv b) q) < a.length := by
    have := ap_lt (inv_eff A) (x := ap (inv b) q) (by rw [inv_len]; omega)
    rwa [inv_len] at this
  have h3 : ap (comp a b) (ap (inv a) (ap (inv b) q)) = q := by
    rw [comp_ap h2, ap_inv A (by omega), ap_inv B (by omega)]
  have h4 := inv_ap C (i := ap (inv a) (ap (inv b) q)) (by rw [comp_len]; exact h2)
  rwa [h3] at h4
theorem range_ap {n p : Nat} (h : p < n) : ap (List.range n) p = p := by
  unfold ap
  rw [List.getD_eq_getElem?_getD, List.getElem?_range h]
  rfl
theorem rg_comp {e : List Nat} {n : Nat} (hn : e.length = n) : comp (List.range n) e = e := by
  refine ext_ap (by rw [comp_len, List.length_range, hn]) fun p hp => ?_
  rw [comp_len, List.length_range] at hp
  rw [comp_ap (by rw [List.length_range]; exact hp), range_ap hp]
theorem inv_range (n : Nat) : inv (List.range n) = List.range n := by
  have R : Eff (List.range n) := ⟨fun x hx => by rw [List.length_range]; exact List.mem_range.mp hx, List.nodup_range⟩
  refine ext_ap (inv_len _) fun p hp => ?_
  rw [inv_len, List.length_range] at hp
  have := inv_ap R (i := p) (by rw [List.length_range]; exact hp)
  rw [range_ap hp] at this
  rw [this, range_ap hp]
section
variable (n : Nat) (zs : List Int) (rs : List Ro)
/-- so many ticks on -/
def fwd (t : Int) (k : Nat) : List Nat := inv (org n zs rs t k)
theorem fwd_len (t : Int) (k : Nat) : (fwd n zs rs t k).length = n + sumN zs := (inv_len _).trans (org_len ..)
theorem fwd_eff (t : Int) (k : Nat) : Eff (fwd n zs rs t k) := inv_eff (org_eff ..)
theorem fwd_add (t : Int) (a b : Nat) : fwd n zs rs t (a + b) = comp (fwd n zs rs t a) (fwd n zs rs (t + (a : Nat)) b) := by
  unfold fwd
  rw [org_add, inv_comp (org_eff ..) (org_eff ..) (by rw [org_len, org_len])]
theorem fwd_zero (t : Int) : fwd n zs rs t 0 = List.range (n + sumN zs) := by
  unfold fwd
  rw [org_zero, inv_range]
variable {rs}
theorem fwd_mod (h : ∀ r ∈ rs, r ≠ []) {m m' : Int} (e : (lc rs : Int) ∣ m - m') (k : Nat) : fwd n zs rs m k = fwd n zs rs m' k := by
  unfold fwd
  rw [org_mod h e]
variable (rs)
/-- a pattern -/
noncomputable def wh (t : Int) : List Nat := fwd n zs rs t (lc rs)
theorem wh_len (t : Int) : (wh n zs rs t).length = n + sumN zs := fwd_len ..
theorem wh_eff (t : Int) : Eff (wh n zs rs t) := fwd_eff ..
/-- any number of ticks, on or back -/
noncomputable def effT (t c : Int) : List Nat := comp (rep (wh n zs rs t) (c / (lc rs : Int))) (fwd n zs rs t (c % (lc rs : Int)).toNat)
theorem effT_len (t c : Int) : (effT n zs rs t c).length = n + sumN zs := by
  unfold effT
  rw [comp_len, rep_len, wh_len]
variable {rs}
variable (h : ∀ r ∈ rs, r ≠ []) (hp : 1 ≤ lc rs)
include h
theorem fwd_mul (t : Int) : ∀ q : Nat, fwd n zs rs t (q * lc rs) = rep (wh n zs rs t) (q : Nat)
  | 0 => by rw [Nat.zero_mul, fwd_zero, show ((0 : Nat) : Int) = 0 from rfl, rep_zero, wh_len]
  | q + 1 => by
    rw [Nat.succ_mul, fwd_add, fwd_mul t q, ← rep_succ (wh_eff ..)]
    congr 1
    exact fwd_mod n zs h ⟨q, by rw [Int.natCast_mul, Int.mul_comm]; omega⟩ _
include hp
theorem effT_key (t q : Int) (r : Nat) : comp (rep (wh n zs rs t) q) (fwd n zs rs t r) = effT n zs rs t (q * (lc rs : Int) + (r : Nat)) := by
  have hP : (0 : Int) < (lc rs : Int) := by omega
  have e0 := Nat.div_add_mod r (lc rs)
  have e1 : fwd n zs rs t r = comp (rep (wh n zs rs t) ((r / lc rs : Nat) : Int)) (fwd n zs rs t (r % lc rs)) := by
    have := fwd_add n zs rs t (r / lc rs * lc rs) (r % lc rs)
    rw [Nat.mul_comm, e0, Nat.mul_comm, fwd_mul n zs h] at this
    rw [this]
    congr 1
    exact fwd_mod n zs h ⟨((r / lc rs : Nat) : Int), by rw [Int.natCast_mul, Int.mul_comm]; omega⟩ _
  rw [e1, ← comp_assoc (rep_eff (wh_eff ..) _) (by rw [rep_len, rep_len]), rep_comp (wh_eff ..)]
  unfold effT
  have e2 : q * (lc rs : Int) + (r : Nat) = (q + ((r / lc rs : Nat) : Int)) * (lc rs : Int) + ((r % lc rs : Nat) : Int) := by
    have : (r : Int) = (lc rs : Int) * ((r / lc rs : Nat) : Int) + ((r % lc rs : Nat) : Int) := by
      rw [← Int.natCast_mul]
      omega
    rw [this, Int.add_mul, Int.mul_comm (lc rs : Int)]
    omega
  have hlt : ((r % lc rs : Nat) : Int) < (lc rs : Int) := by
    have := Nat.mod_lt r (show 0 < lc rs by omega)
    omega
  have e3 : (q * (lc rs : Int) + (r : Nat)) / (lc rs : Int) = q + ((r / lc rs : Nat) : Int) := by
    rw [e2, Int.add_comm, Int.add_mul_ediv_right _ _ (by omega), Int.ediv_eq_zero_of_lt (by omega) hlt, Int.zero_add]
  have e4 : (q * (lc rs : Int) + (r : Nat)) % (lc rs : Int) = ((r % lc rs : Nat) : Int) := by
    rw [e2, Int.add_comm, Int.add_mul_emod_self_right, Int.emod_eq_of_lt (by omega) hlt]
  rw [e3, e4, Int.toNat_natCast]
theorem effT_nat (t : Int) (k : Nat) : effT n zs rs t (k : Nat) = fwd n zs rs t k := by
  have := effT_key n zs h hp t 0 k
  rw [rep_zero, wh_len, rg_comp (fwd_len ..)] at this
  rw [this]
  congr 1
  omega
end
end Sv
set_option maxHeartbeats 1000000
namespace Sv
noncomputable def cyc (e : List Nat) (s : Nat) : List Nat := (List.range (per e s)).map fun k => it e k s
theorem cyc_len (e : List Nat) (s : Nat) : (cyc e s).length = per e s := by unfold cyc; simp
theorem cyc_at {e : List Nat} {s j : Nat} (h : j < per e s) : (cyc e s)[j]? = some (it e j s) := by
  unfold cyc
  rw [List.getElem?_map, List.getElem?_range h]
  rfl
theorem cyc_mem {e : List Nat} (E : Eff e) {s : Nat} (hs : s < e.length) {p : Nat} : p ∈ cyc e s ↔ ∃ k, p = it e k s := by
  unfold cyc
  rw [List.mem_map]
  constructor
  · rintro ⟨k, _, rfl⟩
    exact ⟨k, rfl⟩
  · rintro ⟨k, rfl⟩
    exact ⟨k % per e s, List.mem_range.mpr (Nat.mod_lt _ (per_pos E hs)), (it_mod E hs k).symm⟩
theorem cyc_nodup {e : List Nat} (E : Eff e) {s : Nat} (hs : s < e.length) : (cyc e s).Nodup := map_nodup fun i j hij hj q => by
  have e1 : it e j s = it e i (it e (j - i) s) := by
    rw [← it_add]
    congr 1
    omega
  rw [e1] at q
  have q2 := (it_inj (k := i) E hs (it_lt E hs) q).symm
  exact (per_spec E hs).2.2.1 (j - i) (by omega) (by omega) q2
open Classical in
noncomputable def whN (e : List Nat) : Nat → List (List Nat)
  | 0 => []
  | k + 1 => if k ∈ (whN e k).flatten then whN e k else whN e k ++ [cyc e k]
noncomputable def wheels (e : List Nat) : List (List Nat) := whN e e.length
structure Wh (e : List Nat) (cs : List (List Nat)) : Prop where
  cy : ∀ c ∈ cs, ∃ s, s < e.length ∧ c = cyc e s
  nd : cs.flatten.Nodup
theorem Wh.lt {e : List Nat} (E : Eff e) {cs : List (List Nat)} (W : Wh e cs) {p : Nat} (h : p ∈ cs.flatten) : p < e.length := by
  obtain ⟨c, hc, hp⟩ := List.mem_flatten.mp h
  obtain ⟨s, hs, rfl⟩ := W.cy c hc
  obtain ⟨k, rfl⟩ := (cyc_mem E hs).mp hp
  exact it_lt E hs
theorem Wh.closed {e : List Nat} (E : Eff e) {cs : List (List Nat)} (W : Wh e cs) {p j : Nat} (hp : p < e.length) (h : it e j p ∈ cs.flatten) : p ∈ cs.flatten := by
  obtain ⟨c, hc, hm⟩ := List.mem_flatten.mp h
  obtain ⟨s, hs, rfl⟩ := W.cy c hc
  obtain ⟨k, hk⟩ := (cyc_mem E hs).mp hm
  refine List.mem_flatten.mpr ⟨_, hc, (cyc_mem E hs).mpr ⟨(per e p - j % per e p) + k, ?_⟩⟩
  have hpos := per_pos E hp
  have hlt := Nat.mod_lt j hpos
  rw [it_add, ← hk, it_mod E hp j, ← it_add]
  rw [show per e p - j % per e p + j % per e p = per e p by omega]
  exact (per_spec E hp).2.1.symm
theorem whN_ok {e : List Nat} (E : Eff e) : ∀ k, k ≤ e.length → Wh e (whN e k) ∧ ∀ p, p < k → p ∈ (whN e k).flatten
  | 0, _ => ⟨⟨fun c h => (by cases h), List.nodup_nil⟩, fun p h => by omega⟩
  | k + 1, hk => by
    obtain ⟨W, hc⟩ := whN_ok E k (by omega)
    unfold whN
    by_cases h : k ∈ (whN e k).flatten
    · rw [if_pos h]
      refine ⟨W, fun p hp => ?_⟩
      by_cases hpk : p = k
      · rw [hpk]; exact h
      · exact hc p (by omega)
    · rw [if_neg h]
      refine ⟨⟨fun c hm => ?_, ?_⟩, fun p hp => ?_⟩
      · rcases List.mem_append.mp hm with hm | hm
        · exact W.cy c hm
        · exact ⟨k, by omega, by simpa using hm⟩
      · rw [List.flatten_append, List.flatten_singleton]
        refine List.nodup_append.mpr ⟨W.nd, cyc_nodup E (by omega), fun a ha b hb q => ?_⟩
        subst q
        obtain ⟨j, hj⟩ := (cyc_mem E (by omega)).mp hb
        rw [hj] at ha
        exact h (W.closed E (by omega) ha)
      · rw [List.flatten_append, List.flatten_singleton]
        by_cases hpk : p = k
        · rw [hpk]
          exact List.mem_append_right _ ((cyc_mem E (by omega)).mpr ⟨0, rfl⟩)
        · exact List.mem_append_left _ (hc p (by omega))
theorem wheels_ok {e : List Nat} (E : Eff e) : Wh e (wheels e) ∧ ∀ p, p < e.length → p ∈ (wheels e).flatten := whN_ok E _ (Nat.le_refl _)
theorem Wh.flat_len {e : List Nat} (E : Eff e) {cs : List (List Nat)} (W : Wh e cs) : cs.flatten.length ≤ e.length := below_len W.nd fun x hx => W.lt E hx
theorem Wh.len {e : List Nat} (E : Eff e) {cs : List (List Nat)} (W : Wh e cs) : cs.length ≤ e.length := by
  have h : ∀ cs : List (List Nat), (∀ c ∈ cs, 1 ≤ c.length) → cs.length ≤ cs.flatten.length := by
    intro cs
    induction cs with
    | nil => intro _; exact Nat.le_refl _
    | cons c r ih =>
      intro h
      have h1 := h c (List.mem_cons_self ..)
      have h2 := ih fun d hd => h d (List.mem_cons_of_mem _ hd)
      rw [List.flatten_cons, List.length_append]
      show r.length + 1 ≤ _
      omega
  refine Nat.le_trans (h cs fun c hc => ?_) (W.flat_len E)
  obtain ⟨s, hs, rfl⟩ := W.cy c hc
  rw [cyc_len]
  exact per_pos E hs
end Sv
set_option maxHeartbeats 4000000
namespace Sv
open PySem PySem.Spec PyProof.Rows L2
theorem b_isinstance : bootBuiltins "isinstance" = some (.builtin "isinstance") := by decide +kernel
theorem b_len : bootBuiltins "len" = some (.builtin "len") := by decide +kernel
theorem b_max : bootBuiltins "max" = some (.builtin "max") := by decide +kernel
theorem b_bool : bootBuiltins "bool" = some (.type "bool") := by decide +kernel
theorem b_int : bootBuiltins "int" = some (.type "int") := by decide +kernel
theorem b_str : bootBuiltins "str" = some (.type "str") := by decide +kernel
theorem b_list : bootBuiltins "list" = some (.type "list") := by decide +kernel
theorem b_tuple : bootBuiltins "tuple" = some (.type "tuple") := by decide +kernel
theorem b_dict : bootBuiltins "dict" = some (.type "dict") := by decide +kernel
theorem pe_ty {X : Cx} {x : Str} {T : String} {pos : Pos} (hg : Gl X x) (hm : X.mg x = none) (hv : bootBuiltins x = some (.type T)) (hn : x ≠ "__name__" := by decide) (hd : (x == ("__debug__" : Str)) = false := by decide) : PE X (.Name x pos) (tC (.ty T)) :=
  pe_bltn hg hm hv rfl hn hd
theorem b_sum : bootBuiltins "sum" = some (.builtin "sum") := by decide +kernel
theorem scWithin : FnScope ["number", "low", "high"] ["number", "low", "high"] (defScope sWithin) := ⟨rfl, rfl, rfl, by decide +kernel, rfl, by decide +kernel, by decide +kernel⟩
section
variable {P : Program} {w : World} {K : PySem.W.Frag} {mg : Str → Option Value} {base : Heap}
def spWithin : Sp := fun vs H Q _ => ∃ n lo hi : Int, vs = [.int n, .int lo, .int hi] ∧ Q (.bl (decide (lo ≤ n ∧ n ≤ hi))) H
theorem ok_within {f : Addr} {fd : FuncData} {k : Nat} (F : Fun K "is_within" "is_within" sWithin f fd) (mi : mg "isinstance" = none) (mb : mg "bool" = none) (mn : mg "int" = none) :
    FnOk P w K mg base CX0 (k + 1) f fd ["number", "low", "high"] spWithin := by
  refine F.ok scWithin (fun vs H Q E h => ?_) (fun cdv A outer s H vs Q E hr h => ?_)
  · obtain ⟨n, lo, hi, rfl, _⟩ := h
    rfl
  · obtain ⟨n, lo, hi, rfl, q⟩ := h
    refine ⟨_, pss_cons (ps_if (pw_or (pt_val (pe_callB call_isi (by rfl) mi b_isinstance (pa_cons (pv 0) (pa_cons (pe_ty (by rfl) mb b_bool) pa_nil))))
        (pw_or1 (pt_not (pt_val (pe_callB call_isi (by rfl) mi b_isinstance (pa_cons (pv 0) (pa_cons (pe_ty (by rfl) mn b_int) pa_nil))))))).pt
      (pss_one (ps_ret pe_bl)) pss_nil)
      (pss_one (ps_ret (pe_chain op_le op_le (pv 1) (pv 0) (pv 2)))), ?_⟩
    refine ⟨.int n, rfl, .int n, .ty "bool", _, _, false, rfl, .ty "bool", .base (.int n), kit_ty (by decide +kernel), false, rfl, iteF ?_⟩
    refine ⟨.int n, rfl, .int n, .ty "int", _, _, true, rfl, .ty "int", .base (.int n), kit_ty (by decide +kernel), true, rfl, iteF ?_⟩
    refine ⟨.int lo, rfl, .int n, rfl, lo, n, rfl, rfl, _, rfl, ?_⟩
    by_cases h1 : lo ≤ n
    · rw [decide_eq_true h1]
      refine iteT ⟨.int hi, rfl, n, hi, rfl, rfl, ?_⟩
      show Q (.bl (decide (n ≤ hi))) H
      have e : decide (n ≤ hi) = decide (lo ≤ n ∧ n ≤ hi) := by simp [h1]
      rw [e]
      exact q
    · rw [decide_eq_false h1]
      have e : decide (lo ≤ n ∧ n ≤ hi) = false := by simp [h1]
      rw [e] at q
      exact iteF q
end
theorem tyx_tup {K : PySem.W.Frag} {H : Hp} {a : Addr} {xs : List V} (h : SqT K H a xs) : TyX K H (.ref a) (.type "tuple") := by
  rcases h with (h | ⟨o, h⟩) | ⟨o, its, n, h1, h2, _⟩
  · exact .base (.tup h)
  · exact .fTuple h
  · exact .kTuple h1 h2
structure Bt (mg : Str → Option Value) : Prop where
  isinstance : mg "isinstance" = none
  bool : mg "bool" = none
  int : mg "int" = none
  str : mg "str" = none
  list : mg "list" = none
  tuple : mg "tuple" = none
  dict : mg "dict" = none
  len : mg "len" = none
  range : mg "range" = none
  enumerate : mg "enumerate" = none
  max : mg "max" = none
  sum : mg "sum" = none
  set : mg "set" = none
  zip : mg "zip" = none
  divmod : mg "divmod" = none
  sorted : mg "sorted" = none
  abs : mg "abs" = none
  min : mg "min" = none
structure Df (K : PySem.W.Frag) (mg : Str → Option Value) (x : Str) (st : Stmt) (ps : List Str) (f : Addr) (fd : FuncData) : Prop where
  F : Fun K x x st f fd
  b : Binds K fd ps []
  g : mg x = some (.ref f)
theorem same_upd {H : Hp} {p : Addr} {o : HO} (h : H p = none) : Same H (upd H p o) := fun b x e => by
  rw [upd_ne (ne_of_none e h)]
  exact e
theorem same_of {H H' : Hp} {p : Addr} {o : HO} (e : Same H H') (h : H p = none) : Same H (upd H' p o) := fun b x q => by
  rw [upd_ne (ne_of_none q h)]
  exact e b x q
theorem sqT_same {K : PySem.W.Frag} {H H' : Hp} {a : Addr} {xs : List V} (e : Same H H') (h : SqT K H a xs) : SqT K H' a xs := by
  rcases h with (h | ⟨o, h⟩) | h
  · exact .inl (.inl (e _ _ h))
  · exact .inl (.inr ⟨o, e _ _ h⟩)
  · exact .inr h
theorem sz1000 {n : Nat} (h : n ≤ 1000) : n ≤ sizeLine := Nat.le_of_lt (small1000 h)
theorem yes_go {σ2 : L2.St} {H2 : Hp} {A B : Hp → Prop} (h : A H2) : tYes σ2 H2 (fun b H3 => if b = true then A H3 else B H3) := by
  show (if true = true then A H2 else B H2)
  rw [if_pos rfl]
  exact h
theorem ixN_nat {n j : Nat} (h : j < n) : ixN n (j : Int) = some j := by
  unfold ixN
  rw [if_pos (by omega), if_pos (by omega), Int.toNat_natCast]
structure LawH (H : Hp) (h l : Addr) : Prop where
  ex : ∃ (m i : Int) (cs : List Int), H h = some (.lst [.int m, .ref l, .int i]) ∧ H l = some (.lst (cs.map V.int)) ∧ cs.length ≤ 1000
def SameX (h l : Addr) (H H' : Hp) : Prop := ∀ b o, b ≠ h → b ≠ l → H b = some o → H' b = some o
theorem LawH.ne {H : Hp} {h l : Addr} (x : LawH H h l) : h ≠ l := by
  obtain ⟨m, i, cs, e1, e2, _⟩ := x.ex
  intro z
  subst z
  rw [e1] at e2
  have e3 := HO.lst.inj (Option.some.inj e2)
  match cs, e3 with
  | [], e3 => cases e3
  | [_], e3 => cases e3
  | _ :: _ :: _, e3 => cases e3
theorem LawH.same {H H' : Hp} {h l : Addr} (x : LawH H h l) (e : Same H H') : LawH H' h l := by
  obtain ⟨m, i, cs, e1, e2, e3⟩ := x.ex
  exact ⟨m, i, cs, e _ _ e1, e _ _ e2, e3⟩
theorem SameX.of {H H' : Hp} {h l : Addr} (e : Same H H') : SameX h l H H' := fun b o _ _ q => e b o q
theorem SameX.trans {H H1 H2 : Hp} {h l : Addr} (a : SameX h l H H1) (b : SameX h l H1 H2) : SameX h l H H2 := fun c o h1 h2 q => b c o h1 h2 (a c o h1 h2 q)
section
variable {P : Program} {w : World} {K : PySem.W.Frag} {mg : Str → Option Value} {base : Heap}
theorem scNext : FnScope ["_law_h", "_law_limit", "_law_cell"] ["_law_h", "_law_limit"] (defScope sNext) := ⟨rfl, rfl, rfl, by decide +kernel, rfl, by decide +kernel, by decide +kernel⟩
theorem scMix : FnScope ["_law_script", "_law_seed", "_law_mixed", "_law_cell"] ["_law_script", "_law_seed"] (defScope sMix) := ⟨rfl, rfl, rfl, by decide +kernel, rfl, by decide +kernel, by decide +kernel⟩
def spNext : Sp := fun vs H Q _ => ∃ (h l : Addr) (lim : Int), vs = [.ref h, .int lim] ∧ LawH H h l ∧ 0 < lim ∧ lim < 2 ^ 64 ∧ ∀ r H', 0 ≤ r → r < lim → LawH H' h l → SameX h l H H' → Q (.int r) H'
theorem ok_next {f : Addr} {fd : FuncData} (F : Fun K "_law_next" "_law_next" sNext f fd) (B : Bt mg) : FnOk P w K mg base CX0 1 f fd ["_law_h", "_law_limit"] spNext := by
  refine F.ok scNext (fun vs H Q E h => ?_) (fun cdv A outer s H vs Q E hr h => ?_)
  · obtain ⟨h, l, lim, rfl, _⟩ := h
    rfl
  · obtain ⟨h, l, lim, rfl, LH, p1, p2, q⟩ := h
    have LHx := LH
    have hne := LH.ne
    obtain ⟨m, i, cs, e1, e2, e3⟩ := LH.ex
    refine ⟨_, pss_cons (ps_set (i := 2) scNext.nd rfl (Or.inl rfl) (pe_ix ix_list (pe_op op_cat (pe_ix ix_list (pv 0) pe_int (fun _ _ => rfl)) (pe_lst (pa_cons pe_int pa_nil)))
        (pe_op op_mod (pe_callTy call_int1 (by rfl) B.int b_int (pa_cons (pe_ix ix_list (pv 0) pe_int (fun _ _ => rfl)) pa_nil)) (pe_callB (call_max2 rfl) (by rfl) B.max b_max (pa_cons pe_int (pa_cons (pe_callB call_len_seq (by rfl) B.len b_len (pa_cons (pe_ix ix_list (pv 0) pe_int (fun _ _ => rfl)) pa_nil)) pa_nil)))) (fun _ _ => rfl)))
      (pss_cons (ps_if (pt_cmpR op_ge (pv 2) (pe_op op_pow pe_int pe_int) (nomark _))
        (pss_cons (ps_asg (pe_op op_fdivW (pv 2) (pv 1)) (pg_sub (pe_ix ix_list (pv 0) pe_int (fun _ _ => rfl)) (pe_op op_mod (pe_callTy call_int1 (by rfl) B.int b_int (pa_cons (pe_ix ix_list (pv 0) pe_int (fun _ _ => rfl)) pa_nil)) (pe_callB call_len_seq (by rfl) B.len b_len (pa_cons (pe_ix ix_list (pv 0) pe_int (fun _ _ => rfl)) pa_nil))) set_list))
        (pss_one (ps_ret (pe_op op_mod (pe_callTy call_int1 (by rfl) B.int b_int (pa_cons (pv 2) pa_nil)) (pv 1))))) pss_nil)
      (pss_cons (ps_asg (pe_op op_mod (pe_op op_add (pe_op op_add (pe_op op_mul (pe_ix ix_list (pv 0) pe_int (fun _ _ => rfl)) pe_int) (pe_op op_mul (pv 2) pe_int)) pe_int) pe_int) (pg_sub (pv 0) pe_int set_list))
      (pss_cons (ps_asg (pe_op op_add (pe_ix ix_list (pv 0) pe_int (fun _ _ => rfl)) pe_int) (pg_sub (pv 0) pe_int set_list))
      (pss_one (ps_ret (pe_op op_mod (pe_op op_fdiv (pe_ix ix_list (pv 0) pe_int (fun _ _ => rfl)) pe_int) (pv 1))))))), ?_⟩
    refine ⟨.ref h, rfl, h, _, 1, .ref l, rfl, rfl, .inl (.inl e1), rfl, (by show 1 ≤ sizeLine; decide), fun z hz => ?_⟩
    have hl1 : l ≠ z := ne_of_none e2 hz
    have hl2 : h ≠ z := ne_of_none e1 hz
    refine ⟨l, z, _, _, rfl, rfl, by rw [upd_ne hl1]; exact e2, upd_same, ?_, fun u hu => ?_⟩
    · rw [List.length_map]
      show cs.length + 1 ≤ sizeLine
      exact small1000 e3
    have sm1 : Same H (upd H z (.lst [.int 0])) := same_upd hz
    have sm2 : Same H (upd (upd H z (.lst [.int 0])) u (.lst (cs.map V.int ++ [.int 0]))) := same_of sm1 (Same.free sm1 hu)
    generalize hG : upd (upd H z (.lst [.int 0])) u (.lst (cs.map V.int ++ [.int 0])) = G at sm2 ⊢
    have g1 := sm2 _ _ e1
    have g2 := sm2 _ _ e2
    have g3 : G u = some (.lst ((cs ++ [0]).map V.int)) := by rw [← hG, upd_same, List.map_append]; rfl
    have hmax : (if ((cs.map V.int).length : Int) > 1 then ((cs.map V.int).length : Int) else 1) = ((max 1 cs.length : Nat) : Int) := by
      rw [List.length_map]
      split <;> omega
    have hM : (0 : Int) < ((max 1 cs.length : Nat) : Int) := by omega
    have i0 := Int.emod_nonneg i (Int.ne_of_gt hM)
    have i1 := Int.emod_lt_of_pos i hM
    obtain ⟨k, hk⟩ : ∃ k : Nat, i % ((max 1 cs.length : Nat) : Int) = (k : Int) := ⟨_, (Int.toNat_of_nonneg i0).symm⟩
    have hk1 : k < (cs ++ [0]).length := by
      rw [List.length_append]
      show k < cs.length + 1
      omega
    obtain ⟨cell, hcell⟩ : ∃ c, (cs ++ [0])[k]? = some c := ⟨_, List.getElem?_eq_getElem hk1⟩
    refine ⟨.ref h, rfl, h, _, 2, .int i, rfl, rfl, .inl (.inl g1), rfl, .inl ⟨i, rfl, ?_⟩⟩
    refine ⟨.ref h, rfl, h, _, 1, .ref l, rfl, rfl, .inl (.inl g1), rfl, l, _, rfl, .inl (.inl (.inl g2)), 1, _, rfl, ?_⟩
    refine ⟨i, ((max 1 cs.length : Nat) : Int), rfl, congrArg V.int hmax, hM, ?_⟩
    refine ⟨u, _, (k : Int), .int cell, rfl, congrArg V.int hk, .inl (.inl g3), atI_nat (by rw [List.getElem?_map, hcell]; rfl), ?_⟩
    -- the test
    refine ⟨.int cell, rfl, 10, 18, rfl, rfl, ⟨by decide, by decide, by decide⟩, cell, 10 ^ (18 : Int).toNat, rfl, rfl, _, rfl, ite2 (fun hc => ?_) (fun hc => ?_)⟩
    · have hc2 : (10 : Int) ^ (18 : Int).toNat ≤ cell := of_decide_eq_true hc
      have hc3 : (0 : Int) < cell := Int.lt_of_lt_of_le (by decide) hc2
      have hk2 : k < cs.length := by
        by_cases hkl : k < cs.length
        · exact hkl
        · have : k = cs.length := by
            rw [List.length_append] at hk1
            have : k < cs.length + 1 := hk1
            omega
          rw [this, List.getElem?_append_right (Nat.le_refl _), Nat.sub_self] at hcell
          have : (0 : Int) = cell := Option.some.inj hcell
          omega
      have hl0 : (0 : Int) < ((cs.map V.int).length : Int) := by rw [List.length_map]; omega
      have hkk : i % ((cs.map V.int).length : Int) = (k : Int) := by
        rw [List.length_map, ← hk]
        congr 1
        omega
      refine ⟨.int cell, rfl, .int lim, rfl, cell, lim, rfl, rfl, wide_div (b := 64) p1 (by omega) (by decide) (by decide), ?_⟩
      refine ⟨.ref h, rfl, h, _, 1, .ref l, rfl, rfl, .inl (.inl g1), rfl, ?_⟩
      refine ⟨.ref h, rfl, h, _, 2, .int i, rfl, rfl, .inl (.inl g1), rfl, .inl ⟨i, rfl, ?_⟩⟩
      refine ⟨.ref h, rfl, h, _, 1, .ref l, rfl, rfl, .inl (.inl g1), rfl, l, _, rfl, .inl (.inl (.inl g2)), i, _, rfl, rfl, hl0, ?_⟩
      refine ⟨l, cs.map V.int, (k : Int), k, rfl, congrArg V.int hkk, g2, ixN_nat (by rw [List.length_map]; exact hk2), ?_⟩
      refine ⟨.int cell, rfl, .inl ⟨cell, rfl, .int lim, rfl, cell, lim, rfl, rfl, p1, ?_⟩⟩
      refine q _ _ (Int.emod_nonneg _ (Int.ne_of_gt p1)) (Int.emod_lt_of_pos _ p1) ⟨m, i, cs.set k (cell / lim), ?_, ?_, ?_⟩ (fun b o h1 h2 hb => ?_)
      · rw [upd_ne hne]
        exact g1
      · rw [upd_same, List.map_set]
      · rw [List.length_set]
        exact e3
      · rw [upd_ne h2]
        exact sm2 _ _ hb
    · refine ⟨.ref h, rfl, h, _, 0, .int m, rfl, rfl, .inl (.inl g1), rfl, m, 48271, rfl, rfl, .inr ⟨by decide, by decide⟩, ?_⟩
      refine ⟨.int cell, rfl, cell, 69621, rfl, rfl, .inr ⟨by decide, by decide⟩, _, _, rfl, rfl, _, 11, rfl, rfl, _, 2147483647, rfl, rfl, (by decide : (0 : Int) < 2147483647), ?_⟩
      refine ⟨.ref h, rfl, h, _, 0, 0, rfl, rfl, g1, rfl, ?_⟩
      obtain ⟨m', hm'⟩ : ∃ m' : Int, (m * 48271 + cell * 69621 + 11) % 2147483647 = m' := ⟨_, rfl⟩
      have hmv : (fun i j => V.int (i % j)) (m * 48271 + cell * 69621 + 11) 2147483647 = V.int m' := congrArg V.int hm'
      rw [hmv]
      have g1' : (upd G h (.lst ([V.int m, V.ref l, V.int i].set 0 (V.int m')))) h = some (.lst [.int m', .ref l, .int i]) := upd_same
      refine ⟨.ref h, rfl, h, _, 2, .int i, rfl, rfl, .inl (.inl g1'), rfl, i, 1, rfl, rfl, ?_⟩
      refine ⟨.ref h, rfl, h, _, 2, 2, rfl, rfl, g1', rfl, ?_⟩
      generalize hG2 : upd (upd G h (.lst ([V.int m, V.ref l, V.int i].set 0 (V.int m')))) h (.lst ([V.int m', V.ref l, V.int i].set 2 (V.int (i + 1)))) = G2
      have g1'' : G2 h = some (.lst [.int m', .ref l, .int (i + 1)]) := by rw [← hG2]; exact upd_same
      refine ⟨.ref h, rfl, h, _, 0, .int m', rfl, rfl, .inl (.inl g1''), rfl, m', 7, rfl, rfl, ⟨by decide, by decide⟩, .int lim, rfl, _, lim, rfl, rfl, p1, ?_⟩
      refine q _ _ (Int.emod_nonneg _ (Int.ne_of_gt p1)) (Int.emod_lt_of_pos _ p1) ⟨m', i + 1, cs, g1'', ?_, e3⟩ (fun b o h1 h2 hb => ?_)
      · rw [← hG2, upd_ne (Ne.symm hne), upd_ne (Ne.symm hne)]
        exact g2
      · rw [← hG2, upd_ne h1, upd_ne h1]
        exact sm2 _ _ hb
def spMix (K : PySem.W.Frag) : Sp := fun vs H Q _ => ∃ (a : Addr) (ns : List Int) (seed : Int), vs = [.ref a, .int seed] ∧ SqL K H a (ns.map V.int) ∧ ns.length ≤ 63 ∧ ∀ H' h l, LawH H' h l → Same H H' → H h = none → H l = none → Q (.ref h) H'
theorem ok_mix {f : Addr} {fd : FuncData} (F : Fun K "_law_mix" "_law_mix" sMix f fd) (B : Bt mg) : FnOk P w K mg base CX0 1 f fd ["_law_script", "_law_seed"] (spMix K) := by
  refine F.ok scMix (fun vs H Q E h => ?_) (fun cdv A outer s H vs Q E hr h => ?_)
  · obtain ⟨a, ns, seed, rfl, _⟩ := h
    rfl
  · obtain ⟨a, ns, seed, rfl, hA, hl, q⟩ := h
    refine ⟨_, pss_cons (ps_set (i := 2) scMix.nd rfl (Or.inl rfl) (pv 1))
      (pss_cons (ps_for PassesOwn.never rfl (pi_list (pv 0)) (pg_name (i := 3) scMix.nd rfl (Or.inl rfl))
        (pss_one (ps_set (i := 2) scMix.nd rfl (Or.inl rfl) (pe_op op_mod (pe_op op_add (pe_op op_add (pe_op op_mul (pv 2) pe_int) (pe_op op_mod (pv 3) pe_int)) pe_int) pe_int))))
      (pss_one (ps_ret (pe_lst (pa_cons (pv 2) (pa_cons (pe_callTy call_list_of (by rfl) B.list b_list (pa_cons (pv 0) pa_nil)) (pa_cons pe_int pa_nil))))))), ?_⟩
    refine ⟨.int seed, rfl, .ref a, rfl, a, rfl, ⟨_, hA⟩, for_list (xs := ns.map V.int) (fun i σ H' => (∃ m y3, σ = [some (.ref a), some (.int seed), some (.int m), y3]) ∧ H' = H) ⟨⟨seed, none, rfl⟩, rfl⟩ (fun i σ H' _ h => by rw [h.2]; exact hA) (fun i x σ H' hx ⟨⟨m, y3, es⟩, eH⟩ => ?_) (fun σ H' ⟨⟨m, y3, es⟩, eH⟩ => ?_)⟩
    · subst es
      subst eH
      rw [List.getElem?_map] at hx
      cases hn : ns[i]? with
      | none => rw [hn] at hx; cases hx
      | some n =>
        rw [hn] at hx
        obtain rfl : V.int n = x := Option.some.inj hx
        refine ⟨.int m, rfl, m, 48271, rfl, rfl, .inr ⟨by decide, by decide⟩, .int n, rfl, n, 2147483629, rfl, rfl, (by decide : (0 : Int) < 2147483629), _, _, rfl, rfl, _, 1, rfl, rfl, _, 2147483647, rfl, rfl, (by decide : (0 : Int) < 2147483647), ⟨_, _, rfl⟩, rfl⟩
    · subst es
      subst eH
      refine ⟨.int m, rfl, .ref a, rfl, a, _, rfl, .inl hA, fun l hl2 => ⟨(by show 3 ≤ sizeLine; decide), fun h hh => ?_⟩⟩
      have ln : l ≠ h := ne_of_none upd_same hh
      refine q _ h l ⟨m, 0, ns, upd_same, by rw [upd_ne ln]; exact upd_same, by omega⟩ (same_of (same_upd hl2) (Same.free (same_upd hl2) hh)) (Same.free (same_upd hl2) hh) hl2
end
end Sv
set_option maxHeartbeats 4000000
set_option exponentiation.threshold 2000
namespace Sv
open PySem PySem.Spec PyProof.Rows L2 NdefX
def clsInit : Stmt → Stmt | .ClassDef _ _ _ b _ _ _ _ _ _ _ => b.getD 0 (.Pass ⟨0, 0, 0, 0⟩) | s => s
abbrev sPlanInit : Stmt := clsInit sInvalidPlan
def nfPlan (cc c0 : Addr) : NF := ⟨"__init__", "InvalidPlan.__init__", defArgs sPlanInit, defBody sPlanInit, defScope sPlanInit, [("__class__", cc)], c0⟩
def arPlan : Arg := (defArgs sPlanInit).args.getD 0 ⟨"x", none, ⟨0, 0, 0, 0⟩⟩
def nPI : List Str := ["self", "part", "index", "__class__"]
theorem nsPlan (cc c0 : Addr) : NScope nPI ["self", "part", "index"] ["__class__"] (nfPlan cc c0).scope := by
  show NScope nPI ["self", "part", "index"] ["__class__"] (defScope sPlanInit)
  exact nscope_by (by decide +kernel)
section
variable {P : Program} {w : World} {K : PySem.W.Frag} {mg : Str → Option Value} {base : Heap}
/-- the promise of InvalidPlan.__init__ -/
def spPI (C : Addr) : Sp := fun vs H Q _ => ∃ (a : Addr) (part : Str) (i : Int), vs = [.ref a, .str part, .int i] ∧ H a = some (exo a C none) ∧ part.length ≤ 1000 ∧ i.natAbs < 2 ^ 100 ∧
  ∀ d, H d = none → d ≠ a → Q .non (upd (upd (upd H d (exd d [("part", .str part)])) a (exo a C (some d))) d (exd d [("index", .int i), ("part", .str part)]))
theorem ok_planInit {C fI cc c0 : Addr} {oc : Value} {od : Option Addr} {osl : Array (Option Value)} {doc pm ctv : Value} (S : SupF P K mg C fI cc (nfPlan cc c0) arPlan) (lk : K.lookup fI = some ⟨oc, od, .func ((nfPlan cc c0).fd doc pm ctv), osl⟩)
    (n1 : PySem.W.findIn K (.ref C) "part" = some none) (n2 : PySem.W.findIn K (.ref C) "index" = some none) :
    FnOk P w K mg base CX0 1 fI ((nfPlan cc c0).fd doc pm ctv) ["self", "part", "index"] (spPI C) := by
  refine fnOk_sup (N := nPI) S lk (nsPlan cc c0) rfl rfl rfl (fun vs H Q E h => ?_) (fun _ => rfl) (fun _ => ⟨_, rfl⟩) (fun _ => rfl) (fun _ => rfl) (fun A outer s H vs Q E hr h => ?_)
  · obtain ⟨a, part, i, rfl, _⟩ := h
    rfl
  · obtain ⟨a, part, i, rfl, ha, hl, hi, q⟩ := h
    refine ⟨a, _, _, rfl, ha, pe_joined (.cons pe_str (.cons (pe_fmt (pv 1)) (.cons pe_str (.cons (pe_fmt (pv 2)) .nil)))),
      pss_cons (ps_ost (pv 0) (pv 1)) (pss_one (ps_ost (pv 0) (pv 2))), ?_⟩
    have hz : sizeLine = 16777216 := sizeLine_eq
    have hlog : i.natAbs.log2 < 1920 := by
      have : i.natAbs < 2 ^ 1920 := Nat.lt_trans hi (Nat.pow_lt_pow_right (by decide) (by decide))
      by_cases h0 : i.natAbs = 0
      · rw [h0]
        decide
      · exact (Nat.log2_lt h0).mpr this
    have l4 : (Str.ofString (toString i)).length ≤ 1921 := int_text_len_1921 hlog
    refine ⟨"invalid ", rfl, ?_, .str part, rfl, .inl ⟨part, rfl, by omega, part, rfl, ?_, ", at index ", rfl, ?_, .int i, rfl, .inr ⟨i, rfl, hlog, _, rfl, ?_, ha, ?_⟩⟩⟩
    · decide
    · rw [Str.length_append]
      have : (Str.empty ++ ("invalid " : Str)).length = 8 := by decide
      omega
    · rw [Str.length_append, Str.length_append]
      have : (Str.empty ++ ("invalid " : Str)).length = 8 := by decide
      have : (", at index " : Str).length = 11 := by decide
      omega
    · rw [Str.length_append, Str.length_append, Str.length_append]
      have : (Str.empty ++ ("invalid " : Str)).length = 8 := by decide
      have : (", at index " : Str).length = 11 := by decide
      omega
    · refine ⟨.str part, rfl, .ref a, rfl, a, C, rfl, S.T, n1, .inl ⟨ha, fun d hd hda => ?_⟩⟩
      refine ⟨.int i, rfl, .ref a, rfl, a, C, rfl, S.T, n2, .inr ⟨d, [("part", .str part)], upd_same, ?_, (by show 1 ≤ 900; decide), q d hd hda⟩⟩
      rw [upd_ne hda, upd_same]
/-- the facts of InvalidPlan -/
structure Pl (P : Program) (K : PySem.W.Frag) (mg : Str → Option Value) (C fI : Addr) (fd : FuncData) : Prop where
  ex : ∃ (cc c0 : Addr) (oc : Value) (od : Option Addr) (osl : Array (Option Value)) (doc pm ctv : Value), fd = (nfPlan cc c0).fd doc pm ctv ∧ SupF P K mg C fI cc (nfPlan cc c0) arPlan ∧ K.lookup fI = some ⟨oc, od, .func fd, osl⟩
  n1 : PySem.W.findIn K (.ref C) "part" = some none
  n2 : PySem.W.findIn K (.ref C) "index" = some none
  g : mg "InvalidPlan" = some (.ref C)
  iC : PySem.W.findIn K (.ref C) "__init__" = some (some (.ref fI))
  tI : PySem.W.typeIn K (.ref fI) = some (.type "function")
  b : Binds K fd ["self", "part", "index"] []
  x : XfC K C
theorem Pl.T {C fI : Addr} {fd : FuncData} (p : Pl P K mg C fI fd) : OexC K C := by
  obtain ⟨cc, c0, oc, od, osl, doc, pm, ctv, _, S, _⟩ := p.ex
  exact S.T
theorem Pl.ok {C fI : Addr} {fd : FuncData} (p : Pl P K mg C fI fd) : FnOk P w K mg base CX0 1 fI fd ["self", "part", "index"] (spPI C) := by
  obtain ⟨cc, c0, oc, od, osl, doc, pm, ctv, rfl, S, lk⟩ := p.ex
  exact ok_planInit S lk p.n1 p.n2
/-- what is wanted where InvalidPlan(part, i) is raised -/
def PlanE (C : Addr) (H : Hp) (part : Str) (i : Int) (Q : XK) : Prop := ∀ (H' : Hp) (dd : Addr) (fs : List (Str × V)), Same H H' → H' dd = some (.xd fs) → fs.lookup ("part" : Str) = some (V.str part) → fs.lookup ("index" : Str) = some (V.int i) → Q (.ref C) (some dd) H'
theorem PlanE.imp {C : Addr} {H H1 : Hp} {part : Str} {i : Int} {Q : XK} (h : PlanE C H part i Q) (e : Same H H1) : PlanE C H1 part i Q := fun H' dd fs sm => h H' dd fs (e.trans sm)
theorem pmk_plan {X : Cx} {C fI : Addr} {fd : FuncData} {e1 e2 : Expr} {t1 t2 : TE} {p pos : Pos} (T : Pl X.prog X.K X.mg C fI fd) (hr : Room 2 X.A) (hg : Gl X "InvalidPlan") (h1 : PE X e1 t1) (h2 : PE X e2 t2)
    (s1 : starEach [e1, e2] X.env = (false, eval e1 X.env) :: starEach [e2] X.env := by rfl) (s2 : starEach [e2] X.env = (false, eval e2 X.env) :: starEach [] X.env := by rfl) (hpl : (backTo pos (starEach [e2] X.env)).any (·.1) = false := by rfl) :
    PMk X (.Call (.Name "InvalidPlan" p) [e1, e2] [] pos) (tMkO C (spPI C) [] (tCons t1 (tCons t2 tNil))) := by
  have G : FnOk X.prog X.w X.K X.mg X.base CX0 1 fI fd ["self", "part", "index"] (spPI C) := T.ok
  exact pmk_oex T.T T.iC T.tI G hr T.b .nil pass0 hg T.g (pa_cons h1 (pa_cons h2 pa_nil s2) s1) (by decide) s1 hpl
theorem mk_go {C : Addr} {H : Hp} {part : Str} {i : Int} {Q : XK} (hl : part.length ≤ 1000) (hi : i.natAbs < 2 ^ 100) (q : PlanE C H part i Q) : [V.str part, V.int i].length ≤ 1000 ∧ ∀ a, H a = none → spPI C (.ref a :: ([V.str part, V.int i] ++ [])) (upd H a (exo a C none))
    (fun v H2 => v = .non ∧ ∃ (d : Addr) (fs : List (Str × V)), H2 a = some (exo a C (some d)) ∧ H2 d = some (exd d fs) ∧ H d = none ∧ Q (.ref C) (some d) (upd (del H2 a) d (.xd fs))) (fun _ _ _ => False) := by
  refine ⟨by show 2 ≤ 1000; decide, fun a ha => ⟨a, part, i, rfl, upd_same, hl, hi, fun d hd hda => ⟨rfl, d, _, ?_, upd_same, ?_, q _ d _ (fun b o hb => ?_) upd_same rfl rfl⟩⟩⟩
  · rw [upd_ne (Ne.symm hda), upd_same]
  · rw [upd_ne hda] at hd
    exact hd
  · have hd' : H d = none := by
      rw [upd_ne hda] at hd
      exact hd
    have b1 := ne_of_none hb hd'
    have b2 := ne_of_none hb ha
    rw [upd_ne b1, del_ne b2, upd_ne b1, upd_ne b2, upd_ne b1, upd_ne b2]
    exact hb
end
abbrev sLapInit : Stmt := clsInit sLap
structure LapF (K : PySem.W.Frag) (mg : Str → Option Value) (C f : Addr) (fd : FuncData) : Prop where
  g : mg "Lap" = some (.ref C)
  m : Mk K C f
  c : Cls K C
  n1 : NoAttr K C "length"
  n2 : NoAttr K C "stops"
  n3 : NoAttr K C "lefts"
  n4 : NoAttr K C "effect"
  F : Fun K "__init__" "Lap.__init__" sLapInit f fd
  b : Binds K fd ["self", "plan", "time"] []
end Sv
set_option maxHeartbeats 4000000
namespace Sv
open PySem PySem.Spec PyProof.Rows L2
/-- an own class of exceptions as it stands behind the top -/
structure ExcF (K : PySem.W.Frag) (mg : Str → Option Value) (x : Str) (C : Addr) : Prop where
  g : mg x = some (.ref C)
  x : PySem.W.excIn K C [.type "ValueError", .type "Exception", .type "BaseException", .type "object"] "ValueError.__new__" = true
  k : PySem.W.keepIn K (.ref C) = true
  b : PySem.W.subIn K (.ref C) (.type "BaseException") = some true
  t : PySem.W.typeIn K (.ref C) = some (.type "type")
/-- the facts of the program's defs -/
structure Bd (P : Program) (K : PySem.W.Frag) (mg : Str → Option Value) where
  bt : Bt mg
  lcm : mg "lcm" = some (.builtin "math.lcm")
  C : Addr
  aInit : Addr
  dInit : FuncData
  pl : Pl P K mg C aInit dInit
  m1 : ∃ t, mg "MOST_SHELVES" = some (.int 12 t)
  m2 : ∃ t, mg "MOST_ON_SHELF" = some (.int 9 t)
  m3 : ∃ t, mg "MOST_CARRIERS" = some (.int 6 t)
  m4 : ∃ t, mg "MOST_ENTRIES" = some (.int 6 t)
  lim : ∃ t, mg "COUNT_LIMIT" = some (.int 1000000000000000000 t)
  CE : Addr
  ce : ExcF K mg "InvalidEffect" CE
  CC : Addr
  cc : ExcF K mg "InvalidCount" CC
  CD : Addr
  cd : ExcF K mg "DifferentSizes" CD
  CS : Addr
  cs : ExcF K mg "InvalidState" CS
  CUp : Addr
  cup : ExcF K mg "UnknownPlace" CUp
  CUr : Addr
  cur : ExcF K mg "UnknownParcel" CUr
  CUs : Addr
  cus : ExcF K mg "UnknownShelf" CUs
  CUc : Addr
  cuc : ExcF K mg "UnknownCarrier" CUc
  CIp : Addr
  cip : ExcF K mg "InvalidParcels" CIp
  CCt : Addr
  cct : ExcF K mg "Contradiction" CCt
  CAr : Addr
  car : ExcF K mg "InvalidArrangement" CAr
  CFu : Addr
  cfu : ExcF K mg "ShelfFull" CFu
  CPc : Addr
  cpc : ExcF K mg "ParcelCarried" CPc
  CLap : Addr
  aLap : Addr
  dLap : FuncData
  lap : LapF K mg CLap aLap dLap
  aWithin : Addr
  dWithin : FuncData
  Within : Df K mg "is_within" sWithin ["number", "low", "high"] aWithin dWithin
  aCheckCount : Addr
  dCheckCount : FuncData
  CheckCount : Df K mg "check_count" sCheckCount ["count"] aCheckCount dCheckCount
  aCheckBetween : Addr
  dCheckBetween : FuncData
  CheckBetween : Df K mg "check_between" sCheckBetween ["number", "low", "high"] aCheckBetween dCheckBetween
  aCheckPlan : Addr
  dCheckPlan : FuncData
  CheckPlan : Df K mg "check_plan" sCheckPlan ["plan"] aCheckPlan dCheckPlan
  aCheckSizes : Addr
  dCheckSizes : FuncData
  CheckSizes : Df K mg "check_sizes" sCheckSizes ["sizes"] aCheckSizes dCheckSizes
  aCheckRoutes : Addr
  dCheckRoutes : FuncData
  CheckRoutes : Df K mg "check_routes" sCheckRoutes ["routes", "shelves"] aCheckRoutes dCheckRoutes
  aIsRoute : Addr
  dIsRoute : FuncData
  IsRoute : Df K mg "is_route" sIsRoute ["route", "shelves"] aIsRoute dIsRoute
  aNumPlaces : Addr
  dNumPlaces : FuncData
  NumPlaces : Df K mg "number_of_places" sNumPlaces ["plan"] aNumPlaces dNumPlaces
  aVisitsIn : Addr
  dVisitsIn : FuncData
  VisitsIn : Df K mg "visits_in_tick" sVisitsIn ["routes", "number"] aVisitsIn dVisitsIn
  aCommon : Addr
  dCommon : FuncData
  Common : Df K mg "common_pattern" sCommon ["routes"] aCommon dCommon
  aRoutePat : Addr
  dRoutePat : FuncData
  RoutePat : Df K mg "route_pattern" sRoutePat ["route"] aRoutePat dRoutePat
  aJoin : Addr
  dJoin : FuncData
  Join : Df K mg "join_layout" sJoin ["carried", "shelves"] aJoin dJoin
  aSplit : Addr
  dSplit : FuncData
  Split : Df K mg "split_layout" sSplit ["plan", "contents"] aSplit dSplit
  aAfterTick : Addr
  dAfterTick : FuncData
  AfterTick : Df K mg "after_tick" sAfterTick ["plan", "number", "carried", "shelves"] aAfterTick dAfterTick
  aOrigins : Addr
  dOrigins : FuncData
  Origins : Df K mg "origins_after_tick" sOrigins ["plan", "number"] aOrigins dOrigins
  aEffectOf : Addr
  dEffectOf : FuncData
  EffectOf : Df K mg "effect_of" sEffectOf ["plan", "time", "count"] aEffectOf dEffectOf
  aEffectTicks : Addr
  dEffectTicks : FuncData
  EffectTicks : Df K mg "effect_of_ticks" sEffectTicks ["plan", "time", "count"] aEffectTicks dEffectTicks
  aRepeated : Addr
  dRepeated : FuncData
  Repeated : Df K mg "repeated" sRepeated ["effect", "count"] aRepeated dRepeated
  aCyclesOf : Addr
  dCyclesOf : FuncData
  CyclesOf : Df K mg "cycles_of" sCyclesOf ["effect"] aCyclesOf dCyclesOf
  aCycleFrom : Addr
  dCycleFrom : FuncData
  CycleFrom : Df K mg "cycle_from" sCycleFrom ["effect", "start"] aCycleFrom dCycleFrom
  aFirstDiff : Addr
  dFirstDiff : FuncData
  FirstDiff : Df K mg "first_difference" sFirstDiff ["plan", "other", "time"] aFirstDiff dFirstDiff
  aLMix : Addr
  dLMix : FuncData
  LMix : Df K mg "_law_mix" sMix ["_law_script", "_law_seed"] aLMix dLMix
  aLNext : Addr
  dLNext : FuncData
  LNext : Df K mg "_law_next" sNext ["_law_h", "_law_limit"] aLNext dLNext
  aLAlike : Addr
  dLAlike : FuncData
  LAlike : Df K mg "_law_alike" sAlike ["_law_found", "_law_due"] aLAlike dLAlike
  aLError : Addr
  dLError : FuncData
  LError : Df K mg "_law_error" sError ["_law_call"] aLError dLError
  aLPlan : Addr
  dLPlan : FuncData
  LPlan : Df K mg "_law_plan" sPlan ["_law_h", "_law_shelves", "_law_carriers"] aLPlan dLPlan
  aLState : Addr
  dLState : FuncData
  LState : Df K mg "_law_state" sState ["_law_h", "_law_plan_here"] aLState dLState
  aLStep : Addr
  dLStep : FuncData
  LStep : Df K mg "_law_step" sStep ["_law_plan_here", "_law_w"] aLStep dLStep
  aLBegun : Addr
  dLBegun : FuncData
  LBegun : Df K mg "_law_begun" sBegun ["_law_state_here"] aLBegun dLBegun
  aLSeen : Addr
  dLSeen : FuncData
  LSeen : Df K mg "_law_seen" sSeen ["_law_w"] aLSeen dLSeen
  aLOther : Addr
  dLOther : FuncData
  LOther : Df K mg "_law_other" sOther ["_law_h", "_law_plan_here"] aLOther dLOther
  aLLateRight : Addr
  dLLateRight : FuncData
  LLateRight : Df K mg "_law_late_right" sLateRight ["_law_h"] aLLateRight dLLateRight
  aLaw : Addr
  dLaw : FuncData
  Law : Df K mg "law" sLaw ["_law_script"] aLaw dLaw
end Sv
set_option maxHeartbeats 4000000
namespace Sv
open PySem PySem.Spec PyProof.Rows L2
def eV : Option Int → V
  | none => .non
  | some i => .int i
def rV (r : Ro) : List V := r.map eV
theorem rV_len (r : Ro) : (rV r).length = r.length := by unfold rV; simp
theorem rV_get {r : Ro} {i : Nat} {e : Option Int} (h : r[i]? = some e) : (rV r)[i]? = some (eV e) := by
  unfold rV
  rw [List.getElem?_map, h]
  rfl
theorem rV_lt {r : Ro} {i : Nat} {x : V} (h : (rV r)[i]? = some x) : ∃ e, r[i]? = some e ∧ x = eV e := by
  unfold rV at h
  rw [List.getElem?_map] at h
  cases e : r[i]? with
  | none => rw [e] at h; cases h
  | some y =>
    rw [e] at h
    exact ⟨y, rfl, (Option.some.inj h).symm⟩
theorem iV_lt {zs : List Int} {i : Nat} {x : V} (h : (zs.map V.int)[i]? = some x) : ∃ z, zs[i]? = some z ∧ x = .int z := by
  rw [List.getElem?_map] at h
  cases e : zs[i]? with
  | none => rw [e] at h; cases h
  | some y =>
    rw [e] at h
    exact ⟨y, rfl, (Option.some.inj h).symm⟩
theorem refs_lt {qs : List Addr} {i : Nat} {x : V} (h : (qs.map V.ref)[i]? = some x) : ∃ q, qs[i]? = some q ∧ x = .ref q := by
  rw [List.getElem?_map] at h
  cases e : qs[i]? with
  | none => rw [e] at h; cases h
  | some y =>
    rw [e] at h
    exact ⟨y, rfl, (Option.some.inj h).symm⟩
structure RtAt (K : PySem.W.Frag) (H : Hp) (b : Addr) (rs : List Ro) : Prop where
  ex : ∃ qs : List Addr, SqT K H b (qs.map V.ref) ∧ Paired (fun q r => SqT K H q (rV r)) qs rs
theorem paired_same {K : PySem.W.Frag} {H H' : Hp} (e : Same H H') : ∀ {qs : List Addr} {rs : List Ro}, Paired (fun q r => SqT K H q (rV r)) qs rs → Paired (fun q r => SqT K H' q (rV r)) qs rs
  | _, _, .nil => .nil
  | _, _, .cons h t => .cons (sqT_same e h) (paired_same e t)
theorem paired_len {K : PySem.W.Frag} {H : Hp} : ∀ {qs : List Addr} {rs : List Ro}, Paired (fun q r => SqT K H q (rV r)) qs rs → qs.length = rs.length
  | _, _, .nil => rfl
  | _, _, .cons _ t => congrArg Nat.succ (paired_len t)
theorem paired_at {K : PySem.W.Frag} {H : Hp} : ∀ {qs : List Addr} {rs : List Ro} {i : Nat} {q : Addr}, Paired (fun q r => SqT K H q (rV r)) qs rs → qs[i]? = some q → ∃ r, rs[i]? = some r ∧ SqT K H q (rV r)
  | _, _, i, q, .nil, e => by simp at e
  | _, _, 0, q, .cons h t, e => by
    obtain rfl := Option.some.inj e
    exact ⟨_, rfl, h⟩
  | _, _, i + 1, q, .cons h t, e => paired_at (i := i) t (by simpa using e)
theorem RtAt.same {K : PySem.W.Frag} {H H' : Hp} {b : Addr} {rs : List Ro} (x : RtAt K H b rs) (e : Same H H') : RtAt K H' b rs := by
  obtain ⟨qs, h1, h2⟩ := x.ex
  exact ⟨qs, sqT_same e h1, paired_same e h2⟩
/-- a plan in its place -/
structure PlanAt (K : PySem.W.Frag) (H : Hp) (p : Addr) (zs : List Int) (rs : List Ro) : Prop where
  ex : ∃ a b : Addr, SqT K H p [.ref a, .ref b] ∧ SqT K H a (zs.map V.int) ∧ RtAt K H b rs
theorem PlanAt.same {K : PySem.W.Frag} {H H' : Hp} {p : Addr} {zs : List Int} {rs : List Ro} (x : PlanAt K H p zs rs) (e : Same H H') : PlanAt K H' p zs rs := by
  obtain ⟨a, b, h1, h2, h3⟩ := x.ex
  exact ⟨a, b, sqT_same e h1, sqT_same e h2, h3.same e⟩
section
variable {P : Program} {w : World} {K : PySem.W.Frag} {mg : Str → Option Value} {base : Heap}
theorem scIsRoute : FnScope ["route", "shelves", "entry"] ["route", "shelves"] (defScope sIsRoute) := ⟨rfl, rfl, rfl, by decide +kernel, rfl, by decide +kernel, by decide +kernel⟩
def spIsRoute (K : PySem.W.Frag) : Sp := fun vs H Q _ => ∃ (q : Addr) (r : Ro) (n : Int), vs = [.ref q, .int n] ∧ SqT K H q (rV r) ∧ r.length ≤ 1000 ∧ Q (.bl (okR n r)) H
theorem okR_all {n : Int} {r : Ro} (h1 : 1 ≤ r.length ∧ r.length ≤ 6) (h : ∀ (j : Nat) (e : Option Int), r[j]? = some e → okE n e = true) : okR n r = true := by
  unfold okR
  rw [decide_eq_true h1, Bool.true_and]
  refine List.all_eq_true.mpr fun e he => ?_
  obtain ⟨j, hj⟩ := List.mem_iff_getElem?.mp he
  exact h j e hj
theorem okR_no {n : Int} {r : Ro} {j : Nat} {e : Option Int} (h : r[j]? = some e) (hb : okE n e = false) : okR n r = false := by
  unfold okR
  have : r.all (okE n) = false := by
    rw [List.all_eq_false]
    exact ⟨e, List.mem_of_getElem? h, by rw [hb]; decide⟩
  rw [this, Bool.and_false]
theorem ok_isRoute (T : Bd P K mg) : FnOk P w K mg base CX0 2 T.aIsRoute T.dIsRoute ["route", "shelves"] (spIsRoute K) := by
  have GW : FnOk P w K mg base CX0 1 T.aWithin T.dWithin ["number", "low", "high"] spWithin := ok_within T.Within.F T.bt.isinstance T.bt.bool T.bt.int
  obtain ⟨t4, h4⟩ := T.m4
  refine T.IsRoute.F.ok scIsRoute (fun vs H Q E h => ?_) (fun cdv A outer s H vs Q E hr h => ?_)
  · obtain ⟨q, r, n, rfl, _⟩ := h
    rfl
  · obtain ⟨q, r, n, rfl, hq, hl, hQ⟩ := h
    refine ⟨_, pss_cons (ps_if (pw_or (pt_not (pt_val (pe_callB call_isi (by rfl) T.bt.isinstance b_isinstance (pa_cons (pv 0) (pa_cons (pe_ty (by rfl) T.bt.tuple b_tuple) pa_nil)))))
        (pw_or1 (pt_not (pt_chain op_le op_le pe_int (pe_callB call_len_seq (by rfl) T.bt.len b_len (pa_cons (pv 0) pa_nil)) (pe_glob (v := .int 6) (by rfl) h4 ⟨_, rfl⟩))))).pt (pss_one (ps_ret pe_bl)) pss_nil)
      (pss_cons (ps_for PassesOwn.never rfl (pi_tup (pv 0)) (pg_name (i := 2) scIsRoute.nd rfl (Or.inl rfl))
        (pss_one (ps_if (pw_and (pt_cmpR op_notN (pv 2) pe_non (nomark _)) (pw_and1 (pt_not (pt_val (pe_call (E := E0) GW hr (by rfl) T.Within.g T.Within.F.kp T.Within.b .nil pass0 (pa_cons (pv 2) (pa_cons pe_int (pa_cons (pe_op op_sub (pv 1) pe_int) pa_nil)))))))).pt (pss_one (ps_ret pe_bl)) pss_nil)))
      (pss_one (ps_ret pe_bl))), ?_⟩
    refine ⟨.ref q, rfl, .ref q, .ty "tuple", _, _, true, rfl, .ty "tuple", tyx_tup hq, kit_ty (by decide +kernel), true, rfl, iteF ?_⟩
    refine ⟨.ref q, rfl, q, rV r, rfl, .inr hq, 1, _, rfl, rfl, _, rfl, ?_⟩
    rw [rV_len]
    have no : ∀ b, okR n r = b → b = false → Q (.bl false) H := fun b e1 e2 => by
      rw [e1, e2] at hQ
      exact hQ
    by_cases h1 : (1 : Int) ≤ (r.length : Nat)
    · rw [decide_eq_true h1]
      refine iteT ⟨_, _, rfl, rfl, _, rfl, ?_⟩
      by_cases h2 : ((r.length : Nat) : Int) ≤ 6
      · rw [decide_eq_true h2]
        refine iteF ?_
        have hlen : 1 ≤ r.length ∧ r.length ≤ 6 := ⟨by omega, by omega⟩
        refine ⟨.ref q, rfl, q, rfl, ⟨_, hq⟩, for_tup (xs := rV r) (fun i σ H' => (∃ y, σ = [some (.ref q), some (.int n), y]) ∧ H' = H ∧ ∀ j e, j < i → r[j]? = some e → okE n e = true) ⟨⟨none, rfl⟩, rfl, fun j e hj => by omega⟩ (fun i σ H' _ h => by rw [h.2.1]; exact hq)
          (fun i x σ H' hx ⟨⟨y, es⟩, eH, hok⟩ => ?_) (fun σ H' ⟨⟨y, es⟩, eH, hok⟩ => ?_)⟩
        · subst es
          subst eH
          obtain ⟨e, he, rfl⟩ := rV_lt hx
          have more : okE n e = true → ∀ j e', j < i + 1 → r[j]? = some e' → okE n e' = true := fun h j e' hj hh => by
            by_cases hji : j = i
            · rw [hji, he] at hh
              rw [← Option.some.inj hh]
              exact h
            · exact hok j e' (by omega) hh
          cases e with
          | none =>
            refine ⟨.non, rfl, rfl, false, rfl, iteF (iteF ⟨⟨_, rfl⟩, rfl, more rfl⟩)⟩
          | some z =>
            refine ⟨.int z, rfl, rfl, true, rfl, iteT ⟨.int z, rfl, .int n, rfl, n, 1, rfl, rfl, z, 0, n - 1, rfl, _, rfl, ?_⟩⟩
            by_cases hz : 0 ≤ z ∧ z ≤ n - 1
            · rw [decide_eq_true hz]
              exact iteF ⟨⟨_, rfl⟩, rfl, more (decide_eq_true hz)⟩
            · rw [decide_eq_false hz]
              exact iteT (no _ (okR_no he (decide_eq_false hz)) rfl)
        · subst es
          subst eH
          rw [rV_len] at hok
          have : okR n r = true := okR_all hlen fun j e he => hok j e (List.getElem?_eq_some_iff.mp he).1 he
          rw [this] at hQ
          exact hQ
      · rw [decide_eq_false h2]
        refine iteT (no _ ?_ rfl)
        unfold okR
        rw [decide_eq_false (fun z => h2 (by omega)), Bool.false_and]
    · rw [decide_eq_false h1]
      refine iteF ⟨false, rfl, iteT (no _ ?_ rfl)⟩
      unfold okR
      rw [decide_eq_false (fun z => h1 (by omega)), Bool.false_and]
end
end Sv
set_option maxHeartbeats 4000000
namespace Sv
open PySem PySem.Spec PyProof.Rows L2
section
variable {P : Program} {w : World} {K : PySem.W.Frag} {mg : Str → Option Value} {base : Heap}
theorem scCheckSizes : FnScope ["sizes", "index", "size"] ["sizes"] (defScope sCheckSizes) := ⟨rfl, rfl, rfl, by decide +kernel, rfl, by decide +kernel, by decide +kernel⟩
theorem scCheckRoutes : FnScope ["routes", "shelves", "index", "route"] ["routes", "shelves"] (defScope sCheckRoutes) := ⟨rfl, rfl, rfl, by decide +kernel, rfl, by decide +kernel, by decide +kernel⟩
theorem scCheckPlan : FnScope ["plan", "sizes", "routes"] ["plan"] (defScope sCheckPlan) := ⟨rfl, rfl, rfl, by decide +kernel, rfl, by decide +kernel, by decide +kernel⟩
theorem small_idx {i : Nat} (h : i ≤ 1000) : ((i : Nat) : Int).natAbs < 2 ^ 100 := Nat.lt_of_le_of_lt (by omega : ((i : Nat) : Int).natAbs ≤ 1000) (by decide)
def spCheckSizes (K : PySem.W.Frag) (C : Addr) : Sp := fun vs H Q E => ∃ (a : Addr) (zs : List Int), vs = [.ref a] ∧ SqT K H a (zs.map V.int) ∧ zs.length ≤ 1000 ∧ (badS zs = none → ∀ H', Same H H' → Q .non H') ∧ (∀ i, badS zs = some i → PlanE C H "sizes" i E)
theorem ok_checkSizes (T : Bd P K mg) : FnOk P w K mg base (L2.CX P w) 3 T.aCheckSizes T.dCheckSizes ["sizes"] (spCheckSizes K T.C) := by
  have GW : FnOk P w K mg base CX0 1 T.aWithin T.dWithin ["number", "low", "high"] spWithin := ok_within T.Within.F T.bt.isinstance T.bt.bool T.bt.int
  obtain ⟨t1, h1⟩ := T.m1
  obtain ⟨t2, h2⟩ := T.m2
  refine T.CheckSizes.F.okX scCheckSizes (fun vs H Q E h => ?_) (fun cdv A outer s H vs Q E hr h => ?_)
  · obtain ⟨a, zs, rfl, _⟩ := h
    rfl
  · obtain ⟨a, zs, rfl, hA, hl, q1, q2⟩ := h
    refine ⟨_, pss_cons (ps_if (pt_not (pt_chain op_le op_le pe_int (pe_callB call_len_seq (by rfl) T.bt.len b_len (pa_cons (pv 0) pa_nil)) (pe_glob (v := .int 12) (by rfl) h1 ⟨_, rfl⟩)))
        (pss_one (ps_raise rfl (takes_of rfl rfl rfl rfl) (pmk_plan T.pl hr (by rfl) pe_str (pe_un un_neg pe_int)))) pss_nil)
      (pss_one (ps_for (passes_of rfl) rfl (pi_enumT (by rfl) T.bt.enumerate (pa_cons (pv 0) pa_nil)) (pg_tup rfl (pgs_cons (pg_name (i := 1) scCheckSizes.nd rfl (.inl rfl)) (pgs_cons (pg_name (i := 2) scCheckSizes.nd rfl (.inl rfl)) pgs_nil)))
        (pss_one (ps_if (pt_not (pt_val (pe_call (E := E0) GW (hr.mono (by decide)) (by rfl) T.Within.g T.Within.F.kp T.Within.b .nil pass0 (pa_cons (pv 2) (pa_cons pe_int (pa_cons (pe_glob (v := .int 9) (by rfl) h2 ⟨_, rfl⟩) pa_nil))))))
          (pss_one (ps_raise rfl (takes_of rfl rfl rfl rfl) (pmk_plan T.pl hr (by rfl) pe_str (pv 1)))) pss_nil)))), ?_⟩
    have big : (-1 : Int).natAbs < 2 ^ 100 := by decide
    have lw : ("sizes" : Str).length ≤ 1000 := by decide
    have no : ¬ (1 ≤ zs.length ∧ zs.length ≤ 12) → PlanE T.C H "sizes" (-1) E := fun hz => q2 (-1) (by unfold badS; rw [if_neg hz])
    refine ⟨.ref a, rfl, a, _, rfl, .inr hA, 1, _, rfl, rfl, _, rfl, ?_⟩
    rw [List.length_map]
    by_cases c1 : (1 : Int) ≤ (zs.length : Nat)
    · rw [decide_eq_true c1]
      refine iteT ⟨_, _, rfl, rfl, _, rfl, ?_⟩
      by_cases c2 : ((zs.length : Nat) : Int) ≤ 12
      · rw [decide_eq_true c2]
        have hz : 1 ≤ zs.length ∧ zs.length ≤ 12 := ⟨by omega, by omega⟩
        have eb : badS zs = (fst okZ zs 0).map fun (k : Nat) => (k : Int) := by unfold badS; rw [if_pos hz]
        refine iteF ⟨.ref a, rfl, a, _, rfl, hA, for_enumT (xs := zs.map V.int) (fun i σ H' => (∃ y1 y2, σ = [some (.ref a), y1, y2]) ∧ Same H H' ∧ ∀ (j : Nat) (z : Int), j < i → zs[j]? = some z → okZ z = true) ⟨⟨none, none, rfl⟩, fun _ _ h => h, fun j z hj => by omega⟩
          (fun i σ H' _ h => sqT_same h.2.1 hA) (fun i x σ H' U hx ⟨⟨y1, y2, es⟩, sm, hok⟩ hU => ?_) (fun σ H' ⟨_, sm, hok⟩ => ?_)⟩
        · subst es
          obtain ⟨z, hz1, rfl⟩ := iV_lt hx
          have sm2 : Same H (upd H' U (.tup [.int (i : Nat), .int z])) := same_of sm (Same.free sm hU)
          refine ⟨U, [.int (i : Nat), .int z], rfl, .inl (.inl upd_same), rfl, _, _, rfl, _, _, rfl, rfl, ?_⟩
          refine ⟨.int z, rfl, z, 0, 9, rfl, _, rfl, ?_⟩
          by_cases hzz : 0 ≤ z ∧ z ≤ 9
          · rw [decide_eq_true hzz]
            refine iteF ⟨⟨_, _, rfl⟩, sm2, fun j z' hj hz' => ?_⟩
            by_cases hji : j = i
            · rw [hji, hz1] at hz'
              rw [← Option.some.inj hz']
              exact decide_eq_true hzz
            · exact hok j z' (by omega) hz'
          · rw [decide_eq_false hzz]
            have il : i < zs.length := (List.getElem?_eq_some_iff.mp hz1).1
            refine iteT ⟨.int (i : Nat), rfl, mk_go lw (small_idx (by omega)) ((q2 i ?_).imp sm2)⟩
            rw [eb, fst_some (i := i) (x := z) hok hz1 (decide_eq_false hzz)]
            rfl
        · rw [List.length_map] at hok
          refine q1 ?_ H' sm
          rw [eb, fst_none fun j z hz' => hok j z (List.getElem?_eq_some_iff.mp hz').1 hz']
          rfl
      · rw [decide_eq_false c2]
        exact iteT ⟨1, rfl, mk_go lw big (no fun z => c2 (by omega))⟩
    · rw [decide_eq_false c1]
      exact iteF ⟨false, rfl, iteT ⟨1, rfl, mk_go lw big (no fun z => c1 (by omega))⟩⟩
def spCheckRoutes (K : PySem.W.Frag) (C : Addr) : Sp := fun vs H Q E => ∃ (b : Addr) (rs : List Ro) (n : Int), vs = [.ref b, .int n] ∧ RtAt K H b rs ∧ rs.length ≤ 1000 ∧ (∀ r ∈ rs, r.length ≤ 1000) ∧ (badR n rs = none → ∀ H', Same H H' → Q .non H') ∧ (∀ i, badR n rs = some i → PlanE C H "routes" i E)
theorem ok_checkRoutes (T : Bd P K mg) : FnOk P w K mg base (L2.CX P w) 3 T.aCheckRoutes T.dCheckRoutes ["routes", "shelves"] (spCheckRoutes K T.C) := by
  have GT : FnOk P w K mg base CX0 2 T.aIsRoute T.dIsRoute ["route", "shelves"] (spIsRoute K) := ok_isRoute T
  obtain ⟨t3, h3⟩ := T.m3
  refine T.CheckRoutes.F.okX scCheckRoutes (fun vs H Q E h => ?_) (fun cdv A outer s H vs Q E hr h => ?_)
  · obtain ⟨b, rs, n, rfl, _⟩ := h
    rfl
  · obtain ⟨b, rs, n, rfl, hB, hl, hrl, q1, q2⟩ := h
    obtain ⟨qs, hA, hP⟩ := hB.ex
    have hql := paired_len hP
    refine ⟨_, pss_cons (ps_if (pt_not (pt_chain op_le op_le pe_int (pe_callB call_len_seq (by rfl) T.bt.len b_len (pa_cons (pv 0) pa_nil)) (pe_glob (v := .int 6) (by rfl) h3 ⟨_, rfl⟩)))
        (pss_one (ps_raise rfl (takes_of rfl rfl rfl rfl) (pmk_plan T.pl hr (by rfl) pe_str (pe_un un_neg pe_int)))) pss_nil)
      (pss_one (ps_for (passes_of rfl) rfl (pi_enumT (by rfl) T.bt.enumerate (pa_cons (pv 0) pa_nil)) (pg_tup rfl (pgs_cons (pg_name (i := 2) scCheckRoutes.nd rfl (.inl rfl)) (pgs_cons (pg_name (i := 3) scCheckRoutes.nd rfl (.inl rfl)) pgs_nil)))
        (pss_one (ps_if (pt_not (pt_val (pe_call (E := E0) GT hr (by rfl) T.IsRoute.g T.IsRoute.F.kp T.IsRoute.b .nil pass0 (pa_cons (pv 3) (pa_cons (pv 1) pa_nil)))))
          (pss_one (ps_raise rfl (takes_of rfl rfl rfl rfl) (pmk_plan T.pl hr (by rfl) pe_str (pv 2)))) pss_nil)))), ?_⟩
    have big : (-1 : Int).natAbs < 2 ^ 100 := by decide
    have lw : ("routes" : Str).length ≤ 1000 := by decide
    have no : ¬ (1 ≤ rs.length ∧ rs.length ≤ 6) → PlanE T.C H "routes" (-1) E := fun hz => q2 (-1) (by unfold badR; rw [if_neg hz])
    refine ⟨.ref b, rfl, b, _, rfl, .inr hA, 1, _, rfl, rfl, _, rfl, ?_⟩
    rw [List.length_map, hql]
    by_cases c1 : (1 : Int) ≤ (rs.length : Nat)
    · rw [decide_eq_true c1]
      refine iteT ⟨_, _, rfl, rfl, _, rfl, ?_⟩
      by_cases c2 : ((rs.length : Nat) : Int) ≤ 6
      · rw [decide_eq_true c2]
        have hz : 1 ≤ rs.length ∧ rs.length ≤ 6 := ⟨by omega, by omega⟩
        have eb : badR n rs = (fst (okR n) rs 0).map fun (k : Nat) => (k : Int) := by unfold badR; rw [if_pos hz]
        refine iteF ⟨.ref b, rfl, b, _, rfl, hA, for_enumT (xs := qs.map V.ref) (fun i σ H' => (∃ y1 y2, σ = [some (.ref b), some (.int n), y1, y2]) ∧ Same H H' ∧ ∀ (j : Nat) (r : Ro), j < i → rs[j]? = some r → okR n r = true) ⟨⟨none, none, rfl⟩, fun _ _ h => h, fun j z hj => by omega⟩
          (fun i σ H' _ h => sqT_same h.2.1 hA) (fun i x σ H' U hx ⟨⟨y1, y2, es⟩, sm, hok⟩ hU => ?_) (fun σ H' ⟨_, sm, hok⟩ => ?_)⟩
        · subst es
          obtain ⟨qa, hqa, rfl⟩ := refs_lt hx
          obtain ⟨r, hr1, hqr⟩ := paired_at hP hqa
          have sm2 : Same H (upd H' U (.tup [.int (i : Nat), .ref qa])) := same_of sm (Same.free sm hU)
          refine ⟨U, [.int (i : Nat), .ref qa], rfl, .inl (.inl upd_same), rfl, _, _, rfl, _, _, rfl, rfl, ?_⟩
          refine ⟨.ref qa, rfl, .int n, rfl, qa, r, n, rfl, sqT_same sm2 hqr, hrl r (List.mem_of_getElem? hr1), _, rfl, ?_⟩
          by_cases hzz : okR n r = true
          · rw [hzz]
            refine iteF ⟨⟨_, _, rfl⟩, sm2, fun j z' hj hz' => ?_⟩
            by_cases hji : j = i
            · rw [hji, hr1] at hz'
              rw [← Option.some.inj hz']
              exact hzz
            · exact hok j z' (by omega) hz'
          · have hzf : okR n r = false := by simpa using hzz
            rw [hzf]
            have il : i < rs.length := (List.getElem?_eq_some_iff.mp hr1).1
            refine iteT ⟨.int (i : Nat), rfl, mk_go lw (small_idx (by omega)) ((q2 i ?_).imp sm2)⟩
            rw [eb, fst_some (i := i) (x := r) hok hr1 hzf]
            rfl
        · rw [List.length_map, hql] at hok
          refine q1 ?_ H' sm
          rw [eb, fst_none fun j z hz' => hok j z (List.getElem?_eq_some_iff.mp hz').1 hz']
          rfl
      · rw [decide_eq_false c2]
        exact iteT ⟨1, rfl, mk_go lw big (no fun z => c2 (by omega))⟩
    · rw [decide_eq_false c1]
      exact iteF ⟨false, rfl, iteT ⟨1, rfl, mk_go lw big (no fun z => c1 (by omega))⟩⟩
def spCheckPlan (K : PySem.W.Frag) (C : Addr) : Sp := fun vs H Q E => ∃ (p : Addr) (zs : List Int) (rs : List Ro), vs = [.ref p] ∧ PlanAt K H p zs rs ∧ Small zs rs ∧ (bad zs rs = none → ∀ H', Same H H' → Q .non H') ∧ (∀ part i, bad zs rs = some (part, i) → PlanE C H part i E)
theorem ok_checkPlan (T : Bd P K mg) : FnOk P w K mg base (L2.CX P w) 4 T.aCheckPlan T.dCheckPlan ["plan"] (spCheckPlan K T.C) := by
  have GS : FnOk P w K mg base (L2.CX P w) 3 T.aCheckSizes T.dCheckSizes ["sizes"] (spCheckSizes K T.C) := ok_checkSizes T
  have GR : FnOk P w K mg base (L2.CX P w) 3 T.aCheckRoutes T.dCheckRoutes ["routes", "shelves"] (spCheckRoutes K T.C) := ok_checkRoutes T
  refine T.CheckPlan.F.okX scCheckPlan (fun vs H Q E h => ?_) (fun cdv A outer s H vs Q E hr h => ?_)
  · obtain ⟨p, zs, rs, rfl, _⟩ := h
    rfl
  · obtain ⟨p, zs, rs, rfl, hp, ⟨l1, l2, l3⟩, q1, q2⟩ := h
    obtain ⟨a, b, hp1, ha, hb⟩ := hp.ex
    refine ⟨_, pss_cons (ps_asg (pv 0) (pg_tup rfl (pgs_cons (pg_name (i := 1) scCheckPlan.nd rfl (.inl rfl)) (pgs_cons (pg_name (i := 2) scCheckPlan.nd rfl (.inl rfl)) pgs_nil))))
      (pss_cons (ps_expr (pe_call (E := E) GS hr (by rfl) T.CheckSizes.g T.CheckSizes.F.kp T.CheckSizes.b .nil (passes_call (takes_of rfl rfl rfl rfl) fun _ _ _ _ h => h) (pa_cons (pv 1) pa_nil)))
      (pss_one (ps_expr (pe_call (E := E) GR hr (by rfl) T.CheckRoutes.g T.CheckRoutes.F.kp T.CheckRoutes.b .nil (passes_call (takes_of rfl rfl rfl rfl) fun _ _ _ _ h => h) (pa_cons (pv 2) (pa_cons (pe_callB call_len_seq (by rfl) T.bt.len b_len (pa_cons (pv 1) pa_nil)) pa_nil)))))), ?_⟩
    refine ⟨.ref p, rfl, p, [.ref a, .ref b], rfl, hp1, rfl, _, _, rfl, _, _, rfl, rfl, ?_⟩
    refine ⟨.ref a, rfl, a, zs, rfl, ha, l1, fun e1 H1 sm1 => ?_, fun i e1 => q2 _ i ?_⟩
    · refine ⟨.ref b, rfl, .ref a, rfl, a, _, rfl, .inr (sqT_same sm1 ha), b, rs, _, rfl, hb.same sm1, l2, l3, fun e2 H2 sm2 => q1 ?_ H2 (sm1.trans sm2), fun i e2 => (q2 "routes" i ?_).imp sm1⟩
      · unfold bad
        rw [e1]
        rw [List.length_map] at e2
        simp only [e2, Option.map_none]
      · unfold bad
        rw [e1]
        rw [List.length_map] at e2
        simp only [e2, Option.map_some]
    · unfold bad
      rw [e1]
end
end Sv
set_option maxHeartbeats 4000000
namespace Sv
open PySem PySem.Spec PyProof.Rows L2
abbrev TupsV (H : Hp) (ps : List Addr) (ts : List (List V)) : Prop := Paired (fun p t => H p = some (.tup t)) ps ts
theorem tupsV_imp {H H' : Hp} (e : ∀ b xs, H b = some (.tup xs) → H' b = some (.tup xs)) : ∀ {ps : List Addr} {ts : List (List V)}, TupsV H ps ts → TupsV H' ps ts
  | _, _, .nil => .nil
  | _, _, .cons h t => .cons (e _ _ h) (tupsV_imp e t)
theorem tupsV_same {H H' : Hp} (e : Same H H') {ps : List Addr} {ts : List (List V)} (h : TupsV H ps ts) : TupsV H' ps ts := tupsV_imp (fun b xs q => e _ _ q) h
theorem tupsV_len {H : Hp} : ∀ {ps : List Addr} {ts : List (List V)}, TupsV H ps ts → ps.length = ts.length
  | _, _, .nil => rfl
  | _, _, .cons _ t => congrArg Nat.succ (tupsV_len t)
theorem tupsV_app {H : Hp} : ∀ {ps qs : List Addr} {ts us : List (List V)}, TupsV H ps ts → TupsV H qs us → TupsV H (ps ++ qs) (ts ++ us)
  | _, _, _, _, .nil, h => h
  | _, _, _, _, .cons h t, h2 => .cons h (tupsV_app t h2)
theorem tupsV_snoc {H : Hp} {p : Addr} {t : List V} {ps : List Addr} {ts : List (List V)} (h : TupsV H ps ts) (hp : H p = some (.tup t)) : TupsV H (ps ++ [p]) (ts ++ [t]) := tupsV_app h (.cons hp .nil)
/-- at f a list of new tuples -/
structure TL (H : Hp) (f : Addr) (ts : List (List V)) : Prop where
  ex : ∃ ps : List Addr, H f = some (.lst (ps.map V.ref)) ∧ TupsV H ps ts
theorem TL.same {H H' : Hp} {f : Addr} {ts : List (List V)} (x : TL H f ts) (e : Same H H') : TL H' f ts := by
  obtain ⟨ps, h1, h2⟩ := x.ex
  exact ⟨ps, e _ _ h1, tupsV_same e h2⟩
/-- one more behind -/
theorem TL.push {H : Hp} {f p : Addr} {ts : List (List V)} {t : List V} {xs : List V} (x : TL H f ts) (hf : H f = some (.lst xs)) (hp : H p = some (.tup t)) : TL (upd H f (.lst (xs ++ [.ref p]))) f (ts ++ [t]) := by
  obtain ⟨ps, h1, h2⟩ := x.ex
  rw [hf] at h1
  obtain rfl := HO.lst.inj (Option.some.inj h1)
  refine ⟨ps ++ [p], by rw [upd_same, List.map_append]; rfl, tupsV_imp (fun b xs q => ?_) (tupsV_snoc h2 hp)⟩
  rw [upd_ne (fun z => by rw [z, hf] at q; cases q)]
  exact q
def NewTL (H : Hp) (ts : List (List V)) (Q : VK) : Prop := ∀ H' f, Same H H' → H f = none → TL H' f ts → Q (.ref f) H'
def pairV (c : Nat) (z : Int) : List V := [.int (c : Nat), .int z]
/-- the pairs of the first k carriers -/
def meetN (rs : List Ro) (m : Int) : Nat → List (List V)
  | 0 => []
  | k + 1 => meetN rs m k ++ (match rs[k]? with | some r => (match ent r m with | some z => [pairV k z] | none => []) | none => [])
def meets (rs : List Ro) (m : Int) : List (List V) := meetN rs m rs.length
theorem meetN_none {rs : List Ro} {m : Int} {k : Nat} {r : Ro} (h : rs[k]? = some r) (e : ent r m = none) : meetN rs m (k + 1) = meetN rs m k := by
  conv => lhs; unfold meetN
  rw [h]
  simp only [e, List.append_nil]
theorem meetN_some {rs : List Ro} {m : Int} {k : Nat} {r : Ro} {z : Int} (h : rs[k]? = some r) (e : ent r m = some z) : meetN rs m (k + 1) = meetN rs m k ++ [pairV k z] := by
  conv => lhs; unfold meetN
  rw [h]
  simp only [e]
theorem meetN_len (rs : List Ro) (m : Int) : ∀ k, (meetN rs m k).length ≤ k
  | 0 => Nat.le_refl _
  | k + 1 => by
    unfold meetN
    rw [List.length_append]
    have := meetN_len rs m k
    split
    · split
      · simp; omega
      · simp; omega
    · simp; omega
section
variable {P : Program} {w : World} {K : PySem.W.Frag} {mg : Str → Option Value} {base : Heap}
theorem scVisitsIn : FnScope ["routes", "number", "found", "carrier", "route", "shelf"] ["routes", "number"] (defScope sVisitsIn) := ⟨rfl, rfl, rfl, by decide +kernel, rfl, by decide +kernel, by decide +kernel⟩
def spVisitsIn (K : PySem.W.Frag) : Sp := fun vs H Q _ => ∃ (b : Addr) (rs : List Ro) (n : Int), vs = [.ref b, .int n] ∧ RtAt K H b rs ∧ rs.length ≤ 1000 ∧ (∀ r ∈ rs, r ≠ [] ∧ r.length ≤ 1000) ∧ NewTL H (meets rs (n - 1)) Q
theorem ok_visitsIn {f : Addr} {fd : FuncData} (F : Df K mg "visits_in_tick" sVisitsIn ["routes", "number"] f fd) (B : Bt mg) : FnOk P w K mg base CX0 1 f fd ["routes", "number"] (spVisitsIn K) := by
  refine F.F.ok scVisitsIn (fun vs H Q E h => ?_) (fun cdv A outer s H vs Q E hr h => ?_)
  · obtain ⟨b, rs, n, rfl, _⟩ := h
    rfl
  · obtain ⟨b, rs, n, rfl, hB, hl, hrs, q⟩ := h
    obtain ⟨qs, hA, hP⟩ := hB.ex
    have hql := paired_len hP
    refine ⟨_, pss_cons (ps_set (i := 2) scVisitsIn.nd rfl (Or.inl rfl) (pe_lst pa_nil))
      (pss_cons (ps_for PassesOwn.never rfl (pi_enumT (by rfl) B.enumerate (pa_cons (pv 0) pa_nil)) (pg_tup rfl (pgs_cons (pg_name (i := 3) scVisitsIn.nd rfl (.inl rfl)) (pgs_cons (pg_name (i := 4) scVisitsIn.nd rfl (.inl rfl)) pgs_nil)))
        (pss_cons (ps_set (i := 5) scVisitsIn.nd rfl (Or.inl rfl) (pe_ix ix_tup (pv 4) (pe_op op_mod (pe_op op_sub (pv 1) pe_int) (pe_callB call_len_seq (by rfl) B.len b_len (pa_cons (pv 4) pa_nil))) (fun _ _ => rfl)))
        (pss_one (ps_if (pt_cmpR op_notN (pv 5) pe_non (nomark _)) (pss_one (ps_expr (pe_bm PySem.F.plainAttrs_list PySem.F.slot_list_append PySem.F.type_list_append mt_append (pv 2) (pa_cons (pe_tup (pa_cons (pv 3) (pa_cons (pv 5) pa_nil))) pa_nil)))) pss_nil))))
      (pss_one (ps_ret (pv 2)))), ?_⟩
    refine ⟨Nat.zero_le _, fun f hf => ?_⟩
    have sm0 : Same H (upd H f (.lst [])) := same_upd hf
    refine ⟨.ref b, rfl, b, _, rfl, sqT_same sm0 hA, for_enumT (xs := qs.map V.ref) (fun i σ H' => (∃ y3 y4 y5, σ = [some (.ref b), some (.int n), some (.ref f), y3, y4, y5]) ∧ Same H H' ∧ TL H' f (meetN rs (n - 1) i)) ⟨⟨none, none, none, rfl⟩, sm0, [], upd_same, .nil⟩
      (fun i σ H' _ h => sqT_same h.2.1 hA) (fun i x σ H' U hx ⟨⟨y3, y4, y5, es⟩, sm, tl⟩ hU => ?_) (fun σ H' ⟨⟨y3, y4, y5, es⟩, sm, tl⟩ => ?_)⟩
    · subst es
      obtain ⟨qa, hqa, rfl⟩ := refs_lt hx
      obtain ⟨r, hr1, hqr⟩ := paired_at hP hqa
      have il : i < rs.length := (List.getElem?_eq_some_iff.mp hr1).1
      obtain ⟨rne, rl⟩ := hrs r (List.mem_of_getElem? hr1)
      obtain ⟨eg, em⟩ := ent_get rne (n - 1)
      have hrl : 0 < r.length := List.length_pos_iff.mpr rne
      have sm2 : Same H (upd H' U (.tup [.int (i : Nat), .ref qa])) := same_of sm (Same.free sm hU)
      have tl2 := tl.same (same_upd (o := .tup [.int (i : Nat), .ref qa]) hU)
      refine ⟨U, [.int (i : Nat), .ref qa], rfl, .inl (.inl upd_same), rfl, _, _, rfl, _, _, rfl, rfl, ?_⟩
      generalize upd H' U (.tup [.int (i : Nat), .ref qa]) = H2 at sm2 tl2 ⊢
      have hq2 := sqT_same sm2 hqr
      obtain ⟨ps, hff, htv⟩ := tl2.ex
      have pl : ps.length ≤ i := by rw [tupsV_len htv]; exact meetN_len _ _ _
      have eg2 : (rV r)[((n - 1) % (r.length : Int)).toNat]? = some (eV (ent r (n - 1))) := rV_get eg
      have hmod : (n - 1) % (((rV r).length : Nat) : Int) = (((n - 1) % (r.length : Int)).toNat : Nat) := by rw [rV_len]; exact em
      have hpos : (0 : Int) < (((rV r).length : Nat) : Int) := by rw [rV_len]; omega
      refine ⟨.ref qa, rfl, .int n, rfl, n, 1, rfl, rfl, .ref qa, rfl, qa, rV r, rfl, .inr hq2, n - 1, _, rfl, rfl, hpos, qa, rV r, _, eV (ent r (n - 1)), rfl, rfl, hq2, ?_, ?_⟩
      · show atI (rV r) ((n - 1) % (((rV r).length : Nat) : Int)) = _
        rw [hmod]
        exact atI_nat eg2
      cases he : ent r (n - 1) with
      | none =>
        refine ⟨.non, rfl, rfl, false, rfl, iteF ⟨⟨_, _, _, rfl⟩, sm2, ?_⟩⟩
        rw [meetN_none hr1 he]
        exact tl2
      | some z =>
        refine ⟨.int z, rfl, rfl, true, rfl, iteT ⟨.ref f, rfl, .inl ⟨rfl, _, .inl (.inl hff)⟩, .int (i : Nat), rfl, .int z, rfl, (by show 2 ≤ sizeLine; decide), fun p hp => ?_⟩⟩
        have fp : f ≠ p := ne_of_none hff hp
        have hf2 : (upd H2 p (.tup [.int (i : Nat), .int z])) f = some (.lst (ps.map V.ref)) := by rw [upd_ne fp]; exact hff
        refine ⟨f, _, _, rfl, rfl, hf2, ?_, ⟨_, _, _, rfl⟩, same_of (same_of sm2 (Same.free sm2 hp)) hf, ?_⟩
        · rw [List.length_map]
          exact small1000 (by omega)
        · rw [meetN_some hr1 he]
          exact (tl2.same (same_upd hp)).push hf2 upd_same
    · subst es
      rw [List.length_map, hql] at tl
      exact ⟨.ref f, rfl, q H' f sm hf tl⟩
end
end Sv
set_option maxHeartbeats 4000000
namespace Sv
open PySem PySem.Spec PyProof.Rows L2
/-- a test's reading, made to hold of more -/
def tMoT (t : TT) : TT := fun σ H Q => ∃ Q0 : Bool → Hp → Prop, t σ H Q0 ∧ ∀ b H1, Q0 b H1 → Q b H1
theorem pt_mo {X : Cx} {e : Expr} {t : TT} (h : PT X e t) : PT X e (tMoT t) := by
  refine ⟨fun pins s σ H Q I ⟨Q0, h0, h1⟩ => thn (h.run pins s σ H Q0 I h0) fun b s1 hb => ?_⟩
  obtain ⟨H1, J, q⟩ := hb
  exact ⟨H1, J, h1 _ _ q⟩
theorem mo_mono {t : TT} : ∀ (σ : L2.St) (H : Hp) (Q Q' : Bool → Hp → Prop), (∀ b H1, Q b H1 → Q' b H1) → tMoT t σ H Q → tMoT t σ H Q' := fun σ H Q Q' hq ⟨Q0, h0, h1⟩ => ⟨Q0, h0, fun b H1 q => hq _ _ (h1 _ _ q)⟩
theorem mo_go {t : TT} {σ : L2.St} {H : Hp} {Q : Bool → Hp → Prop} (h : t σ H Q) : tMoT t σ H Q := ⟨Q, h, fun _ _ q => q⟩
def dE : Option Int → PyData
  | none => .none
  | some i => .int i
def dRs (r : Ro) : List PyData := r.map dE
def dR (r : Ro) : PyData := .tuple (dRs r)
theorem dp_eV {K : PySem.W.Frag} {H : Hp} : ∀ e : Option Int, Dp K H (eV e) (dE e)
  | none => .non
  | some i => .int i
theorem dpAll_rV {K : PySem.W.Frag} {H : Hp} : ∀ r : Ro, DpAll K H (rV r) (dRs r)
  | [] => .nil
  | e :: r => .cons (dp_eV e) (dpAll_rV r)
theorem dp_rV {K : PySem.W.Frag} {H : Hp} {a : Addr} {r : Ro} (h : SqT K H a (rV r)) : Dp K H (.ref a) (dR r) := .tup h (dpAll_rV r)
theorem eqv_dE : ∀ a b : Option Int, PyData.eqv (dE a) (dE b) = decide (a = b)
  | none, none => by show PyData.eqv .none .none = _; rw [PyData.eqv]; rfl
  | none, some j => by show PyData.eqv .none (.int j) = _; rw [PyData.eqv]; rfl
  | some i, none => by show PyData.eqv (.int i) .none = _; rw [PyData.eqv]; rfl
  | some i, some j => by
    show PyData.eqv (.int i) (.int j) = _
    rw [PyData.eqv]
    by_cases h : i = j
    · subst h
      simp
    · rw [decide_eq_false (fun z => h (Option.some.inj z))]
      simpa using h
theorem eqv_dRs : ∀ a b : Ro, PyData.eqvAll (dRs a) (dRs b) = decide (a = b)
  | [], [] => by show PyData.eqvAll [] [] = _; rw [PyData.eqvAll]; rfl
  | [], y :: b => by show PyData.eqvAll [] (dE y :: dRs b) = _; rw [PyData.eqvAll]; rfl
  | x :: a, [] => by show PyData.eqvAll (dE x :: dRs a) [] = _; rw [PyData.eqvAll]; rfl
  | x :: a, y :: b => by
    show PyData.eqvAll (dE x :: dRs a) (dE y :: dRs b) = _
    rw [PyData.eqvAll, eqv_dE, eqv_dRs a b]
    by_cases h1 : x = y
    · subst h1
      by_cases h2 : a = b
      · subst h2
        simp
      · simp [h2]
    · simp [h1]
theorem eqv_dR (a b : Ro) : PyData.eqv (dR a) (dR b) = decide (a = b) := by
  show PyData.eqv (.tuple (dRs a)) (.tuple (dRs b)) = _
  rw [PyData.eqv]
  exact eqv_dRs a b
theorem can_dRs : ∀ r : Ro, PyData.canLayAll0 (dRs r) = true
  | [] => by show PyData.canLayAll0 [] = true; rw [PyData.canLayAll0]
  | e :: r => by
    show PyData.canLayAll0 (dE e :: dRs r) = true
    rw [PyData.canLayAll0, can_dRs r, Bool.and_true]
    cases e with
    | none => show PyData.canLay0 .none = true; rw [PyData.canLay0]
    | some i => show PyData.canLay0 (.int i) = true; rw [PyData.canLay0]
theorem dep_dRs : ∀ r : Ro, PyData.depthAll (dRs r) ≤ 1
  | [] => by show PyData.depthAll [] ≤ 1; rw [PyData.depthAll]; omega
  | e :: r => by
    show PyData.depthAll (dE e :: dRs r) ≤ 1
    rw [PyData.depthAll]
    have h1 := dep_dRs r
    have h2 : PyData.depth (dE e) ≤ 1 := by
      cases e with
      | none => show PyData.depth .none ≤ 1; simp only [PyData.depth]; omega
      | some i => show PyData.depth (.int i) ≤ 1; simp only [PyData.depth]; omega
    omega
theorem shaped_dR (r : Ro) : SeqAt.shaped (dR r) = true := by
  unfold SeqAt.shaped
  rw [Bool.and_eq_true]
  refine ⟨?_, decide_eq_true ?_⟩
  · show PyData.canLay0 (.tuple (dRs r)) = true
    rw [PyData.canLay0]
    exact can_dRs r
  · show PyData.depth (.tuple (dRs r)) ≤ 64
    have h := dep_dRs r
    rw [PyData.depth]
    omega
@[irreducible] def qSl (K : PySem.W.Frag) : V → Option Int → Option Int → Hp → VK → Prop := rSlA K
@[irreducible] def qCat (K : PySem.W.Frag) : R2 := rCatA K
@[irreducible] def qNe (K : PySem.W.Frag) : R2 := rNeD K
theorem sl_tupQ {X : Cx} : SlR X (qSl X.K) := by
  unfold qSl
  exact sl_tupA
theorem op_catQ {X : Cx} : OpR X (binaryOp .Add) (qCat X.K) := by
  unfold qCat
  exact op_catA
theorem op_neQ {X : Cx} (hu : X.A.units + 64 < cLine) : OpR X (compareOp .NotEq) (qNe X.K) := by
  unfold qNe
  exact op_neD hu
section
variable {K : PySem.W.Frag} {H : Hp} {a b : Addr} {xs ys : List V} {lo hi : Option Int} {Q : VK}
theorem sl_go (hA : SqT K H a xs) (q : ∀ H' p, Same H H' → SqT K H' p (cutV xs lo hi) → Q (.ref p) H') : qSl K (.ref a) lo hi H Q := by
  unfold qSl
  refine ⟨a, xs, rfl, hA, fun hw => ?_, fun _ p hp => q _ p (same_upd hp) (.inl (.inl upd_same))⟩
  refine q H a (fun _ _ h => h) ?_
  have e : cutV xs lo hi = xs := by
    unfold cutV
    rw [hw.1, hw.2, List.drop_zero, Nat.sub_zero]
    exact List.take_of_length_le (Nat.le_refl _)
  rw [e]
  exact hA
theorem cat_go (hA : SqT K H a xs) (hB : SqT K H b ys) (hl : xs.length + ys.length ≤ 1000) (q : ∀ H' p, Same H H' → SqT K H' p (xs ++ ys) → Q (.ref p) H') : qCat K (.ref a) (.ref b) H Q := by
  unfold qCat
  refine ⟨a, b, _, _, rfl, rfl, hA, hB, sz1000 hl, fun z => ?_, fun _ z => ?_, fun _ _ p hp => q _ p (same_upd hp) (.inl (.inl upd_same))⟩
  · subst z
    exact q H b (fun _ _ h => h) hB
  · subst z
    exact q H a (fun _ _ h => h) (by rw [List.append_nil]; exact hA)
theorem neR_go {r t : Ro} (hA : SqT K H a (rV r)) (hB : SqT K H b (rV t)) (q : Q (.bl (!decide (r = t))) H) : qNe K (.ref a) (.ref b) H Q := by
  unfold qNe
  exact ⟨dR r, dR t, dp_rV hA, dp_rV hB, shaped_dR r, shaped_dR t, by rw [eqv_dR]; exact q⟩
theorem cut_from {xs : List V} {k : Nat} : cutV xs (some (k : Int)) none = xs.drop k := by
  unfold cutV
  rw [HT.sIx_nat, HT.sIx_none]
  by_cases h : k ≤ xs.length
  · rw [Nat.min_eq_left h]
    exact List.take_of_length_le (by rw [List.length_drop]; omega)
  · rw [Nat.min_eq_right (by omega), List.drop_of_length_le (Nat.le_refl _), List.drop_of_length_le (by omega), List.take_nil]
theorem cut_to {xs : List V} {k : Nat} : cutV xs none (some (k : Int)) = xs.take k := by
  unfold cutV
  rw [HT.sIx_nat, HT.sIx_none, List.drop_zero, Nat.sub_zero]
  by_cases h : k ≤ xs.length
  · rw [Nat.min_eq_left h]
  · rw [Nat.min_eq_right (by omega), List.take_of_length_le (Nat.le_refl _), List.take_of_length_le (by omega)]
end
section
variable {P : Program} {w : World} {K : PySem.W.Frag} {mg : Str → Option Value} {base : Heap}
theorem scRoutePat : FnScope ["route", "steps"] ["route"] (defScope sRoutePat) := ⟨rfl, rfl, rfl, by decide +kernel, rfl, by decide +kernel, by decide +kernel⟩
theorem scCommon : FnScope ["routes", "length", "route"] ["routes"] (defScope sCommon) := ⟨rfl, rfl, rfl, by decide +kernel, rfl, by decide +kernel, by decide +kernel⟩
def spRoutePat (K : PySem.W.Frag) : Sp := fun vs H Q _ => ∃ (a : Addr) (r : Ro), vs = [.ref a] ∧ SqT K H a (rV r) ∧ r ≠ [] ∧ r.length ≤ 400 ∧ ∀ H', Same H H' → Q (.int (rtp r : Nat)) H'
theorem ok_routePat {f : Addr} {fd : FuncData} (F : Df K mg "route_pattern" sRoutePat ["route"] f fd) : FnOk P w K mg base CX0 1 f fd ["route"] (spRoutePat K) := by
  refine F.F.ok scRoutePat (fun vs H Q E h => ?_) (fun cdv A outer s H vs Q E hr h => ?_)
  · obtain ⟨a, r, rfl, _⟩ := h
    rfl
  · obtain ⟨a, r, rfl, hA, hne, hl, q⟩ := h
    obtain ⟨p1, p2, p3, p4⟩ := rtp_spec hne
    refine ⟨_, pss_cons (ps_set (i := 1) scRoutePat.nd rfl (Or.inl rfl) pe_int)
      (pss_cons (ps_while PassesOwn.never (pt_mo (pt_cmpR (op_neQ hr.units) (pe_op op_catQ (pe_slice sl_tupQ (pv 0) (po_some (pv 1)) po_none) (pe_slice sl_tupQ (pv 0) po_none (po_some (pv 1)))) (pv 0) (nomark _)))
        (pss_one (ps_aug (i := 1) scRoutePat.nd rfl (Or.inl rfl) pe_int ip_add)))
      (pss_one (ps_ret (pv 1)))), ?_⟩
    refine while_by (fun σ H' => ∃ k, 1 ≤ k ∧ k ≤ rtp r ∧ σ = [some (.ref a), some (.int (k : Nat))] ∧ Same H H') (fun σ H' => match σ with | [_, some (.int z)] => rtp r + 1 - z.toNat | _ => 0)
      ⟨1, Nat.le_refl _, p1, rfl, fun _ _ h => h⟩ (fun σ H' ⟨k, k1, k2, es, sm⟩ => ?_) mo_mono
    subst es
    refine mo_go ?_
    have hA1 := sqT_same sm hA
    refine ⟨.ref a, rfl, .int (k : Nat), rfl, k, rfl, sl_go hA1 fun H1 b1 s1 h1 => ⟨.ref a, rfl, .int (k : Nat), rfl, k, rfl, sl_go (sqT_same s1 hA1) fun H2 b2 s2 h2 => ?_⟩⟩
    rw [cut_from] at h1
    rw [cut_to] at h2
    have hlen : ((rV r).drop k).length + ((rV r).take k).length ≤ 1000 := by
      rw [List.length_drop, List.length_take, rV_len]
      omega
    refine cat_go (sqT_same s2 h1) h2 hlen fun H3 b3 s3 h3 => ⟨.ref a, rfl, ?_⟩
    have e3 : (rV r).drop k ++ (rV r).take k = rV (rot r k) := by
      unfold rot rV
      rw [List.map_append, List.map_drop, List.map_take]
    rw [e3] at h3
    have sm3 := ((sm.trans s1).trans s2).trans s3
    refine neR_go h3 (sqT_same sm3 hA) ⟨_, rfl, ?_⟩
    by_cases hk : rot r k = r
    · rw [decide_eq_true hk]
      refine iteF ⟨.int (k : Nat), rfl, ?_⟩
      have : k = rtp r := by
        by_cases h : k = rtp r
        · exact h
        · exact absurd hk (p3 k k1 (by omega))
      rw [this]
      exact q _ sm3
    · rw [decide_eq_false hk]
      have hlt : k < rtp r := by
        by_cases h : k = rtp r
        · rw [h] at hk
          exact absurd p2 hk
        · omega
      refine iteT ⟨.int (k : Nat), rfl, k, 1, rfl, rfl, ⟨k + 1, by omega, by omega, rfl, sm3⟩, ?_⟩
      show rtp r + 1 - ((k : Int) + 1).toNat < rtp r + 1 - (k : Int).toNat
      omega
end
end Sv
set_option maxHeartbeats 4000000
namespace Sv
open PySem PySem.Spec PyProof.Rows L2
section
variable {P : Program} {w : World} {K : PySem.W.Frag} {mg : Str → Option Value} {base : Heap}
def spCommon (K : PySem.W.Frag) : Sp := fun vs H Q _ => ∃ (b : Addr) (rs : List Ro), vs = [.ref b] ∧ RtAt K H b rs ∧ (∀ r ∈ rs, 1 ≤ r.length ∧ r.length ≤ 6) ∧ ∀ H', Same H H' → Q (.int (lc rs : Nat)) H'
theorem ok_common (T : Bd P K mg) : FnOk P w K mg base CX0 2 T.aCommon T.dCommon ["routes"] (spCommon K) := by
  have GR : FnOk P w K mg base CX0 1 T.aRoutePat T.dRoutePat ["route"] (spRoutePat K) := ok_routePat T.RoutePat
  refine T.Common.F.ok scCommon (fun vs H Q E h => ?_) (fun cdv A outer s H vs Q E hr h => ?_)
  · obtain ⟨b, rs, rfl, _⟩ := h
    rfl
  · obtain ⟨b, rs, rfl, hB, hrs, q⟩ := h
    obtain ⟨qs, hA, hP⟩ := hB.ex
    have hql := paired_len hP
    refine ⟨_, pss_cons (ps_set (i := 1) scCommon.nd rfl (Or.inl rfl) pe_int)
      (pss_cons (ps_for PassesOwn.never rfl (pi_tup (pv 0)) (pg_name (i := 2) scCommon.nd rfl (Or.inl rfl))
        (pss_one (ps_set (i := 1) scCommon.nd rfl (Or.inl rfl) (pe_callBfun cr_lcm (by rfl) T.lcm (pa_cons (pv 1) (pa_cons (pe_call (E := E0) GR hr (by rfl) T.RoutePat.g T.RoutePat.F.kp T.RoutePat.b .nil pass0 (pa_cons (pv 2) pa_nil)) pa_nil))))))
      (pss_one (ps_ret (pv 1)))), ?_⟩
    refine ⟨.ref b, rfl, b, rfl, ⟨_, hA⟩, for_tup (xs := qs.map V.ref) (fun i σ H' => (∃ y2, σ = [some (.ref b), some (.int (lc (rs.take i) : Nat)), y2]) ∧ Same H H') ⟨⟨none, rfl⟩, fun _ _ h => h⟩ (fun i σ H' _ h => sqT_same h.2 hA) (fun i x σ H' hx ⟨⟨y2, es⟩, sm⟩ => ?_) (fun σ H' ⟨⟨y2, es⟩, sm⟩ => ?_)⟩
    · subst es
      obtain ⟨qa, hqa, rfl⟩ := refs_lt hx
      obtain ⟨r, hr1, hqr⟩ := paired_at hP hqa
      have hm := List.mem_of_getElem? hr1
      obtain ⟨l1, l2⟩ := hrs r hm
      have rne : r ≠ [] := fun z => by rw [z] at l1; simp at l1
      have b1 := (lc_le (rs := rs.take i) fun x hx => hrs x (List.mem_of_mem_take hx)).2
      have b2 := (rtp_spec rne).2.2.2
      have p64 : (1000 : Nat) < 2 ^ 64 := by decide
      refine ⟨.int (lc (rs.take i) : Nat), rfl, .ref qa, rfl, qa, r, rfl, sqT_same sm hqr, rne, by omega, fun H1 sm1 => ⟨lc (rs.take i), rtp r, rfl, by omega, by omega, ⟨some (.ref qa), ?_⟩, sm.trans sm1⟩⟩
      rw [List.take_add_one, hr1]
      show _ = [some (V.ref b), some (V.int (lc (rs.take i ++ [r]) : Nat)), some (V.ref qa)]
      rw [lc_snoc]
      rfl
    · subst es
      rw [List.length_map, hql, List.take_length]
      exact ⟨.int (lc rs : Nat), rfl, q _ sm⟩
/-- what a function of a plan does where the plan is wrong -/
abbrev BadE (C : Addr) (zs : List Int) (rs : List Ro) (H : Hp) (E : XK) : Prop := ∀ part i, bad zs rs = some (part, i) → PlanE C H part i E
theorem NewTL.imp {H H1 : Hp} {ts : List (List V)} {Q : VK} (h : NewTL H ts Q) (e : Same H H1) : NewTL H1 ts Q := fun H' f sm hf tl => h H' f (e.trans sm) (Same.free e hf) tl
end
end Sv
set_option maxHeartbeats 4000000
namespace Sv
open PySem PySem.Spec PyProof.Rows L2
theorem TL.len {H : Hp} {f : Addr} {ts : List (List V)} {xs : List V} (x : TL H f ts) (hf : H f = some (.lst xs)) : xs.length = ts.length := by
  obtain ⟨ps, h1, h2⟩ := x.ex
  rw [hf] at h1
  obtain rfl := HO.lst.inj (Option.some.inj h1)
  rw [List.length_map, tupsV_len h2]
end Sv
set_option maxHeartbeats 4000000
namespace Sv
open PySem PySem.Spec PyProof.Rows L2
def rSumT (K : PySem.W.Frag) : List V → Hp → VK → Prop := fun vs H Q => ∃ (a : Addr) (ns : List Int), vs = [V.ref a] ∧ SqT K H a (ns.map V.int) ∧ Q (.int ns.sum) H
theorem cr_sumT {X : Cx} (hc : X.calm = true) : CallR X (.builtin "sum") (rSumT X.K) := by
  intro pins s σ H vs us Q I r h
  obtain ⟨a, ns, rfl, hs, q⟩ := h
  obtain ⟨its, rv, hl, _⟩ := I.tuple hs
  rw [Vals.ref1 r]
  have hi := rv.ints
  obtain ⟨xs, e⟩ := hi.allInts.items
  have hn : numsOf (intItems xs).toList = ns := by rw [← e]; exact hi.numsOf
  rw [nums_intItems] at hn
  rw [e] at hl
  refine PySem.W.ktm_sumG (I.ok.hd hc) hl fun h' tk t' hk => ?_
  rw [preSum_eq, List.take_of_length_le (by simp), hn]
  exact ⟨.int ns.sum, H, I.kept hk, ⟨_, rfl⟩, q⟩
abbrev SegV (H : Hp) (qs : List Addr) (ss : List (List Int)) : Prop := Paired (fun q seg => H q = some (.tup (seg.map V.int))) qs ss
theorem segV_imp {H H' : Hp} (e : ∀ b xs, H b = some (.tup xs) → H' b = some (.tup xs)) : ∀ {ps : List Addr} {ts : List (List Int)}, SegV H ps ts → SegV H' ps ts
  | _, _, .nil => .nil
  | _, _, .cons h t => .cons (e _ _ h) (segV_imp e t)
theorem segV_len {H : Hp} : ∀ {ps : List Addr} {ts : List (List Int)}, SegV H ps ts → ps.length = ts.length
  | _, _, .nil => rfl
  | _, _, .cons _ t => congrArg Nat.succ (segV_len t)
theorem segV_snoc {H : Hp} {p : Addr} {t : List Int} (hp : H p = some (.tup (t.map V.int))) : ∀ {ps : List Addr} {ts : List (List Int)}, SegV H ps ts → SegV H (ps ++ [p]) (ts ++ [t])
  | _, _, .nil => .cons hp .nil
  | _, _, .cons h r => .cons h (segV_snoc hp r)
/-- a layout: who is carried, who lies where -/
structure LayAt (H : Hp) (ca sh : Addr) (cs : List Int) (ss : List (List Int)) : Prop where
  c : H ca = some (.tup (cs.map V.int))
  s : ∃ qs : List Addr, H sh = some (.tup (qs.map V.ref)) ∧ SegV H qs ss
theorem LayAt.same {H H' : Hp} {ca sh : Addr} {cs : List Int} {ss : List (List Int)} (x : LayAt H ca sh cs ss) (e : Same H H') : LayAt H' ca sh cs ss := by
  obtain ⟨qs, h1, h2⟩ := x.s
  exact ⟨e _ _ x.c, qs, e _ _ h1, segV_imp (fun b xs q => e _ _ q) h2⟩
theorem cut_seg {xs : List V} {st k : Nat} : cutV xs (some (st : Int)) (some (((st : Nat) : Int) + (k : Nat))) = (xs.drop st).take k := by
  have e : ((st : Nat) : Int) + (k : Nat) = ((st + k : Nat) : Int) := by omega
  unfold cutV
  rw [e, HT.sIx_nat, HT.sIx_nat]
  by_cases h1 : st + k ≤ xs.length
  · rw [Nat.min_eq_left h1, Nat.min_eq_left (by omega)]
    congr 1
    omega
  · by_cases h2 : st ≤ xs.length
    · rw [Nat.min_eq_right (by omega), Nat.min_eq_left h2, List.take_of_length_le (by rw [List.length_drop]; omega), List.take_of_length_le (by rw [List.length_drop]; omega)]
    · rw [Nat.min_eq_right (by omega), Nat.min_eq_right (by omega), List.drop_of_length_le (by omega : xs.length ≤ st), List.drop_of_length_le (Nat.le_refl _), List.take_nil, List.take_nil]
section
variable {P : Program} {w : World} {K : PySem.W.Frag} {mg : Str → Option Value} {base : Heap}
theorem scNum : FnScope ["plan", "sizes", "routes"] ["plan"] (defScope sNumPlaces) := ⟨rfl, rfl, rfl, by decide +kernel, rfl, by decide +kernel, by decide +kernel⟩
theorem scSplit : FnScope ["plan", "contents", "sizes", "routes", "start", "carried", "shelves", "size"] ["plan", "contents"] (defScope sSplit) := ⟨rfl, rfl, rfl, by decide +kernel, rfl, by decide +kernel, by decide +kernel⟩
def spNum (K : PySem.W.Frag) : Sp := fun vs H Q _ => ∃ (p : Addr) (zs : List Int) (rs : List Ro), vs = [.ref p] ∧ PlanAt K H p zs rs ∧ (∀ z ∈ zs, 0 ≤ z) ∧ Q (.int (rs.length + sumN zs : Nat)) H
theorem ok_num (T : Bd P K mg) : FnOk P w K mg base CX0 1 T.aNumPlaces T.dNumPlaces ["plan"] (spNum K) := by
  refine T.NumPlaces.F.ok scNum (fun vs H Q E h => ?_) (fun cdv A outer s H vs Q E hr h => ?_)
  · obtain ⟨p, zs, rs, rfl, _⟩ := h
    rfl
  · obtain ⟨p, zs, rs, rfl, hp, hz, q⟩ := h
    obtain ⟨a, b, hp1, ha, hb⟩ := hp.ex
    obtain ⟨qs, hA, hP⟩ := hb.ex
    have hql := paired_len hP
    refine ⟨_, pss_cons (ps_asg (pv 0) (pg_tup rfl (pgs_cons (pg_name (i := 1) scNum.nd rfl (.inl rfl)) (pgs_cons (pg_name (i := 2) scNum.nd rfl (.inl rfl)) pgs_nil))))
      (pss_one (ps_ret (pe_op op_add (pe_callB call_len_seq (by rfl) T.bt.len b_len (pa_cons (pv 2) pa_nil)) (pe_callB (cr_sumT rfl) (by rfl) T.bt.sum b_sum (pa_cons (pv 1) pa_nil))))), ?_⟩
    refine ⟨.ref p, rfl, p, [.ref a, .ref b], rfl, hp1, rfl, _, _, rfl, _, _, rfl, rfl, ?_⟩
    refine ⟨.ref b, rfl, b, _, rfl, .inr hA, .ref a, rfl, a, zs, rfl, ha, _, _, rfl, rfl, ?_⟩
    rw [List.length_map, hql, sum_int hz]
    exact q
def spSplit (K : PySem.W.Frag) : Sp := fun vs H Q _ => ∃ (p c : Addr) (zs : List Int) (rs : List Ro) (cs : List Int), vs = [.ref p, .ref c] ∧ PlanAt K H p zs rs ∧ SqL K H c (cs.map V.int) ∧ (∀ z ∈ zs, 0 ≤ z ∧ z ≤ 9) ∧ zs.length ≤ 12 ∧ rs.length ≤ 6 ∧ cs.length ≤ 1000 ∧
  ∀ H' t ca sh, Same H H' → H' t = some (.tup [.ref ca, .ref sh]) → LayAt H' ca sh (cs.take rs.length) (segs cs rs.length zs) → Q (.ref t) H'
theorem ok_split (T : Bd P K mg) : FnOk P w K mg base CX0 1 T.aSplit T.dSplit ["plan", "contents"] (spSplit K) := by
  refine T.Split.F.ok scSplit (fun vs H Q E h => ?_) (fun cdv A outer s H vs Q E hr h => ?_)
  · obtain ⟨p, c, zs, rs, cs, rfl, _⟩ := h
    rfl
  · obtain ⟨p, c, zs, rs, cs, rfl, hp, hc, hz, lz, lr, lc, q⟩ := h
    obtain ⟨a, b, hp1, ha, hb⟩ := hp.ex
    obtain ⟨qs, hA, hP⟩ := hb.ex
    have hql := paired_len hP
    refine ⟨_, pss_cons (ps_asg (pv 0) (pg_tup rfl (pgs_cons (pg_name (i := 2) scSplit.nd rfl (.inl rfl)) (pgs_cons (pg_name (i := 3) scSplit.nd rfl (.inl rfl)) pgs_nil))))
      (pss_cons (ps_set (i := 4) scSplit.nd rfl (Or.inl rfl) (pe_callB call_len_seq (by rfl) T.bt.len b_len (pa_cons (pv 3) pa_nil)))
      (pss_cons (ps_set (i := 5) scSplit.nd rfl (Or.inl rfl) (pe_callTy call_tuple_of (by rfl) T.bt.tuple b_tuple (pa_cons (pe_slice sl_list (pv 1) po_none (po_some (pv 4))) pa_nil)))
      (pss_cons (ps_set (i := 6) scSplit.nd rfl (Or.inl rfl) (pe_lst pa_nil))
      (pss_cons (ps_for PassesOwn.never rfl (pi_tup (pv 2)) (pg_name (i := 7) scSplit.nd rfl (Or.inl rfl))
        (pss_cons (ps_expr (pe_bm PySem.F.plainAttrs_list PySem.F.slot_list_append PySem.F.type_list_append mt_append (pv 6) (pa_cons (pe_callTy call_tuple_of (by rfl) T.bt.tuple b_tuple (pa_cons (pe_slice sl_list (pv 1) (po_some (pv 4)) (po_some (pe_op op_add (pv 4) (pv 7)))) pa_nil)) pa_nil)))
        (pss_one (ps_aug (i := 4) scSplit.nd rfl (Or.inl rfl) (pv 7) ip_add))))
      (pss_one (ps_ret (pe_tup (pa_cons (pv 5) (pa_cons (pe_callTy call_tuple_of (by rfl) T.bt.tuple b_tuple (pa_cons (pv 6) pa_nil)) pa_nil))))))))), ?_⟩
    refine ⟨.ref p, rfl, p, [.ref a, .ref b], rfl, hp1, rfl, _, _, rfl, _, _, rfl, rfl, ?_⟩
    refine ⟨.ref b, rfl, b, _, rfl, .inr hA, ?_⟩
    rw [List.length_map, hql]
    refine ⟨.ref c, rfl, .int (rs.length : Nat), rfl, (rs.length : Nat), rfl, c, _, rfl, hc, fun p1 hp1 => ?_⟩
    rw [cut_to, ← List.map_take]
    have m1 : Same H (upd H p1 (.lst ((cs.take rs.length).map V.int))) := same_upd hp1
    refine ⟨p1, _, rfl, .inl ⟨.inl (.inl upd_same), fun ca hca => ?_⟩⟩
    have m2 := m1.trans (same_upd (o := .tup ((cs.take rs.length).map V.int)) hca)
    have kca : (upd (upd H p1 (.lst ((cs.take rs.length).map V.int))) ca (.tup ((cs.take rs.length).map V.int))) ca = some (.tup ((cs.take rs.length).map V.int)) := upd_same
    generalize upd (upd H p1 (.lst ((cs.take rs.length).map V.int))) ca (.tup ((cs.take rs.length).map V.int)) = H2 at m2 kca ⊢
    refine ⟨Nat.zero_le _, fun f hf => ?_⟩
    have nf : H f = none := Same.free m2 hf
    have m3 : Same H (upd H2 f (.lst [])) := m2.trans (same_upd hf)
    have kca3 : (upd H2 f (.lst [])) ca = some (.tup ((cs.take rs.length).map V.int)) := by rw [upd_ne (ne_of_none kca hf)]; exact kca
    refine ⟨.ref a, rfl, a, rfl, ⟨_, sqT_same m3 ha⟩, for_tup (xs := zs.map V.int) (fun i σ H' => (∃ y7, σ = [some (.ref p), some (.ref c), some (.ref a), some (.ref b), some (.int (rs.length + sumN (zs.take i) : Nat)), some (.ref ca), some (.ref f), y7]) ∧ Same H H' ∧ H' ca = some (.tup ((cs.take rs.length).map V.int)) ∧
        ∃ qs : List Addr, H' f = some (.lst (qs.map V.ref)) ∧ SegV H' qs (segs cs rs.length (zs.take i))) ⟨⟨none, rfl⟩, m3, kca3, [], upd_same, .nil⟩ (fun i σ H' _ h => sqT_same h.2.1 ha) (fun i x σ H' hx ⟨⟨y7, es⟩, sm, kc, qs2, kf, sv⟩ => ?_) (fun σ H' ⟨⟨y7, es⟩, sm, kc, qs2, kf, sv⟩ => ?_)⟩
    · subst es
      obtain ⟨z, hz1, rfl⟩ := iV_lt hx
      have hzz := hz z (List.mem_of_getElem? hz1)
      have il : i < zs.length := (List.getElem?_eq_some_iff.mp hz1).1
      have ez : z = (z.toNat : Nat) := (Int.toNat_of_nonneg hzz.1).symm
      refine ⟨.ref f, rfl, .inl ⟨rfl, _, .inl (.inl kf)⟩, .ref c, rfl, .int (rs.length + sumN (zs.take i) : Nat), rfl, (rs.length + sumN (zs.take i) : Nat), rfl, .int (rs.length + sumN (zs.take i) : Nat), rfl, .int z, rfl, (rs.length + sumN (zs.take i) : Nat), z, rfl, rfl, _, rfl, c, _, rfl, Same.seq sm hc, fun p4 hp4 => ?_⟩
      have ecut : cutV (cs.map V.int) (some ((rs.length + sumN (zs.take i) : Nat) : Int)) (some (((rs.length + sumN (zs.take i) : Nat) : Int) + z)) = ((cs.drop (rs.length + sumN (zs.take i))).take z.toNat).map V.int := by
        rw [show (((rs.length + sumN (zs.take i) : Nat) : Int) + z) = ((rs.length + sumN (zs.take i) : Nat) : Int) + (z.toNat : Nat) by omega, cut_seg, ← List.map_drop, ← List.map_take]
      rw [ecut]
      have m4 : Same H' (upd H' p4 (.lst (((cs.drop (rs.length + sumN (zs.take i))).take z.toNat).map V.int))) := same_upd hp4
      refine ⟨p4, _, rfl, .inl ⟨.inl (.inl upd_same), fun p5 hp5 => ?_⟩⟩
      have m5 := m4.trans (same_upd (o := .tup (((cs.drop (rs.length + sumN (zs.take i))).take z.toNat).map V.int)) hp5)
      have k5 : (upd (upd H' p4 (.lst (((cs.drop (rs.length + sumN (zs.take i))).take z.toNat).map V.int))) p5 (.tup (((cs.drop (rs.length + sumN (zs.take i))).take z.toNat).map V.int))) p5 = some (.tup (((cs.drop (rs.length + sumN (zs.take i))).take z.toNat).map V.int)) := upd_same
      generalize upd (upd H' p4 (.lst (((cs.drop (rs.length + sumN (zs.take i))).take z.toNat).map V.int))) p5 (.tup (((cs.drop (rs.length + sumN (zs.take i))).take z.toNat).map V.int)) = H5 at m5 k5 ⊢
      have kf5 := m5 _ _ kf
      have hql2 : qs2.length = i := by
        rw [segV_len sv, segs_len, List.length_take]
        omega
      have ek : zs.take (i + 1) = zs.take i ++ [z] := by rw [List.take_add_one, hz1]; rfl
      refine ⟨f, _, _, rfl, rfl, kf5, ?_, .int (rs.length + sumN (zs.take i) : Nat), rfl, .int z, rfl, (rs.length + sumN (zs.take i) : Nat), z, rfl, rfl, ⟨some (.int z), ?_⟩, same_of (sm.trans m5) nf, ?_, qs2 ++ [p5], ?_, ?_⟩
      · rw [List.length_map]
        exact small1000 (by omega)
      · rw [ek, sumN_snoc]
        have : (((rs.length + sumN (zs.take i) : Nat) : Int) + z) = ((rs.length + (sumN (zs.take i) + z.toNat) : Nat) : Int) := by omega
        show [_, _, _, _, some (V.int (((rs.length + sumN (zs.take i) : Nat) : Int) + z)), _, _, _] = _
        rw [this]
      · rw [upd_ne (fun e => by rw [e, kf] at kc; cases kc)]
        exact m5 _ _ kc
      · rw [upd_same, List.map_append]
        rfl
      · rw [ek, segs_snoc]
        refine segV_imp (fun b xs hb => ?_) (segV_snoc k5 (segV_imp (fun b xs hb => m5 _ _ hb) sv))
        rw [upd_ne (fun e => by rw [e, kf5] at hb; cases hb)]
        exact hb
    · subst es
      rw [List.length_map, List.take_length] at sv
      refine ⟨.ref ca, rfl, .ref f, rfl, f, _, rfl, .inl ⟨.inl (.inl kf), fun sh hsh => ⟨(by show 2 ≤ sizeLine; decide), fun t ht => ?_⟩⟩⟩
      have m6 : Same H' (upd (upd H' sh (.tup (qs2.map V.ref))) t (.tup [.ref ca, .ref sh])) := (same_upd hsh).trans (same_upd ht)
      refine q _ t ca sh (sm.trans m6) upd_same ⟨m6 _ _ kc, qs2, ?_, segV_imp (fun b xs hb => m6 _ _ hb) sv⟩
      have : (upd H' sh (.tup (qs2.map V.ref))) sh = some (.tup (qs2.map V.ref)) := upd_same
      rw [upd_ne (ne_of_none this ht)]
      exact this
theorem sumN_le {zs : List Int} (h : ∀ z ∈ zs, 0 ≤ z ∧ z ≤ 9) : sumN zs ≤ 9 * zs.length := by
  unfold sumN
  induction zs with
  | nil => exact Nat.le_refl _
  | cons z zs ih =>
    have h1 := h z (List.mem_cons_self ..)
    have h2 := ih fun x hx => h x (List.mem_cons_of_mem _ hx)
    rw [List.map_cons, List.sum_cons, List.length_cons]
    omega
end
end Sv
set_option maxHeartbeats 8000000
namespace Sv
open PySem PySem.Spec PyProof.Rows L2 LamX NdefX
section
variable {P : Program} {w : World} {K : PySem.W.Frag} {mg : Str → Option Value} {base : Heap}
theorem scAlike : FnScope ["_law_found", "_law_due", "_law_k"] ["_law_found", "_law_due"] (defScope sAlike) := ⟨rfl, rfl, rfl, by decide +kernel, rfl, by decide +kernel, by decide +kernel⟩
theorem tyx_lst {H : Hp} {a : Addr} {xs : List V} (h : SqL K H a xs) : TyX K H (.ref a) (.type "list") := by
  rcases h with (h | ⟨o, h⟩) | ⟨o, its, n, h1, h2, _⟩
  · exact .base (.lst h)
  · exact .base (.frz h)
  · exact .kList h1 h2
mutual
theorem dp_same {H H' : Hp} (e : Same H H') : ∀ (d : PyData) (v : V), Dp K H v d → Dp K H' v d
  | .none, _, h => by cases h; exact .non
  | .bool b, _, h => by cases h; exact .bl b
  | .int i, _, h => by cases h; exact .int i
  | .str x, _, h => by cases h; exact .str x
  | .list ds, _, h => by
    cases h with
    | lst hs ha => exact .lst (e.seq hs) (dpAll_same e ds _ ha)
  | .tuple ds, _, h => by
    cases h with
    | tup hs ha => exact .tup (sqT_same e hs) (dpAll_same e ds _ ha)
  | .dict _, _, h => by cases h
theorem dpAll_same {H H' : Hp} (e : Same H H') : ∀ (ds : List PyData) (vs : List V), DpAll K H vs ds → DpAll K H' vs ds
  | [], _, h => by cases h; exact .nil
  | d :: ds, _, h => by
    cases h with
    | cons h1 h2 => exact .cons (dp_same e d _ h1) (dpAll_same e ds _ h2)
end
theorem dpAll_len {H : Hp} : ∀ {vs : List V} {ds : List PyData}, DpAll K H vs ds → vs.length = ds.length
  | [], _, h => by cases h; rfl
  | v :: vs, _, h => by
    cases h with
    | cons h1 h2 => exact congrArg Nat.succ (dpAll_len h2)
theorem dpAll_at {H : Hp} : ∀ {vs : List V} {ds : List PyData} {i : Nat} {d : PyData}, DpAll K H vs ds → ds[i]? = some d → ∃ v, vs[i]? = some v ∧ Dp K H v d
  | [], _, i, d, h, e => by cases h; simp at e
  | v :: vs, _, 0, d, h, e => by
    cases h with
    | cons h1 h2 =>
      obtain rfl := Option.some.inj e
      exact ⟨v, rfl, h1⟩
  | v :: vs, _, i + 1, d, h, e => by
    cases h with
    | cons h1 h2 =>
      obtain ⟨x, h3, h4⟩ := dpAll_at (vs := vs) (i := i) h2 (by simpa using e)
      exact ⟨x, by simpa using h3, h4⟩
mutual
/-- how deep, and no list too long -/
def okD : Nat → PyData → Bool
  | 0, .list _ => false
  | 0, .tuple _ => false
  | n + 1, .list ds => decide (ds.length ≤ 1000) && okDs n ds
  | n + 1, .tuple ds => decide (ds.length ≤ 1000) && okDs n ds
  | _, .dict _ => false
  | _, _ => true
def okDs : Nat → List PyData → Bool
  | _, [] => true
  | n, d :: ds => okD n d && okDs n ds
end
theorem okDs_at : ∀ {n : Nat} {ds : List PyData} {i : Nat} {d : PyData}, okDs n ds = true → ds[i]? = some d → okD n d = true
  | n, [], i, d, _, e => by simp at e
  | n, x :: ds, 0, d, h, e => by
    obtain rfl := Option.some.inj e
    rw [okDs, Bool.and_eq_true] at h
    exact h.1
  | n, x :: ds, i + 1, d, h, e => by
    rw [okDs, Bool.and_eq_true] at h
    exact okDs_at (n := n) (ds := ds) (i := i) h.2 e
def spAlike (K : PySem.W.Frag) (n : Nat) : Sp := fun vs H Q _ => ∃ (v1 v2 : V) (d : PyData), vs = [v1, v2] ∧ Dp K H v1 d ∧ Dp K H v2 d ∧ okD n d = true ∧ ∀ H', Same H H' → Q (.bl true) H'
theorem alike_step {f : Addr} {fd : FuncData} (F : Df K mg "_law_alike" sAlike ["_law_found", "_law_due"] f fd) (B : Bt mg) (n : Nat) (spS : Sp) (GS : FnOk P w K mg base CX0 n f fd ["_law_found", "_law_due"] spS)
    (hS : ∀ m, n = m + 1 → ∀ vs H Q E, spAlike K m vs H Q E → spS vs H Q E) : FnOk P w K mg base CX0 (n + 1) f fd ["_law_found", "_law_due"] (spAlike K n) := by
  refine F.F.ok scAlike (fun vs H Q E h => ?_) (fun cdv A outer s H vs Q E hr h => ?_)
  · obtain ⟨v1, v2, d, rfl, _⟩ := h
    rfl
  · obtain ⟨v1, v2, d, rfl, h1, h2, hok, q⟩ := h
    refine ⟨_, pss_cons (ps_if (pt_val (pe_callB call_isi (by rfl) B.isinstance b_isinstance (pa_cons (pv 1) (pa_cons (pe_ty (by rfl) B.dict b_dict) pa_nil)))) pss_never pss_nil)
      (pss_cons (ps_if (pt_val (pe_callB call_isiT (by rfl) B.isinstance b_isinstance (pa_cons (pv 1) (pa_cons (pe_tup (pa_cons (pe_ty (by rfl) B.tuple b_tuple) (pa_cons (pe_ty (by rfl) B.list b_list) pa_nil))) pa_nil))))
        (pss_cons (ps_if (pw_or (pt_not (pt_val (pe_callB call_isiT (by rfl) B.isinstance b_isinstance (pa_cons (pv 0) (pa_cons (pe_tup (pa_cons (pe_ty (by rfl) B.tuple b_tuple) (pa_cons (pe_ty (by rfl) B.list b_list) pa_nil))) pa_nil)))))
            (pw_or1 (pt_cmpR op_ne (pe_callB call_isi (by rfl) B.isinstance b_isinstance (pa_cons (pv 0) (pa_cons (pe_ty (by rfl) B.list b_list) pa_nil))) (pe_callB call_isi (by rfl) B.isinstance b_isinstance (pa_cons (pv 1) (pa_cons (pe_ty (by rfl) B.list b_list) pa_nil))) (nomark _)))).pt pss_never pss_nil)
        (pss_cons (ps_if (pt_cmpR op_ne (pe_callB call_len_seq (by rfl) B.len b_len (pa_cons (pv 0) pa_nil)) (pe_callB call_len_seq (by rfl) B.len b_len (pa_cons (pv 1) pa_nil)) (nomark _)) pss_never pss_nil)
        (pss_one (ps_ret (pe_cmpR (op_eqD hr.units)
          (pe_lc (own := [("_law_k", 2)]) (g := gName 2) (tt := tNot (tB (tCall spS [] E0 (tCons (tOp (rIx K) (tVar 0) (tVar 2)) (tCons (tOp (rIx K) (tVar 1) (tVar 2)) tNil))))) (te := tVar 2) rfl scAlike.nd
            (pi_range1 (by rfl) B.range (pa_cons (pe_callB call_len_seq (by rfl) B.len b_len (pa_cons (pv 1) pa_nil)) pa_nil)) (blkOk_by (N := ["_law_found", "_law_due", "_law_k"]) (sc := defScope sAlike) (by decide +kernel))
            (fun _ _ _ _ _ => pg_name (i := 2) scAlike.nd rfl (Or.inl rfl))
            (fun _ _ _ _ _ => pts_one (pt_not (pt_val (pe_call GS hr (by rfl) F.g F.F.kp F.b .nil pass0 (pa_cons (pe_ix ix_seq (pv 0) (pv 2) (fun _ _ => rfl)) (pa_cons (pe_ix ix_seq (pv 1) (pv 2) (fun _ _ => rfl)) pa_nil))))))
            (fun _ _ _ _ _ => pv 2)) (pe_lst pa_nil) (nomark _)))))) pss_nil)
      (pss_cons (ps_if (pw_or (pt_cmpR op_isN (pv 1) pe_non (nomark _)) (pw_or1 (pt_val (pe_callB call_isi (by rfl) B.isinstance b_isinstance (pa_cons (pv 1) (pa_cons (pe_ty (by rfl) B.str b_str) pa_nil)))))).pt
        (pss_one (ps_ret (pe_and (pe_cmpR op_eq (pv 0) (pv 1) (nomark _)) (pe_one (pe_cmpR op_eq (pe_callB call_isi (by rfl) B.isinstance b_isinstance (pa_cons (pv 0) (pa_cons (pe_ty (by rfl) B.str b_str) pa_nil))) (pe_callB call_isi (by rfl) B.isinstance b_isinstance (pa_cons (pv 1) (pa_cons (pe_ty (by rfl) B.str b_str) pa_nil))) (nomark _)))))) pss_nil)
      (pss_one (ps_ret (pe_and (pe_callB call_isi (by rfl) B.isinstance b_isinstance (pa_cons (pv 0) (pa_cons (pe_ty (by rfl) B.int b_int) pa_nil))) (pe_and (pe_cmpR op_eq (pe_callB call_isi (by rfl) B.isinstance b_isinstance (pa_cons (pv 0) (pa_cons (pe_ty (by rfl) B.bool b_bool) pa_nil))) (pe_callB call_isi (by rfl) B.isinstance b_isinstance (pa_cons (pv 1) (pa_cons (pe_ty (by rfl) B.bool b_bool) pa_nil))) (nomark _)) (pe_one (pe_cmpR op_eq (pv 0) (pv 1) (nomark _))))))))), ?_⟩
    have tupcs : Paired ClsV [V.ty "tuple", V.ty "list"] [Value.type "tuple", Value.type "list"] := .cons (.ty "tuple") (.cons (.ty "list") .nil)
    cases d with
    | none =>
      cases h1
      cases h2
      refine ⟨.non, rfl, .non, .ty "dict", _, _, false, rfl, .ty "dict", .base .non, kit_ty (by decide +kernel), false, rfl, iteF ?_⟩
      refine ⟨.non, rfl, (by show 2 ≤ sizeLine; decide), fun p hp => ?_⟩
      refine ⟨.non, p, _, _, _, false, rfl, upd_same, tupcs, .base .non, kitAny_cons (b := false) (kit_ty (by decide +kernel)) (fun _ => kitAny_cons (b := false) (kit_ty (by decide +kernel)) (fun _ => kitAny_nil) (fun z => by cases z)) (fun z => by cases z), false, rfl, iteF ?_⟩
      refine ⟨.non, rfl, rfl, _, rfl, iteT (iteT ?_)⟩
      refine ⟨.non, rfl, .non, rfl, rfl, true, (by rw [decide_eq_true rfl]), iteT ?_⟩
      refine ⟨.non, rfl, .non, .ty "str", _, _, false, rfl, .ty "str", .base .non, kit_ty (by decide +kernel), ?_⟩
      refine ⟨.non, rfl, .non, .ty "str", _, _, false, rfl, .ty "str", .base .non, kit_ty (by decide +kernel), rfl, ?_⟩
      exact q _ (same_upd hp)
    | bool b =>
      cases h1
      cases h2
      refine ⟨.bl b, rfl, .bl b, .ty "dict", _, _, false, rfl, .ty "dict", .base (.bl b), kit_ty (by decide +kernel), false, rfl, iteF ?_⟩
      refine ⟨.bl b, rfl, (by show 2 ≤ sizeLine; decide), fun p hp => ?_⟩
      refine ⟨.bl b, p, _, _, _, false, rfl, upd_same, tupcs, .base (.bl b), kitAny_cons (b := false) (kit_ty (by decide +kernel)) (fun _ => kitAny_cons (b := false) (kit_ty (by decide +kernel)) (fun _ => kitAny_nil) (fun z => by cases z)) (fun z => by cases z), false, rfl, iteF ?_⟩
      refine ⟨.bl b, rfl, rfl, _, rfl, iteF ?_⟩
      refine ⟨.bl b, rfl, .bl b, .ty "str", _, _, false, rfl, .ty "str", .base (.bl b), kit_ty (by decide +kernel), _, rfl, iteF ?_⟩
      refine ⟨.bl b, rfl, .bl b, .ty "int", _, _, true, rfl, .ty "int", .base (.bl b), kit_ty (by decide +kernel), true, rfl, iteT ?_⟩
      refine ⟨.bl b, rfl, .bl b, .ty "bool", _, _, true, rfl, .ty "bool", .base (.bl b), kit_ty (by decide +kernel), ?_⟩
      refine ⟨.bl b, rfl, .bl b, .ty "bool", _, _, true, rfl, .ty "bool", .base (.bl b), kit_ty (by decide +kernel), rfl, true, rfl, iteT ?_⟩
      refine ⟨.bl b, rfl, .bl b, rfl, rfl, ?_⟩
      show Q (.bl (decide (V.bl b = V.bl b))) _
      rw [decide_eq_true rfl]
      exact q _ (same_upd hp)
    | int i =>
      cases h1
      cases h2
      refine ⟨.int i, rfl, .int i, .ty "dict", _, _, false, rfl, .ty "dict", .base (.int i), kit_ty (by decide +kernel), false, rfl, iteF ?_⟩
      refine ⟨.int i, rfl, (by show 2 ≤ sizeLine; decide), fun p hp => ?_⟩
      refine ⟨.int i, p, _, _, _, false, rfl, upd_same, tupcs, .base (.int i), kitAny_cons (b := false) (kit_ty (by decide +kernel)) (fun _ => kitAny_cons (b := false) (kit_ty (by decide +kernel)) (fun _ => kitAny_nil) (fun z => by cases z)) (fun z => by cases z), false, rfl, iteF ?_⟩
      refine ⟨.int i, rfl, rfl, _, rfl, iteF ?_⟩
      refine ⟨.int i, rfl, .int i, .ty "str", _, _, false, rfl, .ty "str", .base (.int i), kit_ty (by decide +kernel), _, rfl, iteF ?_⟩
      refine ⟨.int i, rfl, .int i, .ty "int", _, _, true, rfl, .ty "int", .base (.int i), kit_ty (by decide +kernel), true, rfl, iteT ?_⟩
      refine ⟨.int i, rfl, .int i, .ty "bool", _, _, false, rfl, .ty "bool", .base (.int i), kit_ty (by decide +kernel), ?_⟩
      refine ⟨.int i, rfl, .int i, .ty "bool", _, _, false, rfl, .ty "bool", .base (.int i), kit_ty (by decide +kernel), rfl, true, rfl, iteT ?_⟩
      refine ⟨.int i, rfl, .int i, rfl, rfl, ?_⟩
      show Q (.bl (decide (V.int i = V.int i))) _
      rw [decide_eq_true rfl]
      exact q _ (same_upd hp)
    | str x =>
      cases h1
      cases h2
      refine ⟨.str x, rfl, .str x, .ty "dict", _, _, false, rfl, .ty "dict", .base (.str x), kit_ty (by decide +kernel), false, rfl, iteF ?_⟩
      refine ⟨.str x, rfl, (by show 2 ≤ sizeLine; decide), fun p hp => ?_⟩
      refine ⟨.str x, p, _, _, _, false, rfl, upd_same, tupcs, .base (.str x), kitAny_cons (b := false) (kit_ty (by decide +kernel)) (fun _ => kitAny_cons (b := false) (kit_ty (by decide +kernel)) (fun _ => kitAny_nil) (fun z => by cases z)) (fun z => by cases z), false, rfl, iteF ?_⟩
      refine ⟨.str x, rfl, rfl, _, rfl, iteF ?_⟩
      refine ⟨.str x, rfl, .str x, .ty "str", _, _, true, rfl, .ty "str", .base (.str x), kit_ty (by decide +kernel), _, rfl, iteT ?_⟩
      refine ⟨.str x, rfl, .str x, rfl, rfl, true, (by rw [decide_eq_true rfl]), iteT ?_⟩
      refine ⟨.str x, rfl, .str x, .ty "str", _, _, true, rfl, .ty "str", .base (.str x), kit_ty (by decide +kernel), ?_⟩
      refine ⟨.str x, rfl, .str x, .ty "str", _, _, true, rfl, .ty "str", .base (.str x), kit_ty (by decide +kernel), rfl, ?_⟩
      exact q _ (same_upd hp)
    | list ds =>
      cases n with
      | zero => rw [okD] at hok; cases hok
      | succ m =>
      rw [okD, Bool.and_eq_true] at hok
      have hdl : ds.length ≤ 1000 := of_decide_eq_true hok.1
      cases h1 with
      | @lst a1 xs1 _ hs1 ha1 =>
      cases h2 with
      | @lst a2 xs2 _ hs2 ha2 =>
      have l1 := dpAll_len ha1
      have l2 := dpAll_len ha2
      refine ⟨.ref a2, rfl, .ref a2, .ty "dict", _, _, false, rfl, .ty "dict", tyx_lst hs2, kit_ty (by decide +kernel), false, rfl, iteF ?_⟩
      refine ⟨.ref a2, rfl, (by show 2 ≤ sizeLine; decide), fun p hp => ?_⟩
      have sm1 : Same H (upd H p (.tup [V.ty "tuple", V.ty "list"])) := same_upd hp
      refine ⟨.ref a2, p, _, _, _, true, rfl, upd_same, tupcs, tyx_lst (Same.seq sm1 hs2), kitAny_cons (b := false) (kit_ty (by decide +kernel)) (fun _ => kitAny_cons (b := true) (kit_ty (by decide +kernel)) (fun z => by cases z) (fun _ => rfl)) (fun z => by cases z), true, rfl, iteT ?_⟩
      refine ⟨.ref a1, rfl, (by show 2 ≤ sizeLine; decide), fun p2 hp2 => ?_⟩
      have sm2 : Same H (upd (upd H p (.tup [V.ty "tuple", V.ty "list"])) p2 (.tup [V.ty "tuple", V.ty "list"])) := same_of sm1 (Same.free sm1 hp2)
      refine ⟨.ref a1, p2, _, _, _, true, rfl, upd_same, tupcs, tyx_lst (Same.seq sm2 hs1), kitAny_cons (b := false) (kit_ty (by decide +kernel)) (fun _ => kitAny_cons (b := true) (kit_ty (by decide +kernel)) (fun z => by cases z) (fun _ => rfl)) (fun z => by cases z), true, rfl, iteF ?_⟩
      refine ⟨.ref a1, rfl, .ref a1, .ty "list", _, _, true, rfl, .ty "list", tyx_lst (Same.seq sm2 hs1), kit_ty (by decide +kernel), ?_⟩
      refine ⟨.ref a2, rfl, .ref a2, .ty "list", _, _, true, rfl, .ty "list", tyx_lst (Same.seq sm2 hs2), kit_ty (by decide +kernel), rfl, false, rfl, iteF ?_⟩
      refine ⟨.ref a1, rfl, a1, xs1, rfl, .inl (Same.seq sm2 hs1), .ref a2, rfl, a2, xs2, rfl, .inl (Same.seq sm2 hs2), rfl, _, rfl, ?_⟩
      rw [l1, l2, decide_eq_true rfl]
      refine iteF ?_
      have b62 : (1000 : Int) < 2 ^ 62 := by decide
      refine ⟨.ref a2, rfl, a2, xs2, rfl, .inl (Same.seq sm2 hs2), (xs2.length : Nat), rfl, by omega, by omega, fun D hD => ?_⟩
      have smD : Same H (upd (upd (upd H p (.tup [V.ty "tuple", V.ty "list"])) p2 (.tup [V.ty "tuple", V.ty "list"])) D (.lst [])) := same_of sm2 (Same.free sm2 hD)
      refine lc_range (lo := 0) (n := (xs2.length : Int).toNat) (fun i H' => Same H H' ∧ H' D = some (.lst [])) ⟨smD, upd_same⟩ (fun i H' hi ⟨sm, hd⟩ => ?_) (fun H' ⟨sm, hd⟩ => ?_)
      · have hi2 : i < ds.length := by
          rw [Int.toNat_natCast] at hi
          omega
        obtain ⟨w1, g1, e1⟩ := dpAll_at ha1 (List.getElem?_eq_getElem hi2)
        obtain ⟨w2, g2, e2⟩ := dpAll_at ha2 (List.getElem?_eq_getElem hi2)
        have ei : (0 : Int) + (i : Nat) = (i : Nat) := by omega
        rw [ei]
        refine ⟨rfl, .ref a1, rfl, .int (i : Nat), rfl, .inl ⟨a1, xs1, (i : Nat), w1, rfl, rfl, (Same.seq sm hs1), atI_nat g1, ?_⟩⟩
        refine ⟨.ref a2, rfl, .int (i : Nat), rfl, .inl ⟨a2, xs2, (i : Nat), w2, rfl, rfl, (Same.seq sm hs2), atI_nat g2, ?_⟩⟩
        refine hS m rfl _ _ _ _ ⟨w1, w2, _, rfl, dp_same sm _ _ e1, dp_same sm _ _ e2, okDs_at hok.2 (List.getElem?_eq_getElem hi2), fun H3 sm3 => ⟨true, rfl, iteF ⟨sm.trans sm3, sm3 _ _ hd⟩⟩⟩
      · refine ⟨Nat.zero_le _, fun z hz => ?_⟩
        refine ⟨.list [], .list [], .lst (.inl (.inl ?_)) .nil, .lst (.inl (.inl upd_same)) .nil, rfl, rfl, q _ (same_of sm (Same.free sm hz))⟩
        rw [upd_ne (ne_of_none hd hz)]
        exact hd
    | tuple ds =>
      cases n with
      | zero => rw [okD] at hok; cases hok
      | succ m =>
      rw [okD, Bool.and_eq_true] at hok
      have hdl : ds.length ≤ 1000 := of_decide_eq_true hok.1
      cases h1 with
      | @tup a1 xs1 _ hs1 ha1 =>
      cases h2 with
      | @tup a2 xs2 _ hs2 ha2 =>
      have l1 := dpAll_len ha1
      have l2 := dpAll_len ha2
      refine ⟨.ref a2, rfl, .ref a2, .ty "dict", _, _, false, rfl, .ty "dict", tyx_tup hs2, kit_ty (by decide +kernel), false, rfl, iteF ?_⟩
      refine ⟨.ref a2, rfl, (by show 2 ≤ sizeLine; decide), fun p hp => ?_⟩
      have sm1 : Same H (upd H p (.tup [V.ty "tuple", V.ty "list"])) := same_upd hp
      refine ⟨.ref a2, p, _, _, _, true, rfl, upd_same, tupcs, tyx_tup (sqT_same sm1 hs2), kitAny_cons (b := true) (kit_ty (by decide +kernel)) (fun z => by cases z) (fun _ => rfl), true, rfl, iteT ?_⟩
      refine ⟨.ref a1, rfl, (by show 2 ≤ sizeLine; decide), fun p2 hp2 => ?_⟩
      have sm2 : Same H (upd (upd H p (.tup [V.ty "tuple", V.ty "list"])) p2 (.tup [V.ty "tuple", V.ty "list"])) := same_of sm1 (Same.free sm1 hp2)
      refine ⟨.ref a1, p2, _, _, _, true, rfl, upd_same, tupcs, tyx_tup (sqT_same sm2 hs1), kitAny_cons (b := true) (kit_ty (by decide +kernel)) (fun z => by cases z) (fun _ => rfl), true, rfl, iteF ?_⟩
      refine ⟨.ref a1, rfl, .ref a1, .ty "list", _, _, false, rfl, .ty "list", tyx_tup (sqT_same sm2 hs1), kit_ty (by decide +kernel), ?_⟩
      refine ⟨.ref a2, rfl, .ref a2, .ty "list", _, _, false, rfl, .ty "list", tyx_tup (sqT_same sm2 hs2), kit_ty (by decide +kernel), rfl, false, rfl, iteF ?_⟩
      refine ⟨.ref a1, rfl, a1, xs1, rfl, .inr (sqT_same sm2 hs1), .ref a2, rfl, a2, xs2, rfl, .inr (sqT_same sm2 hs2), rfl, _, rfl, ?_⟩
      rw [l1, l2, decide_eq_true rfl]
      refine iteF ?_
      have b62 : (1000 : Int) < 2 ^ 62 := by decide
      refine ⟨.ref a2, rfl, a2, xs2, rfl, .inr (sqT_same sm2 hs2), (xs2.length : Nat), rfl, by omega, by omega, fun D hD => ?_⟩
      have smD : Same H (upd (upd (upd H p (.tup [V.ty "tuple", V.ty "list"])) p2 (.tup [V.ty "tuple", V.ty "list"])) D (.lst [])) := same_of sm2 (Same.free sm2 hD)
      refine lc_range (lo := 0) (n := (xs2.length : Int).toNat) (fun i H' => Same H H' ∧ H' D = some (.lst [])) ⟨smD, upd_same⟩ (fun i H' hi ⟨sm, hd⟩ => ?_) (fun H' ⟨sm, hd⟩ => ?_)
      · have hi2 : i < ds.length := by
          rw [Int.toNat_natCast] at hi
          omega
        obtain ⟨w1, g1, e1⟩ := dpAll_at ha1 (List.getElem?_eq_getElem hi2)
        obtain ⟨w2, g2, e2⟩ := dpAll_at ha2 (List.getElem?_eq_getElem hi2)
        have ei : (0 : Int) + (i : Nat) = (i : Nat) := by omega
        rw [ei]
        refine ⟨rfl, .ref a1, rfl, .int (i : Nat), rfl, .inr <| .inl ⟨a1, xs1, (i : Nat), w1, rfl, rfl, (sqT_same sm hs1), atI_nat g1, ?_⟩⟩
        refine ⟨.ref a2, rfl, .int (i : Nat), rfl, .inr <| .inl ⟨a2, xs2, (i : Nat), w2, rfl, rfl, (sqT_same sm hs2), atI_nat g2, ?_⟩⟩
        refine hS m rfl _ _ _ _ ⟨w1, w2, _, rfl, dp_same sm _ _ e1, dp_same sm _ _ e2, okDs_at hok.2 (List.getElem?_eq_getElem hi2), fun H3 sm3 => ⟨true, rfl, iteF ⟨sm.trans sm3, sm3 _ _ hd⟩⟩⟩
      · refine ⟨Nat.zero_le _, fun z hz => ?_⟩
        refine ⟨.list [], .list [], .lst (.inl (.inl ?_)) .nil, .lst (.inl (.inl upd_same)) .nil, rfl, rfl, q _ (same_of sm (Same.free sm hz))⟩
        rw [upd_ne (ne_of_none hd hz)]
        exact hd
    | dict _ => cases h1
theorem ok_alike {f : Addr} {fd : FuncData} (F : Df K mg "_law_alike" sAlike ["_law_found", "_law_due"] f fd) (B : Bt mg) : ∀ n, FnOk P w K mg base CX0 (n + 1) f fd ["_law_found", "_law_due"] (spAlike K n)
  | 0 => alike_step F B 0 (fun _ _ _ _ => False) ⟨fun _ _ _ _ h => h.elim, fun _ _ _ _ _ _ _ _ _ _ _ _ _ h => h.elim⟩ (fun m e => by omega)
  | n + 1 => alike_step F B (n + 1) (spAlike K n) (ok_alike F B n) (fun m e vs H Q E h => by
    have : m = n := by omega
    subst this
    exact h)
end
end Sv
set_option maxHeartbeats 8000000
namespace Sv
open PySem PySem.Spec PyProof.Rows L2 LamX NdefX
/-- the exception's dict, if there is one -/
def Dd (d : Option Addr) (H : Hp) : Prop := d = none ∨ ∃ (dd : Addr) (fs : List (Str × V)), d = some dd ∧ H dd = some (.xd fs)
theorem Dd.same {d : Option Addr} {H H' : Hp} (h : Dd d H) (e : Same H H') : Dd d H' := by
  rcases h with h | ⟨dd, fs, h1, h2⟩
  · exact .inl h
  · exact .inr ⟨dd, fs, h1, e _ _ h2⟩
def rIsD (K : PySem.W.Frag) (D a : Addr) (d : Option Addr) : List V → Hp → VK → Prop := fun xs H Q => ∃ (c : V) (cv : Value) (b : Bool), xs = [.ref a, c] ∧ (∀ u, RelV c u → u = cv) ∧ PySem.W.kitOne K (.ref D) cv = some b ∧ Dd d H ∧ Q (.bl b) H
theorem call_isD {X : Cx} {a D : Addr} {d : Option Addr} {oe : Obj} {pn : List (Addr × Obj)} (C : ExcC X.K D) (hz : Zc (.ref D) d oe) (hf : ∃ vs, oe.data = .fields vs) : CallR (X.suite a ((a, oe) :: pn)) (.builtin "isinstance") (rIsD X.K D a d) := by
  intro pins s σ H xs us Q I r h
  obtain ⟨c, cv, b, rfl, hcv, e, hd, q⟩ := h
  cases r with
  | cons rx rr =>
    cases rr with
    | cons rt rr =>
      cases rr
      cases rx
      have ec := hcv _ rt
      subst ec
      obtain ⟨hget, _⟩ := I.pin (a, oe) (List.mem_append.mpr (.inl List.mem_cons_self))
      obtain ⟨vs, hv⟩ := hf
      have hcl : (PySem.W.clsIn X.K D).isSome = true := by
        obtain ⟨cdD, hcD, _⟩ := PySem.W.any_some C.hd
        rw [hcD]
        rfl
      obtain ⟨od, J⟩ : ∃ od, PySem.W.InstAt s.heap a oe D od := by
        rcases hd with rfl | ⟨dd, fs, rfl, hdd⟩
        · refine ⟨none, hget, hz.1, by unfold PySem.W.notCls; rw [hv] <;> rfl, by rw [hz.2]; trivial⟩
        · have hx : ObjOk X.prog X.w H s.heap dd (.xd fs) := I.hok dd _ hdd
          obtain ⟨mA, hns, hr⟩ := hx
          obtain ⟨od, ho, hl⟩ := lookIn_ns hns
          exact ⟨some od, hget, hz.1, by unfold PySem.W.notCls; rw [hv] <;> rfl, by rw [hz.2]; exact ho⟩
      exact PySem.W.kia_one (PySem.W.kitx_exc hcl C.hg C.hk C.hs C.ha C.hn C.ht C.hm) I.kIn J e (fun z => nomatch z) fun tk => ⟨.bl b, H, I.kept (t' := tk) fun _ _ z => z, rfl, q⟩
theorem scError : FnScope ["_law_call", "e", "_law_kinds", "_law_names", "_law_name"] ["_law_call"] (defScope sError) := ⟨rfl, rfl, rfl, by decide +kernel, rfl, by decide +kernel, by decide +kernel⟩
theorem b_VE : bootBuiltins "ValueError" = some (.type "ValueError") := by decide +kernel
theorem pa_one {X : Cx} {e : Expr} {te : TE} (h : PE X e te) (hs : starEach [e] X.env = (false, eval e X.env) :: starEach [] X.env := by rfl) : PA X [e] (tCons te tNil) := pa_cons h pa_nil hs
theorem pe_never {X : Cx} {e : Expr} : PE X e (fun _ _ _ => False) := ⟨fun _ _ _ _ _ _ h => h.elim⟩
/-- the classes' names at the top -/
structure ErG (mg : Str → Option Value) (CS C0 C1 C2 C3 C4 C5 C6 C7 C8 C9 C10 C11 C12 C13 C14 : Addr) : Prop where
  gS : mg "ShelfError" = some (.ref CS)
  g0 : mg "InvalidPlan" = some (.ref C0)
  g1 : mg "InvalidState" = some (.ref C1)
  g2 : mg "InvalidCount" = some (.ref C2)
  g3 : mg "UnknownPlace" = some (.ref C3)
  g4 : mg "UnknownParcel" = some (.ref C4)
  g5 : mg "UnknownShelf" = some (.ref C5)
  g6 : mg "UnknownCarrier" = some (.ref C6)
  g7 : mg "InvalidEffect" = some (.ref C7)
  g8 : mg "DifferentSizes" = some (.ref C8)
  g9 : mg "InvalidParcels" = some (.ref C9)
  g10 : mg "Contradiction" = some (.ref C10)
  g11 : mg "InvalidArrangement" = some (.ref C11)
  g12 : mg "ShelfFull" = some (.ref C12)
  g13 : mg "ParcelCarried" = some (.ref C13)
  g14 : mg "InvalidSwap" = some (.ref C14)
  gV : mg "ValueError" = none
def kl (b0 b1 b2 b3 b4 b5 b6 b7 b8 b9 b10 b11 b12 b13 b14 : Bool) : List V := [.bl b0, .bl b1, .bl b2, .bl b3, .bl b4, .bl b5, .bl b6, .bl b7, .bl b8, .bl b9, .bl b10, .bl b11, .bl b12, .bl b13, .bl b14]
def nmL : List V := [.str "plan", .str "state", .str "count", .str "place", .str "parcel", .str "shelf", .str "carrier", .str "effect", .str "sizes", .str "parcels", .str "contradiction", .str "arrangement", .str "full", .str "carried", .str "swap"]
/-- how the class D answers, and its name -/
structure ErK (K : PySem.W.Frag) (CS C0 C1 C2 C3 C4 C5 C6 C7 C8 C9 C10 C11 C12 C13 C14 D : Addr) (nm : Str) (b0 b1 b2 b3 b4 b5 b6 b7 b8 b9 b10 b11 b12 b13 b14 : Bool) (j : Nat) : Prop where
  exc : ExcC K D
  ex : PySem.W.exmOne K (.ref D) (.ref CS) = some true
  ve : PySem.W.kitOne K (.ref D) (.type "ValueError") = some true
  k0 : PySem.W.kitOne K (.ref D) (.ref C0) = some b0
  k1 : PySem.W.kitOne K (.ref D) (.ref C1) = some b1
  k2 : PySem.W.kitOne K (.ref D) (.ref C2) = some b2
  k3 : PySem.W.kitOne K (.ref D) (.ref C3) = some b3
  k4 : PySem.W.kitOne K (.ref D) (.ref C4) = some b4
  k5 : PySem.W.kitOne K (.ref D) (.ref C5) = some b5
  k6 : PySem.W.kitOne K (.ref D) (.ref C6) = some b6
  k7 : PySem.W.kitOne K (.ref D) (.ref C7) = some b7
  k8 : PySem.W.kitOne K (.ref D) (.ref C8) = some b8
  k9 : PySem.W.kitOne K (.ref D) (.ref C9) = some b9
  k10 : PySem.W.kitOne K (.ref D) (.ref C10) = some b10
  k11 : PySem.W.kitOne K (.ref D) (.ref C11) = some b11
  k12 : PySem.W.kitOne K (.ref D) (.ref C12) = some b12
  k13 : PySem.W.kitOne K (.ref D) (.ref C13) = some b13
  k14 : PySem.W.kitOne K (.ref D) (.ref C14) = some b14
  cnt : ((kl b0 b1 b2 b3 b4 b5 b6 b7 b8 b9 b10 b11 b12 b13 b14).countP fun z => eqV z (.bl true)) = 1
  at_ : (kl b0 b1 b2 b3 b4 b5 b6 b7 b8 b9 b10 b11 b12 b13 b14)[j]? = some (.bl true)
  be : ∀ (m : Nat) (z : V), m < j → (kl b0 b1 b2 b3 b4 b5 b6 b7 b8 b9 b10 b11 b12 b13 b14)[m]? = some z → eqV z (.bl true) = false
  tag : nmL[j]? = some (.str nm)
def NewS (H : Hp) (t : List V) (Q : VK) : Prop := ∀ H' p, Same H H' → H p = none → H' p = some (.tup t) → Q (.ref p) H'
theorem NewS.imp {H H1 : Hp} {t : List V} {Q : VK} (h : NewS H t Q) (e : Same H H1) : NewS H1 t Q := fun H' p sm hp hq => h H' p (e.trans sm) (Same.free e hp) hq
/-- what is wanted of the errors and of the value -/
def ErrE (K : PySem.W.Frag) (CS C0 C1 C2 C3 C4 C5 C6 C7 C8 C9 C10 C11 C12 C13 C14 : Addr) (Q : VK) : XK := fun cls d H' => ∃ (D : Addr) (nm : Str) (b0 b1 b2 b3 b4 b5 b6 b7 b8 b9 b10 b11 b12 b13 b14 : Bool) (j : Nat), cls = .ref D ∧ Dd d H' ∧ ErK K CS C0 C1 C2 C3 C4 C5 C6 C7 C8 C9 C10 C11 C12 C13 C14 D nm b0 b1 b2 b3 b4 b5 b6 b7 b8 b9 b10 b11 b12 b13 b14 j ∧
  ((nm ≠ "plan" ∧ nm ≠ "swap" ∧ NewS H' [.str nm] Q) ∨ (nm = "plan" ∧ D = C0 ∧ ∃ (dd : Addr) (fs : List (Str × V)) (x y : V), d = some dd ∧ H' dd = some (.xd fs) ∧ fs.lookup ("part" : Str) = some x ∧ fs.lookup ("index" : Str) = some y ∧ NewS H' [.str "plan", x, y] Q))
def OkQ (Q : VK) : VK := fun _ H' => NewS H' [.str "none"] Q
def KnErr (P : Program) (w : World) (K : PySem.W.Frag) (mg : Str → Option Value) (base : Heap) (k : Nat) (CS C0 C1 C2 C3 C4 C5 C6 C7 C8 C9 C10 C11 C12 C13 C14 : Addr) : List Addr → Shared → Hp → V → VK → Prop := fun fs s H v Q =>
  ∃ (f : Addr) (L : LF) (fr : List Str) (dvs : List V) (ws : List (Option V)) (tl : List (Option V) → XK → Hp → VK → Prop), v = .ref f ∧ LamAt P w K mg base k fs s H f L fr dvs ws tl ∧ tl ws (ErrE K CS C0 C1 C2 C3 C4 C5 C6 C7 C8 C9 C10 C11 C12 C13 C14 Q) H (OkQ Q)
section
variable {P : Program} {w : World} {K : PySem.W.Frag} {mg : Str → Option Value} {base : Heap}
theorem ok_error {CS C0 C1 C2 C3 C4 C5 C6 C7 C8 C9 C10 C11 C12 C13 C14 : Addr} {f : Addr} {fd : FuncData} {k : Nat} (F : Df K mg "_law_error" sError ["_law_call"] f fd) (B : Bt mg) (G : ErG mg CS C0 C1 C2 C3 C4 C5 C6 C7 C8 C9 C10 C11 C12 C13 C14) (XF : XfC K C0) (xp : PySem.W.findIn K (.ref C0) "part" = some none) (xi : PySem.W.findIn K (.ref C0) "index" = some none) : FnSt P w K mg base (k + 1) f (KnErr P w K mg base k CS C0 C1 C2 C3 C4 C5 C6 C7 C8 C9 C10 C11 C12 C13 C14) := by
  refine fnst_of F.F scError F.b fun cdv A outer s H v Q hr e0 hK => ?_
  obtain ⟨fl, L, fr, dvs, ws, tl, rfl, LA, ht⟩ := hK
  refine ⟨_, pss_cons (ps_try_as (i := 1) (n := "e") (Wout := fun _ _ _ _ => False)
      (tb := fun W D σ H1 => σ[0]? = some (some (.ref fl)) ∧ H1 fl = some (LamO fl L) ∧ H1 L.c = some (CodeO L.c L.qual) ∧ DflAt H1 L.dV dvs ∧ ∃ (E' : XK) (Q' : VK), (∀ cls d H', E' cls d H' → W cls d σ H') ∧ (∀ v H', Q' v H' → D.nx σ H') ∧ tl ws E' H1 Q')
      (ts := fun a cls d D σ H1 => (∃ x0, σ = [some x0, some (.ref a), none, none, none]) ∧ ErrE K CS C0 C1 C2 C3 C4 C5 C6 C7 C8 C9 C10 C11 C12 C13 C14 D.rt cls d H1)
      rfl rfl scError.nd rfl rfl ⟨rfl, by decide, .inl G.gS⟩ L2.takes0 (fun W pn xe tk _ => ⟨fun pins s1 σ H1 D I h => ?_⟩) (fun a oe cls d pn hz hf => ⟨fun pins s1 σ H1 D I h => ?_⟩))
    (pss_one (ps_ret (pe_tup (pa_cons pe_str pa_nil)))), ?_⟩
  · -- the call
    refine (pss_one (ps_expr (pe_actL (CXg := CX0) (Eg := E0) (Ng := ["_law_call", "e", "_law_kinds", "_law_names", "_law_name"]) (qg := "_law_error") (sg := defScope sError) (g := f) (cdg := cdv) (pn := pn) (xe := xe) (i := 0) LA tk hr rfl (.inl rfl)))).run pins s1 σ H1 D I ?_
    obtain ⟨h1, h2, h3, h4, E', Q', h5, h6, h7⟩ := h
    exact ⟨h1, h2, h3, h4, E', Q', h5, h6, h7⟩
  · -- the suite
    obtain ⟨⟨x0, rfl⟩, D0, nm, b0, b1, b2, b3, b4, b5, b6, b7, b8, b9, b10, b11, b12, b13, b14, j, rfl, hDd, R, hQ⟩ := h
    refine (pss_cons (ps_set (i := 2) scError.nd rfl (Or.inl rfl) (pe_lst (pa_cons (pe_callB (call_isD R.exc hz hf) (by rfl) B.isinstance b_isinstance (pa_cons (pv 1) (pa_cons (pe_glob (v := .ref C0) (by rfl) G.g0 rfl) pa_nil))) (pa_cons (pe_callB (call_isD R.exc hz hf) (by rfl) B.isinstance b_isinstance (pa_cons (pv 1) (pa_cons (pe_glob (v := .ref C1) (by rfl) G.g1 rfl) pa_nil))) (pa_cons (pe_callB (call_isD R.exc hz hf) (by rfl) B.isinstance b_isinstance (pa_cons (pv 1) (pa_cons (pe_glob (v := .ref C2) (by rfl) G.g2 rfl) pa_nil))) pa_nil)))))
      (pss_cons (ps_expr (pe_bm PySem.F.plainAttrs_list PySem.F.slot_list_extend PySem.F.type_list_extend mt_extend (pv 2) <| pa_one (pe_lst (pa_cons (pe_callB (call_isD R.exc hz hf) (by rfl) B.isinstance b_isinstance (pa_cons (pv 1) (pa_cons (pe_glob (v := .ref C3) (by rfl) G.g3 rfl) pa_nil))) (pa_cons (pe_callB (call_isD R.exc hz hf) (by rfl) B.isinstance b_isinstance (pa_cons (pv 1) (pa_cons (pe_glob (v := .ref C4) (by rfl) G.g4 rfl) pa_nil))) (pa_cons (pe_callB (call_isD R.exc hz hf) (by rfl) B.isinstance b_isinstance (pa_cons (pv 1) (pa_cons (pe_glob (v := .ref C5) (by rfl) G.g5 rfl) pa_nil))) pa_nil))))))
      (pss_cons (ps_expr (pe_bm PySem.F.plainAttrs_list PySem.F.slot_list_extend PySem.F.type_list_extend mt_extend (pv 2) <| pa_one (pe_lst (pa_cons (pe_callB (call_isD R.exc hz hf) (by rfl) B.isinstance b_isinstance (pa_cons (pv 1) (pa_cons (pe_glob (v := .ref C6) (by rfl) G.g6 rfl) pa_nil))) (pa_cons (pe_callB (call_isD R.exc hz hf) (by rfl) B.isinstance b_isinstance (pa_cons (pv 1) (pa_cons (pe_glob (v := .ref C7) (by rfl) G.g7 rfl) pa_nil))) (pa_cons (pe_callB (call_isD R.exc hz hf) (by rfl) B.isinstance b_isinstance (pa_cons (pv 1) (pa_cons (pe_glob (v := .ref C8) (by rfl) G.g8 rfl) pa_nil))) pa_nil))))))
      (pss_cons (ps_expr (pe_bm PySem.F.plainAttrs_list PySem.F.slot_list_extend PySem.F.type_list_extend mt_extend (pv 2) <| pa_one (pe_lst (pa_cons (pe_callB (call_isD R.exc hz hf) (by rfl) B.isinstance b_isinstance (pa_cons (pv 1) (pa_cons (pe_glob (v := .ref C9) (by rfl) G.g9 rfl) pa_nil))) (pa_cons (pe_callB (call_isD R.exc hz hf) (by rfl) B.isinstance b_isinstance (pa_cons (pv 1) (pa_cons (pe_glob (v := .ref C10) (by rfl) G.g10 rfl) pa_nil))) pa_nil)))))
      (pss_cons (ps_expr (pe_bm PySem.F.plainAttrs_list PySem.F.slot_list_extend PySem.F.type_list_extend mt_extend (pv 2) <| pa_one (pe_lst (pa_cons (pe_callB (call_isD R.exc hz hf) (by rfl) B.isinstance b_isinstance (pa_cons (pv 1) (pa_cons (pe_glob (v := .ref C11) (by rfl) G.g11 rfl) pa_nil))) (pa_cons (pe_callB (call_isD R.exc hz hf) (by rfl) B.isinstance b_isinstance (pa_cons (pv 1) (pa_cons (pe_glob (v := .ref C12) (by rfl) G.g12 rfl) pa_nil))) (pa_cons (pe_callB (call_isD R.exc hz hf) (by rfl) B.isinstance b_isinstance (pa_cons (pv 1) (pa_cons (pe_glob (v := .ref C13) (by rfl) G.g13 rfl) pa_nil))) pa_nil))))))
      (pss_cons (ps_expr (pe_bm PySem.F.plainAttrs_list PySem.F.slot_list_append PySem.F.type_list_append mt_append (pv 2) (pa_cons (pe_callB (call_isD R.exc hz hf) (by rfl) B.isinstance b_isinstance (pa_cons (pv 1) (pa_cons (pe_glob (v := .ref C14) (by rfl) G.g14 rfl) pa_nil))) pa_nil)))
      (pss_cons (ps_if (pw_or (pt_cmpR op_ne (pe_bm PySem.F.plainAttrs_list PySem.F.slot_list_count PySem.F.type_list_count mt_countV (pv 2) (pa_cons pe_bl pa_nil)) pe_int (nomark _))
          (pw_or1 (pt_not (pt_val (pe_callB (call_isD R.exc hz hf) (by rfl) B.isinstance b_isinstance (pa_cons (pv 1) (pa_cons (pe_ty (by rfl) G.gV b_VE) pa_nil))))))).pt pss_never pss_nil)
      (pss_cons (ps_set (i := 3) scError.nd rfl (Or.inl rfl) (pe_lst (pa_cons pe_str (pa_cons pe_str (pa_cons pe_str (pa_cons pe_str (pa_cons pe_str (pa_cons pe_str (pa_cons pe_str (pa_cons pe_str (pa_cons pe_str (pa_cons pe_str pa_nil))))))))))))
      (pss_cons (ps_set (i := 4) scError.nd rfl (Or.inl rfl) (pe_ix ix_list (pe_op op_cat (pv 3) (pe_lst (pa_cons pe_str (pa_cons pe_str (pa_cons pe_str (pa_cons pe_str (pa_cons pe_str pa_nil))))))) (pe_bm PySem.F.plainAttrs_list PySem.F.slot_list_index PySem.F.type_list_index mt_index (pv 2) (pa_cons pe_bl pa_nil)) (fun _ _ => rfl)))
      (pss_cons (ps_if (pt_cmpR op_eq (pv 4) pe_str (nomark _)) (pss_one (ps_ret (pe_tup (pa_cons (pv 4) (pa_cons (pe_xf XF xp hz hf (pv 1)) (pa_cons (pe_xf XF xi hz hf (pv 1)) pa_nil)))))) pss_nil)
      (pss_one (ps_ret (pe_ifExp (pt_cmpR op_eq (pv 4) pe_str (nomark _)) pe_never (pe_tup (pa_cons (pv 4) pa_nil))))))))))))))).run pins s1 _ H1 D I ?_
    refine ⟨.ref a, rfl, .ref C0, .ref C0, b0, rfl, fun u h => h, R.k0, hDd, .ref a, rfl, .ref C1, .ref C1, b1, rfl, fun u h => h, R.k1, hDd, .ref a, rfl, .ref C2, .ref C2, b2, rfl, fun u h => h, R.k2, hDd, (by show 3 ≤ sizeLine; decide), fun p hp => ?_⟩
    obtain ⟨H2, eH2⟩ : ∃ H', H' = upd H1 p (.lst [.bl b0, .bl b1, .bl b2]) := ⟨_, rfl⟩
    have sm2 : Same H1 H2 := by rw [eH2]; exact same_upd hp
    have hk2 : H2 p = some (.lst [.bl b0, .bl b1, .bl b2]) := by rw [eH2]; exact upd_same
    rw [← eH2]
    -- extend
    refine ⟨.ref p, rfl, .inl ⟨rfl, _, .inl (.inl hk2)⟩, .ref a, rfl, .ref C3, .ref C3, b3, rfl, fun u h => h, R.k3, (hDd.same sm2), .ref a, rfl, .ref C4, .ref C4, b4, rfl, fun u h => h, R.k4, (hDd.same sm2), .ref a, rfl, .ref C5, .ref C5, b5, rfl, fun u h => h, R.k5, (hDd.same sm2), (by show 3 ≤ sizeLine; decide), fun q2 hq2 => ?_⟩
    have pq2 : p ≠ q2 := ne_of_none hk2 hq2
    refine ⟨p, q2, _, _, rfl, rfl, by rw [upd_ne pq2]; exact hk2, upd_same, (by show 3 + 3 ≤ sizeLine; decide), ?_⟩
    obtain ⟨H3, eH3⟩ : ∃ H', H' = upd (upd H2 q2 (.lst [.bl b3, .bl b4, .bl b5])) p (.lst ([.bl b0, .bl b1, .bl b2] ++ [.bl b3, .bl b4, .bl b5])) := ⟨_, rfl⟩
    have sm3 : Same H1 H3 := by rw [eH3]; exact same_of (same_of sm2 (Same.free sm2 hq2)) hp
    have hk3 : H3 p = some (.lst [.bl b0, .bl b1, .bl b2, .bl b3, .bl b4, .bl b5]) := by rw [eH3]; exact upd_same
    rw [← eH3]
    -- extend
    refine ⟨.ref p, rfl, .inl ⟨rfl, _, .inl (.inl hk3)⟩, .ref a, rfl, .ref C6, .ref C6, b6, rfl, fun u h => h, R.k6, (hDd.same sm3), .ref a, rfl, .ref C7, .ref C7, b7, rfl, fun u h => h, R.k7, (hDd.same sm3), .ref a, rfl, .ref C8, .ref C8, b8, rfl, fun u h => h, R.k8, (hDd.same sm3), (by show 3 ≤ sizeLine; decide), fun q3 hq3 => ?_⟩
    have pq3 : p ≠ q3 := ne_of_none hk3 hq3
    refine ⟨p, q3, _, _, rfl, rfl, by rw [upd_ne pq3]; exact hk3, upd_same, (by show 6 + 3 ≤ sizeLine; decide), ?_⟩
    obtain ⟨H4, eH4⟩ : ∃ H', H' = upd (upd H3 q3 (.lst [.bl b6, .bl b7, .bl b8])) p (.lst ([.bl b0, .bl b1, .bl b2, .bl b3, .bl b4, .bl b5] ++ [.bl b6, .bl b7, .bl b8])) := ⟨_, rfl⟩
    have sm4 : Same H1 H4 := by rw [eH4]; exact same_of (same_of sm3 (Same.free sm3 hq3)) hp
    have hk4 : H4 p = some (.lst [.bl b0, .bl b1, .bl b2, .bl b3, .bl b4, .bl b5, .bl b6, .bl b7, .bl b8]) := by rw [eH4]; exact upd_same
    rw [← eH4]
    -- extend
    refine ⟨.ref p, rfl, .inl ⟨rfl, _, .inl (.inl hk4)⟩, .ref a, rfl, .ref C9, .ref C9, b9, rfl, fun u h => h, R.k9, (hDd.same sm4), .ref a, rfl, .ref C10, .ref C10, b10, rfl, fun u h => h, R.k10, (hDd.same sm4), (by show 2 ≤ sizeLine; decide), fun q4 hq4 => ?_⟩
    have pq4 : p ≠ q4 := ne_of_none hk4 hq4
    refine ⟨p, q4, _, _, rfl, rfl, by rw [upd_ne pq4]; exact hk4, upd_same, (by show 9 + 2 ≤ sizeLine; decide), ?_⟩
    obtain ⟨H5, eH5⟩ : ∃ H', H' = upd (upd H4 q4 (.lst [.bl b9, .bl b10])) p (.lst ([.bl b0, .bl b1, .bl b2, .bl b3, .bl b4, .bl b5, .bl b6, .bl b7, .bl b8] ++ [.bl b9, .bl b10])) := ⟨_, rfl⟩
    have sm5 : Same H1 H5 := by rw [eH5]; exact same_of (same_of sm4 (Same.free sm4 hq4)) hp
    have hk5 : H5 p = some (.lst [.bl b0, .bl b1, .bl b2, .bl b3, .bl b4, .bl b5, .bl b6, .bl b7, .bl b8, .bl b9, .bl b10]) := by rw [eH5]; exact upd_same
    rw [← eH5]
    -- extend
    refine ⟨.ref p, rfl, .inl ⟨rfl, _, .inl (.inl hk5)⟩, .ref a, rfl, .ref C11, .ref C11, b11, rfl, fun u h => h, R.k11, (hDd.same sm5), .ref a, rfl, .ref C12, .ref C12, b12, rfl, fun u h => h, R.k12, (hDd.same sm5), .ref a, rfl, .ref C13, .ref C13, b13, rfl, fun u h => h, R.k13, (hDd.same sm5), (by show 3 ≤ sizeLine; decide), fun q5 hq5 => ?_⟩
    have pq5 : p ≠ q5 := ne_of_none hk5 hq5
    refine ⟨p, q5, _, _, rfl, rfl, by rw [upd_ne pq5]; exact hk5, upd_same, (by show 11 + 3 ≤ sizeLine; decide), ?_⟩
    obtain ⟨H6, eH6⟩ : ∃ H', H' = upd (upd H5 q5 (.lst [.bl b11, .bl b12, .bl b13])) p (.lst ([.bl b0, .bl b1, .bl b2, .bl b3, .bl b4, .bl b5, .bl b6, .bl b7, .bl b8, .bl b9, .bl b10] ++ [.bl b11, .bl b12, .bl b13])) := ⟨_, rfl⟩
    have sm6 : Same H1 H6 := by rw [eH6]; exact same_of (same_of sm5 (Same.free sm5 hq5)) hp
    have hk6 : H6 p = some (.lst [.bl b0, .bl b1, .bl b2, .bl b3, .bl b4, .bl b5, .bl b6, .bl b7, .bl b8, .bl b9, .bl b10, .bl b11, .bl b12, .bl b13]) := by rw [eH6]; exact upd_same
    rw [← eH6]
    -- append
    refine ⟨.ref p, rfl, .inl ⟨rfl, _, .inl (.inl hk6)⟩, .ref a, rfl, .ref C14, .ref C14, b14, rfl, fun u h => h, R.k14, (hDd.same sm6), p, _, _, rfl, rfl, hk6, (by show 14 < sizeLine; decide), ?_⟩
    obtain ⟨H7, eH7⟩ : ∃ H', H' = upd H6 p (.lst ([.bl b0, .bl b1, .bl b2, .bl b3, .bl b4, .bl b5, .bl b6, .bl b7, .bl b8, .bl b9, .bl b10, .bl b11, .bl b12, .bl b13] ++ [.bl b14])) := ⟨_, rfl⟩
    have sm7 : Same H1 H7 := by rw [eH7]; exact same_of sm6 hp
    have hk7 : H7 p = some (.lst (kl b0 b1 b2 b3 b4 b5 b6 b7 b8 b9 b10 b11 b12 b13 b14)) := by rw [eH7]; exact upd_same
    rw [← eH7]
    -- the count
    refine ⟨.ref p, rfl, .inl ⟨rfl, _, .inl (.inl hk7)⟩, p, kl b0 b1 b2 b3 b4 b5 b6 b7 b8 b9 b10 b11 b12 b13 b14, .bl true, rfl, rfl, .inl (.inl hk7), rfl, rfl, rfl, _, rfl, ?_⟩
    rw [R.cnt]
    refine iteF ⟨.ref a, rfl, .ty "ValueError", .type "ValueError", true, rfl, fun u h => h, R.ve, (hDd.same sm7), true, rfl, iteF ?_⟩
    -- the names
    refine ⟨(by show 10 ≤ sizeLine; decide), fun q hq => ?_⟩
    refine ⟨.ref q, rfl, (by show 5 ≤ sizeLine; decide), fun r hr2 => ?_⟩
    have qr : q ≠ r := ne_of_none upd_same hr2
    refine ⟨q, r, _, _, rfl, rfl, by rw [upd_ne qr]; exact upd_same, upd_same, (by show 10 + 5 ≤ sizeLine; decide), fun u hu => ?_⟩
    obtain ⟨H8, eH8⟩ : ∃ H', H' = upd (upd (upd H7 q (.lst [V.str "plan", V.str "state", V.str "count", V.str "place", V.str "parcel", V.str "shelf", V.str "carrier", V.str "effect", V.str "sizes", V.str "parcels"])) r (.lst [V.str "contradiction", V.str "arrangement", V.str "full", V.str "carried", V.str "swap"])) u (.lst ([V.str "plan", V.str "state", V.str "count", V.str "place", V.str "parcel", V.str "shelf", V.str "carrier", V.str "effect", V.str "sizes", V.str "parcels"] ++ [V.str "contradiction", V.str "arrangement", V.str "full", V.str "carried", V.str "swap"])) := ⟨_, rfl⟩
    have sm8' : Same H7 H8 := by rw [eH8]; exact same_of (same_of (same_upd hq) (Same.free (same_upd hq) hr2)) (Same.free (same_of (same_upd hq) (Same.free (same_upd hq) hr2)) hu)
    have sm8 : Same H1 H8 := sm7.trans sm8'
    have hu8 : H8 u = some (.lst nmL) := by rw [eH8]; exact upd_same
    have hk8 := sm8' _ _ hk7
    rw [← eH8]
    refine ⟨.ref p, rfl, .inl ⟨rfl, _, .inl (.inl hk8)⟩, p, kl b0 b1 b2 b3 b4 b5 b6 b7 b8 b9 b10 b11 b12 b13 b14, .bl true, j, .bl true, rfl, rfl, .inl (.inl hk8), rfl, rfl, R.at_, rfl, R.be, u, nmL, (j : Nat), .str nm, rfl, rfl, .inl (.inl hu8), atI_nat R.tag, ?_⟩
    rcases hQ with ⟨n1, n2, hQ⟩ | ⟨n1, rfl, dd, fs, x, y, rfl, hx, lp, li, hQ⟩
    · refine ⟨.str nm, rfl, rfl, _, rfl, ?_⟩
      rw [decide_eq_false fun z => n1 (V.str.inj z)]
      refine iteF ⟨.str nm, rfl, rfl, _, rfl, ?_⟩
      rw [decide_eq_false fun z => n2 (V.str.inj z)]
      exact iteF ⟨.str nm, rfl, (by show 1 ≤ sizeLine; decide), fun t ht => hQ _ t (same_of sm8 (Same.free sm8 ht)) (Same.free sm8 ht) upd_same⟩
    · subst n1
      refine ⟨.str "plan", rfl, rfl, _, rfl, ?_⟩
      rw [decide_eq_true rfl]
      refine iteT ⟨.str "plan", rfl, .ref a, rfl, rfl, rfl, dd, fs, x, rfl, sm8 _ _ hx, lp, .ref a, rfl, rfl, rfl, dd, fs, y, rfl, sm8 _ _ hx, li, (by show 3 ≤ sizeLine; decide), fun t ht => hQ _ t (same_of sm8 (Same.free sm8 ht)) (Same.free sm8 ht) upd_same⟩
  · refine ⟨rfl, LA.fn, LA.code, LA.dfl, _, _, fun cls d H' h => ?_, fun v H' h => ?_, ht⟩
    · obtain ⟨D0, nm, b0, b1, b2, b3, b4, b5, b6, b7, b8, b9, b10, b11, b12, b13, b14, j, rfl, hd, R, hq⟩ := h
      exact ⟨true, R.ex, fun _ a _ => ⟨⟨_, rfl⟩, D0, nm, b0, b1, b2, b3, b4, b5, b6, b7, b8, b9, b10, b11, b12, b13, b14, j, rfl, hd, R, hq⟩, fun z => by cases z⟩
    · exact ⟨(by show 1 ≤ sizeLine; decide), fun t ht2 => h _ t (same_upd ht2) ht2 upd_same⟩
end
end Sv
set_option maxHeartbeats 8000000
namespace Sv
open PySem PySem.Spec PyProof.Rows L2
@[irreducible] def qNext : Sp := spNext
theorem go_next {H : Hp} {h l : Addr} {lim : Int} {Q : VK} {E : XK} (LH : LawH H h l) (p1 : 0 < lim) (p2 : lim < 2 ^ 64) (q : ∀ (r : Nat) H', (r : Int) < lim → LawH H' h l → SameX h l H H' → Q (.int (r : Nat)) H') : qNext [.ref h, .int lim] H Q E := by
  unfold qNext
  exact ⟨h, l, lim, rfl, LH, p1, p2, fun r H' r0 r1 L k => by
    obtain ⟨n, rfl⟩ : ∃ n : Nat, r = (n : Int) := ⟨r.toNat, (Int.toNat_of_nonneg r0).symm⟩
    exact q n H' r1 L k⟩
/-- h and l stand, what was tracked but them is kept, and x is kept, too -/
structure St (h l : Addr) (H H' : Hp) : Prop where
  law : LawH H' h l
  k : SameX h l H H'
theorem St.next {h l : Addr} {H H1 H2 : Hp} (a : St h l H H1) (L : LawH H2 h l) (x : SameX h l H1 H2) : St h l H H2 := ⟨L, a.k.trans x⟩
theorem St.same {h l : Addr} {H H1 H2 : Hp} (a : St h l H H1) (e : Same H1 H2) : St h l H H2 := ⟨a.law.same e, fun b o h1 h2 q => e b o (a.k b o h1 h2 q)⟩
theorem LawH.nh {H : Hp} {h l f : Addr} (x : LawH H h l) (hf : H f = none) : f ≠ h ∧ f ≠ l := by
  obtain ⟨m, i, cs, e1, e2, _⟩ := x.ex
  exact ⟨(ne_of_none e1 hf).symm, (ne_of_none e2 hf).symm⟩
theorem LawH.upd {H : Hp} {h l f : Addr} {o : HO} (x : LawH H h l) (h1 : f ≠ h) (h2 : f ≠ l) : LawH (L2.upd H f o) h l := by
  obtain ⟨m, i, cs, e1, e2, e3⟩ := x.ex
  exact ⟨m, i, cs, by rw [upd_ne (Ne.symm h1)]; exact e1, by rw [upd_ne (Ne.symm h2)]; exact e2, e3⟩
theorem St.upd {h l f : Addr} {H H1 : Hp} {o : HO} (a : St h l H H1) (hf : H f = none) (h1 : f ≠ h) (h2 : f ≠ l) : St h l H (L2.upd H1 f o) := by
  refine ⟨a.law.upd h1 h2, fun b u b1 b2 q => ?_⟩
  rw [upd_ne (ne_of_none q hf)]
  exact a.k b u b1 b2 q
theorem St.none {h l f : Addr} {H H1 : Hp} (a : St h l H H1) (hf : H1 f = Option.none) : H f = Option.none := by
  cases q : H f with
  | none => rfl
  | some o =>
    obtain ⟨n1, n2⟩ := a.law.nh hf
    rw [a.k f o n1 n2 q] at hf
    cases hf
theorem St.trans {h l : Addr} {H H1 H2 : Hp} (a : St h l H H1) (b : St h l H1 H2) : St h l H H2 := ⟨b.law, a.k.trans b.k⟩
theorem St.refl {h l : Addr} {H : Hp} (x : LawH H h l) : St h l H H := ⟨x, fun _ _ _ _ q => q⟩
theorem sqT_x {K : PySem.W.Frag} {H H1 : Hp} {h l a : Addr} {xs : List V} (L : LawH H h l) (e : SameX h l H H1) (s : SqT K H a xs) : SqT K H1 a xs := by
  obtain ⟨m, i, cs, e1, e2, _⟩ := L.ex
  rcases s with (s | ⟨o, s⟩) | s
  · exact .inl (.inl (e _ _ (fun z => by rw [z, e1] at s; cases s) (fun z => by rw [z, e2] at s; cases s) s))
  · exact .inl (.inr ⟨o, e _ _ (fun z => by rw [z, e1] at s; cases s) (fun z => by rw [z, e2] at s; cases s) s⟩)
  · exact .inr s
theorem paired_x {K : PySem.W.Frag} {H H' : Hp} {h l : Addr} (L : LawH H h l) (e : SameX h l H H') : ∀ {qs : List Addr} {rs : List Ro}, Paired (fun q r => SqT K H q (rV r)) qs rs → Paired (fun q r => SqT K H' q (rV r)) qs rs
  | _, _, .nil => .nil
  | _, _, .cons h t => .cons (sqT_x L e h) (paired_x L e t)
theorem RtAt.x {K : PySem.W.Frag} {H H' : Hp} {h l b : Addr} {rs : List Ro} (x : RtAt K H b rs) (L : LawH H h l) (e : SameX h l H H') : RtAt K H' b rs := by
  obtain ⟨qs, h1, h2⟩ := x.ex
  exact ⟨qs, sqT_x L e h1, paired_x L e h2⟩
theorem PlanAt.x {K : PySem.W.Frag} {H H' : Hp} {h l p : Addr} {zs : List Int} {rs : List Ro} (x : PlanAt K H p zs rs) (L : LawH H h l) (e : SameX h l H H') : PlanAt K H' p zs rs := by
  obtain ⟨a, b, h1, h2, h3⟩ := x.ex
  exact ⟨a, b, sqT_x L e h1, sqT_x L e h2, h3.x L e⟩
theorem paired_imp {K : PySem.W.Frag} {H H' : Hp} (e : ∀ a xs, SqT K H a xs → SqT K H' a xs) : ∀ {qs : List Addr} {rs : List Ro}, Paired (fun q r => SqT K H q (rV r)) qs rs → Paired (fun q r => SqT K H' q (rV r)) qs rs
  | _, _, .nil => .nil
  | _, _, .cons h t => .cons (e _ _ h) (paired_imp e t)
theorem paired_snoc {K : PySem.W.Frag} {H : Hp} {q : Addr} {r : Ro} (h : SqT K H q (rV r)) : ∀ {qs : List Addr} {rs : List Ro}, Paired (fun q r => SqT K H q (rV r)) qs rs → Paired (fun q r => SqT K H q (rV r)) (qs ++ [q]) (rs ++ [r])
  | _, _, .nil => .cons h .nil
  | _, _, .cons g t => .cons g (paired_snoc h t)
theorem sqT_lst {K : PySem.W.Frag} {H : Hp} {f a : Addr} {xs ys : List V} {o : HO} (hf : H f = some (.lst ys)) (s : SqT K H a xs) : SqT K (upd H f o) a xs := by
  rcases s with (s | ⟨u, s⟩) | s
  · exact .inl (.inl (by rw [upd_ne (fun z => by rw [z, hf] at s; cases s)]; exact s))
  · exact .inl (.inr ⟨u, by rw [upd_ne (fun z => by rw [z, hf] at s; cases s)]; exact s⟩)
  · exact .inr s
section
variable {P : Program} {w : World} {K : PySem.W.Frag} {mg : Str → Option Value} {base : Heap}
def nPla : List Str := ["_law_h", "_law_shelves", "_law_carriers", "_law_sizes", "_law_shelf", "_law_routes", "_law_carrier", "_law_entries", "_law_k"]
theorem scPlan : FnScope nPla ["_law_h", "_law_shelves", "_law_carriers"] (defScope sPlan) := ⟨rfl, rfl, rfl, by decide +kernel, rfl, by decide +kernel, by decide +kernel⟩
end
end Sv
set_option maxHeartbeats 4000000
namespace Sv
open PySem PySem.Spec PyProof.Rows L2
theorem scCheckCount : FnScope ["count"] ["count"] (defScope sCheckCount) := ⟨rfl, rfl, rfl, by decide +kernel, rfl, by decide +kernel, by decide +kernel⟩
theorem scCheckBetween : FnScope ["number", "low", "high"] ["number", "low", "high"] (defScope sCheckBetween) := ⟨rfl, rfl, rfl, by decide +kernel, rfl, by decide +kernel, by decide +kernel⟩
section
variable {P : Program} {w : World} {K : PySem.W.Frag} {mg : Str → Option Value} {base : Heap}
def vN (e : List Nat) : List V := e.map fun (n : Nat) => V.int (n : Int)
theorem vN_len (e : List Nat) : (vN e).length = e.length := by unfold vN; simp
theorem vN_get {e : List Nat} {i : Nat} (h : i < e.length) : (vN e)[i]? = some (.int (ap e i : Nat)) := by
  unfold vN
  rw [List.getElem?_map, ap_at h]
  rfl
end
end Sv
set_option maxHeartbeats 4000000
namespace Sv
open PySem PySem.Spec PyProof.Rows L2
section
variable {P : Program} {w : World} {K : PySem.W.Frag} {mg : Str → Option Value} {base : Heap}
abbrev CtOk (n : Int) : Prop := -1000000000000000000 ≤ n ∧ n ≤ 1000000000000000000
def spCheckCount (CC : Addr) : Sp := fun vs H Q E => ∃ n : Int, vs = [.int n] ∧ (CtOk n → Q .non H) ∧ (¬ CtOk n → E (.ref CC) none H)
def spCheckBetween (CC : Addr) : Sp := fun vs H Q E => ∃ n lo hi : Int, vs = [.int n, .int lo, .int hi] ∧ ((lo ≤ n ∧ n ≤ hi) → Q .non H) ∧ (¬ (lo ≤ n ∧ n ≤ hi) → E (.ref CC) none H)
theorem ok_checkBetween (T : Bd P K mg) : FnOk P w K mg base (L2.CX P w) 2 T.aCheckBetween T.dCheckBetween ["number", "low", "high"] (spCheckBetween T.CC) := by
  have GW : FnOk P w K mg base CX0 1 T.aWithin T.dWithin ["number", "low", "high"] spWithin := ok_within T.Within.F T.bt.isinstance T.bt.bool T.bt.int
  refine T.CheckBetween.F.okX scCheckBetween (fun vs H Q E h => ?_) (fun cdv A outer s H vs Q E hr h => ?_)
  · obtain ⟨n, lo, hi, rfl, _⟩ := h
    rfl
  · obtain ⟨n, lo, hi, rfl, q1, q2⟩ := h
    refine ⟨_, pss_one (ps_if (pt_not (pt_val (pe_call GW hr (by rfl) T.Within.g T.Within.F.kp T.Within.b .nil pass0 (pa_cons (pv 0) (pa_cons (pv 1) (pa_cons (pv 2) pa_nil))))))
      (pss_one (ps_raise rfl (takes_of rfl rfl rfl rfl) (pmk_own PySem.F.excBase_ValueError T.cc.x T.cc.g T.cc.k (raises_own T.cc.b T.cc.t) rfl))) pss_nil), ?_⟩
    refine ⟨.int n, rfl, .int lo, rfl, .int hi, rfl, n, lo, hi, rfl, _, rfl, ?_⟩
    by_cases h : lo ≤ n ∧ n ≤ hi
    · rw [decide_eq_true h]
      exact iteF (q1 h)
    · rw [decide_eq_false h]
      exact iteT (q2 h)
theorem ok_checkCount (T : Bd P K mg) : FnOk P w K mg base (L2.CX P w) 3 T.aCheckCount T.dCheckCount ["count"] (spCheckCount T.CC) := by
  have GB : FnOk P w K mg base (L2.CX P w) 2 T.aCheckBetween T.dCheckBetween ["number", "low", "high"] (spCheckBetween T.CC) := ok_checkBetween T
  obtain ⟨tl, hlim⟩ := T.lim
  refine T.CheckCount.F.okX scCheckCount (fun vs H Q E h => ?_) (fun cdv A outer s H vs Q E hr h => ?_)
  · obtain ⟨n, rfl, _⟩ := h
    rfl
  · obtain ⟨n, rfl, q1, q2⟩ := h
    exact ⟨_, pss_one (ps_expr (pe_call (E := E) GB hr (by rfl) T.CheckBetween.g T.CheckBetween.F.kp T.CheckBetween.b .nil (passes_call (takes_of rfl rfl rfl rfl) fun _ _ _ _ h => h) (pa_cons (pv 0) (pa_cons (pe_un un_neg (pe_glob (v := .int 1000000000000000000) (by rfl) hlim ⟨_, rfl⟩)) (pa_cons (pe_glob (v := .int 1000000000000000000) (by rfl) hlim ⟨_, rfl⟩) pa_nil))))),
      .int n, rfl, _, rfl, n, -1000000000000000000, 1000000000000000000, rfl, q1, q2⟩
theorem vN_snoc {e : List Nat} {i : Nat} (h : i < e.length) : vN (e.take (i + 1)) = vN (e.take i) ++ [.int (ap e i : Nat)] := by
  unfold vN
  rw [List.take_add_one, ap_at h, List.map_append]
  rfl
theorem vN_lt {e : List Nat} {i : Nat} {x : V} (h : (vN e)[i]? = some x) : i < e.length ∧ x = .int (ap e i : Nat) := by
  have h1 := (List.getElem?_eq_some_iff.mp h).1
  rw [vN_len] at h1
  rw [vN_get h1] at h
  exact ⟨h1, (Option.some.inj h).symm⟩
/-- hands back a new tuple of the numbers g -/
def NewT (H : Hp) (g : List Nat) (Q : VK) : Prop := ∀ H' p, Same H H' → H p = none → H' p = some (.tup (vN g)) → Q (.ref p) H'
theorem rep_one_list (n : Nat) (v : V) : (List.replicate n [v]).flatten = List.replicate n v := by
  induction n with
  | zero => rfl
  | succ n ih => rw [List.replicate_succ, List.flatten_cons, ih]; rfl
theorem vN_set (e : List Nat) (i y : Nat) : (vN e).set i (.int (y : Int)) = vN (e.set i y) := by
  unfold vN
  rw [List.map_set]
end
end Sv
set_option maxHeartbeats 4000000
namespace Sv
open PySem PySem.Spec PyProof.Rows L2
section
variable {P : Program} {w : World} {K : PySem.W.Frag} {mg : Str → Option Value} {base : Heap}
theorem scCycleFrom : FnScope ["effect", "start", "cycle", "place"] ["effect", "start"] (defScope sCycleFrom) := ⟨rfl, rfl, rfl, by decide +kernel, rfl, by decide +kernel, by decide +kernel⟩
def spCycleFrom (K : PySem.W.Frag) : Sp := fun vs H Q _ => ∃ (a : Addr) (e : List Nat) (s : Nat), vs = [.ref a, .int (s : Nat)] ∧ SqT K H a (vN e) ∧ Eff e ∧ s < e.length ∧ e.length ≤ 1000 ∧ NewT H (cyc e s) Q
theorem vN_app (a b : List Nat) : vN (a ++ b) = vN a ++ vN b := by unfold vN; rw [List.map_append]
/-- the first k places of a walk from s -/
def walkL (e : List Nat) (s k : Nat) : List Nat := (List.range k).map fun j => it e j s
theorem walkL_succ (e : List Nat) (s k : Nat) : walkL e s (k + 1) = walkL e s k ++ [it e k s] := by
  unfold walkL
  rw [List.range_succ, List.map_append]
  rfl
theorem walkL_len (e : List Nat) (s k : Nat) : (walkL e s k).length = k := by unfold walkL; simp
theorem ok_cycleFrom (T : Bd P K mg) : FnOk P w K mg base CX0 1 T.aCycleFrom T.dCycleFrom ["effect", "start"] (spCycleFrom K) := by
  refine T.CycleFrom.F.ok scCycleFrom (fun vs H Q E h => ?_) (fun cdv A outer s H vs Q E hr h => ?_)
  · obtain ⟨a, e, s, rfl, _⟩ := h
    rfl
  · obtain ⟨a, e, s0, rfl, hA, he, hs, hl, q⟩ := h
    refine ⟨_, pss_cons (ps_set (i := 2) scCycleFrom.nd rfl (Or.inl rfl) (pe_lst (pa_cons (pv 1) pa_nil)))
      (pss_cons (ps_set (i := 3) scCycleFrom.nd rfl (Or.inl rfl) (pe_ix ix_tup (pv 0) (pv 1) (fun _ _ => rfl)))
      (pss_cons (ps_while PassesOwn.never (pt_cmpR op_ne (pv 3) (pv 1) (nomark _))
        (pss_cons (ps_expr (pe_bm PySem.F.plainAttrs_list PySem.F.slot_list_append PySem.F.type_list_append mt_append (pv 2) (pa_cons (pv 3) pa_nil)))
        (pss_one (ps_set (i := 3) scCycleFrom.nd rfl (Or.inl rfl) (pe_ix ix_tup (pv 0) (pv 3) (fun _ _ => rfl))))))
      (pss_one (ps_ret (pe_callTy call_tuple_of (by rfl) T.bt.tuple b_tuple (pa_cons (pv 2) pa_nil)))))), ?_⟩
    obtain ⟨p1, p2, p3, p4⟩ := per_spec he hs
    refine ⟨.int s0, rfl, (by show 1 ≤ sizeLine; decide), fun c hc => ?_⟩
    have sm0 : Same H (upd H c (.lst [.int s0])) := same_upd hc
    refine ⟨.ref a, rfl, .int s0, rfl, a, vN e, _, _, rfl, rfl, sqT_same sm0 hA, atI_nat (vN_get hs), ?_⟩
    refine while_by (fun σ H' => ∃ k, 1 ≤ k ∧ k ≤ per e s0 ∧ σ = [some (.ref a), some (.int (s0 : Nat)), some (.ref c), some (.int (it e k s0 : Nat))] ∧ Same H H' ∧ H' c = some (.lst (vN (walkL e s0 k)))) (fun σ H' => match H' c with | some (.lst xs) => per e s0 + 1 - xs.length | _ => 0)
      ⟨1, Nat.le_refl _, p1, rfl, sm0, upd_same⟩ (fun σ H' hP => ?_) (fun σ H' Q1 Q2 mono h => ?_)
    · obtain ⟨k, h1, h2, rfl, sm, hd⟩ := hP
      have hm : (match H' c with | some (.lst xs) => per e s0 + 1 - xs.length | _ => 0) = per e s0 + 1 - k := by
        rw [hd]
        show per e s0 + 1 - (vN (walkL e s0 k)).length = _
        rw [vN_len, walkL_len]
      refine ⟨_, rfl, _, rfl, rfl, _, rfl, ?_⟩
      by_cases hk : it e k s0 = s0
      · rw [decide_eq_true (by rw [hk])]
        refine iteF ?_
        have ek : k = per e s0 := by
          by_cases h : k = per e s0
          · exact h
          · exact absurd hk (p3 k h1 (by omega))
        rw [ek] at hd
        exact ⟨.ref c, rfl, c, _, rfl, .inl ⟨.inl (.inl hd), fun l hl2 => q _ _ (same_of sm (Same.free sm hl2)) (Same.free sm hl2) upd_same⟩⟩
      · rw [decide_eq_false fun z => hk (by have := V.int.inj z; omega)]
        refine iteT ?_
        have hk2 : k < per e s0 := by
          by_cases h : k = per e s0
          · rw [h] at hk
            exact absurd p2 hk
          · omega
        refine ⟨.ref c, rfl, .inl ⟨rfl, _, .inl (.inl hd)⟩, .int (it e k s0 : Nat), rfl, c, _, _, rfl, rfl, hd, ?_, ?_⟩
        · rw [vN_len, walkL_len]
          exact small1000 (by omega)
        · have sm2 : Same H (upd H' c (.lst (vN (walkL e s0 k) ++ [.int (it e k s0 : Nat)]))) := same_of sm hc
          refine ⟨.ref a, rfl, .int (it e k s0 : Nat), rfl, a, vN e, _, _, rfl, rfl, sqT_same sm2 hA, atI_nat (vN_get (it_lt he hs)), ⟨k + 1, by omega, hk2, rfl, sm2, ?_⟩, ?_⟩
          · rw [upd_same, walkL_succ, vN_app]
            rfl
          · show (match (upd H' c (.lst (vN (walkL e s0 k) ++ [.int (it e k s0 : Nat)]))) c with | some (.lst xs) => per e s0 + 1 - xs.length | _ => 0) < (match H' c with | some (.lst xs) => per e s0 + 1 - xs.length | _ => 0)
            rw [hm, upd_same]
            show per e s0 + 1 - (vN (walkL e s0 k) ++ [V.int (it e k s0 : Nat)]).length < _
            rw [List.length_append, vN_len, walkL_len]
            simp
            omega
    · obtain ⟨x, hx, y, hy, hz, b, hb, hq⟩ := h
      exact ⟨x, hx, y, hy, hz, b, hb, mono _ _ hq⟩
theorem scCyclesOf : FnScope ["effect", "found", "done", "start", "cycle", "place"] ["effect"] (defScope sCyclesOf) := ⟨rfl, rfl, rfl, by decide +kernel, rfl, by decide +kernel, by decide +kernel⟩
/-- tuples of the numbers cs at ps -/
def TupL (H : Hp) (ps : List Addr) (cs : List (List Nat)) : Prop := Paired (fun p c => H p = some (.tup (vN c))) ps cs
theorem tupL_snoc {H : Hp} {p : Addr} {c : List Nat} (h : H p = some (.tup (vN c))) : ∀ {ps : List Addr} {cs : List (List Nat)}, TupL H ps cs → TupL H (ps ++ [p]) (cs ++ [c])
  | _, _, .nil => .cons h .nil
  | _, _, .cons r t => .cons r (tupL_snoc h t)
theorem tupL_len {H : Hp} : ∀ {ps : List Addr} {cs : List (List Nat)}, TupL H ps cs → ps.length = cs.length
  | _, _, .nil => rfl
  | _, _, .cons _ t => congrArg Nat.succ (tupL_len t)
theorem tupL_at {H : Hp} : ∀ {ps : List Addr} {cs : List (List Nat)}, TupL H ps cs → ∀ (i : Nat) (p : Addr), ps[i]? = some p → ∃ c, cs[i]? = some c ∧ H p = some (.tup (vN c))
  | _, _, .nil, i, p, h => by simp at h
  | _, _, .cons r t, 0, p, h => by
    obtain rfl := Option.some.inj h
    exact ⟨_, rfl, r⟩
  | _, _, .cons r t, i + 1, p, h => tupL_at t i p h
def NewLT (H : Hp) (cs : List (List Nat)) (Q : VK) : Prop := ∀ H' f ps, Same H H' → H f = none → H' f = some (.lst (ps.map V.ref)) → TupL H' ps cs → Q (.ref f) H'
def spCyclesOf (K : PySem.W.Frag) : Sp := fun vs H Q _ => ∃ (a : Addr) (e : List Nat), vs = [.ref a] ∧ SqT K H a (vN e) ∧ Eff e ∧ e.length ≤ 1000 ∧ NewLT H (wheels e) Q
/-- which places are told by S -/
def flL (n : Nat) (S : Nat → Bool) : List V := (List.range n).map fun p => V.bl (S p)
theorem flL_len (n : Nat) (S : Nat → Bool) : (flL n S).length = n := by unfold flL; simp
theorem flL_get {n : Nat} {S : Nat → Bool} {p : Nat} (h : p < n) : (flL n S)[p]? = some (.bl (S p)) := by
  unfold flL
  rw [List.getElem?_map, List.getElem?_range h]
  rfl
theorem flL_set (n : Nat) (S : Nat → Bool) (x : Nat) : (flL n S).set x (.bl true) = flL n fun p => S p || decide (p = x) := by
  refine List.ext_getElem? fun i => ?_
  by_cases hi : i < n
  · rw [flL_get hi]
    by_cases hx : i = x
    · subst hx
      rw [List.getElem?_set_self (by rw [flL_len]; exact hi)]
      simp
    · rw [List.getElem?_set_ne (Ne.symm hx), flL_get hi]
      simp [hx]
  · rw [List.getElem?_eq_none (by rw [List.length_set, flL_len]; omega), List.getElem?_eq_none (by rw [flL_len]; omega)]
theorem flL_congr {n : Nat} {S S' : Nat → Bool} (h : ∀ p, p < n → S p = S' p) : flL n S = flL n S' := by
  unfold flL
  exact List.map_congr_left fun p hp => by rw [h p (List.mem_range.mp hp)]
theorem ok_cyclesOf (T : Bd P K mg) : FnOk P w K mg base CX0 2 T.aCyclesOf T.dCyclesOf ["effect"] (spCyclesOf K) := by
  have GF : FnOk P w K mg base CX0 1 T.aCycleFrom T.dCycleFrom ["effect", "start"] (spCycleFrom K) := ok_cycleFrom T
  refine T.CyclesOf.F.ok scCyclesOf (fun vs H Q E h => ?_) (fun cdv A outer s H vs Q E hr h => ?_)
  · obtain ⟨a, e, rfl, _⟩ := h
    rfl
  · obtain ⟨a, e, rfl, hA, he, hl, q⟩ := h
    refine ⟨_, pss_cons (ps_set (i := 1) scCyclesOf.nd rfl (Or.inl rfl) (pe_lst pa_nil))
      (pss_cons (ps_set (i := 2) scCyclesOf.nd rfl (Or.inl rfl) (pe_op op_rep (pe_lst (pa_cons pe_bl pa_nil)) (pe_callB call_len_seq (by rfl) T.bt.len b_len (pa_cons (pv 0) pa_nil))))
      (pss_cons (ps_for PassesOwn.never rfl (pi_range1 (by rfl) T.bt.range (pa_cons (pe_callB call_len_seq (by rfl) T.bt.len b_len (pa_cons (pv 0) pa_nil)) pa_nil)) (pg_name (i := 3) scCyclesOf.nd rfl (Or.inl rfl))
        (pss_one (ps_if (pt_not (pt_val (pe_ix ix_list (pv 2) (pv 3) (fun _ _ => rfl))))
          (pss_cons (ps_set (i := 4) scCyclesOf.nd rfl (Or.inl rfl) (pe_call GF hr (by rfl) T.CycleFrom.g T.CycleFrom.F.kp T.CycleFrom.b .nil pass0 (pa_cons (pv 0) (pa_cons (pv 3) pa_nil))))
          (pss_cons (ps_for PassesOwn.never rfl (pi_tup (pv 4)) (pg_name (i := 5) scCyclesOf.nd rfl (Or.inl rfl))
            (pss_one (ps_asg pe_bl (pg_sub (pv 2) (pv 5) set_list))))
          (pss_one (ps_expr (pe_bm PySem.F.plainAttrs_list PySem.F.slot_list_append PySem.F.type_list_append mt_append (pv 1) (pa_cons (pv 4) pa_nil))))))
          pss_nil)))
      (pss_one (ps_ret (pv 1))))), ?_⟩
    refine ⟨Nat.zero_le _, fun f hf => ?_⟩
    have sm1 : Same H (upd H f (.lst [])) := same_upd hf
    refine ⟨(by show 1 ≤ sizeLine; decide), fun p hp => ?_⟩
    have sm2 : Same H (upd (upd H f (.lst [])) p (.lst [.bl false])) := same_of sm1 (Same.free sm1 hp)
    have small : (e.length : Int) < 2 ^ 62 := by
      have : (1000 : Int) < 2 ^ 62 := by decide
      omega
    have small3 : (e.length : Int) < 2 ^ 63 := by
      have : (1000 : Int) < 2 ^ 63 := by decide
      omega
    refine ⟨.ref a, rfl, a, vN e, rfl, .inr (sqT_same sm2 hA), p, ((vN e).length : Nat), [.bl false], rfl, rfl, upd_same, by omega, by rw [vN_len]; exact small3, ?_, fun d hd => ?_⟩
    · show 1 * ((vN e).length : Int).toNat ≤ sizeLine
      rw [Nat.one_mul, Int.toNat_natCast, vN_len]
      exact sz1000 hl
    have e0 : (List.replicate ((vN e).length : Int).toNat [V.bl false]).flatten = flL e.length fun p => decide (p ∈ (whN e 0).flatten) := by
      rw [rep_one_list, Int.toNat_natCast, vN_len]
      unfold flL whN
      simp only [List.flatten_nil, List.not_mem_nil, decide_false]
      rw [show (fun (p : Nat) => V.bl false) = Function.const Nat (V.bl false) from rfl, List.map_const, List.length_range]
    rw [e0]
    have fp : f ≠ p := ne_of_none upd_same hp
    have fd : f ≠ d := ne_of_none (show (upd (upd H f (.lst [])) p (.lst [.bl false])) f = some (.lst []) by rw [upd_ne fp, upd_same]) hd
    have nd' : H d = none := Same.free sm2 hd
    have sm3 : Same H (upd (upd (upd H f (.lst [])) p (.lst [.bl false])) d (.lst (flL e.length fun p => decide (p ∈ (whN e 0).flatten)))) := same_of sm2 nd'
    refine ⟨.ref a, rfl, a, vN e, rfl, .inr (sqT_same sm3 hA), ((vN e).length : Nat), rfl, by omega, by rw [vN_len]; exact small, ?_⟩
    rw [Int.toNat_natCast, vN_len]
    refine for_range (lo := 0) (n := e.length) (fun i σ H' => (∃ y3 y4 y5, σ = [some (.ref a), some (.ref f), some (.ref d), y3, y4, y5]) ∧ Same H H' ∧ H' d = some (.lst (flL e.length fun p => decide (p ∈ (whN e i).flatten))) ∧
      ∃ ps, H' f = some (.lst (ps.map V.ref)) ∧ TupL H' ps (whN e i)) ⟨⟨none, none, none, rfl⟩, sm3, upd_same, [], by rw [upd_ne fd, upd_ne fp, upd_same]; rfl, .nil⟩ (fun i σ H' hi ⟨⟨y3, y4, y5, es⟩, sm, hdd, ps, hff, hps⟩ => ?_) (fun σ H' ⟨⟨y3, y4, y5, es⟩, sm, hdd, ps, hff, hps⟩ => ?_)
    · subst es
      have ei : (0 + (i : Int)) = (i : Nat) := by omega
      rw [ei]
      refine ⟨.ref d, rfl, .int (i : Nat), rfl, d, _, _, _, rfl, rfl, .inl (.inl hdd), atI_nat (flL_get hi), _, rfl, ?_⟩
      by_cases hm : i ∈ (whN e i).flatten
      · rw [decide_eq_true hm]
        have ew : whN e (i + 1) = whN e i := by
          conv => lhs; unfold whN
          exact if_pos hm
        refine iteF ⟨⟨_, _, _, rfl⟩, sm, ?_, ps, hff, ?_⟩
        · rw [ew]; exact hdd
        · rw [ew]; exact hps
      · rw [decide_eq_false hm]
        have ew : whN e (i + 1) = whN e i ++ [cyc e i] := by
          conv => lhs; unfold whN
          exact if_neg hm
        refine iteT ⟨.ref a, rfl, .int (i : Nat), rfl, a, e, i, rfl, sqT_same sm hA, he, hi, hl, fun H1 t sm1 nt ht => ?_⟩
        have hdd1 := sm1 _ _ hdd
        have hff1 := sm1 _ _ hff
        have dt : d ≠ t := ne_of_none hdd nt
        have df : f ≠ d := fd
        have ft : f ≠ t := ne_of_none hff nt
        refine ⟨.ref t, rfl, t, rfl, ⟨_, .inl (.inl ht)⟩, for_tup (xs := vN (cyc e i)) (fun j σ H2 => (∃ y5, σ = [some (.ref a), some (.ref f), some (.ref d), some (.int (i : Nat)), some (.ref t), y5]) ∧ (∀ b o, b ≠ d → H1 b = some o → H2 b = some o) ∧ (∀ b, H b = none → H2 b = none ∨ True) ∧
          H2 d = some (.lst (flL e.length fun p => decide (p ∈ (whN e i).flatten) || decide (p ∈ (cyc e i).take j)))) ⟨⟨_, rfl⟩, fun b o _ h => h, fun _ _ => .inr trivial, ?_⟩ (fun j σ H2 _ h => .inl (.inl (h.2.1 t _ (Ne.symm dt) ht))) (fun j x σ H2 hx ⟨⟨y5, es⟩, k2, _, hd2⟩ => ?_) (fun σ H2 ⟨⟨y5, es⟩, k2, _, hd2⟩ => ?_)⟩
        · rw [hdd1]
          refine congrArg some (congrArg HO.lst (flL_congr fun p _ => ?_))
          simp
        · subst es
          obtain ⟨hj, rfl⟩ := vN_lt hx
          have hcl : ap (cyc e i) j < e.length := by
            obtain ⟨kk, hkk⟩ := (cyc_mem he hi).mp (List.mem_of_getElem? (ap_at hj))
            rw [hkk]
            exact it_lt he hi
          refine ⟨.ref d, rfl, .int (ap (cyc e i) j : Nat), rfl, d, _, _, ap (cyc e i) j, rfl, rfl, hd2, ?_, ⟨_, rfl⟩, fun b o hb ho => ?_, fun _ _ => .inr trivial, ?_⟩
          · rw [flL_len]
            exact ixN_nat hcl
          · rw [upd_ne hb]
            exact k2 b o hb ho
          · rw [upd_same, flL_set]
            refine congrArg some (congrArg HO.lst (flL_congr fun p _ => ?_))
            rw [List.take_add_one, ap_at hj]
            simp [List.mem_append, Bool.or_assoc]
        · subst es
          rw [vN_len] at hd2
          have hff2 := k2 f _ df hff1
          refine ⟨.ref f, rfl, .inl ⟨rfl, _, .inl (.inl hff2)⟩, .ref t, rfl, f, _, _, rfl, rfl, hff2, ?_, ⟨_, _, _, rfl⟩, fun b o hb => ?_, ?_, ps ++ [t], ?_, ?_⟩
          · rw [List.length_map, tupL_len hps]
            have := ((whN_ok he i (by omega)).1).len he
            exact small1000 (by omega)
          · have hbf : b ≠ f := fun z => by rw [z, hf] at hb; cases hb
            have hbd : b ≠ d := fun z => by rw [z, nd'] at hb; cases hb
            rw [upd_ne hbf]
            exact k2 b o hbd (sm1 _ _ (sm _ _ hb))
          · rw [upd_ne (Ne.symm df), hd2, ew]
            refine congrArg some (congrArg HO.lst (flL_congr fun p _ => ?_))
            rw [List.take_length, List.flatten_append, List.flatten_singleton]
            simp [List.mem_append]
          · rw [upd_same, List.map_append]
            rfl
          · rw [ew]
            have key : ∀ b c, H' b = some (.tup (vN c)) ∨ b = t ∧ c = cyc e i → (upd H2 f (.lst (ps.map V.ref ++ [V.ref t]))) b = some (.tup (vN c)) := fun b c hb => by
              rcases hb with hb | ⟨rfl, rfl⟩
              · have hbf : b ≠ f := ne_of hb hff (fun z => by cases z)
                have hbd : b ≠ d := ne_of hb hdd (fun z => by cases z)
                rw [upd_ne hbf]
                exact k2 b _ hbd (sm1 _ _ hb)
              · rw [upd_ne (Ne.symm ft)]
                exact k2 b _ (Ne.symm dt) ht
            refine tupL_snoc (key t _ (.inr ⟨rfl, rfl⟩)) ?_
            have gen : ∀ {ps : List Addr} {cs : List (List Nat)}, TupL H' ps cs → Paired (fun p c => (upd H2 f (.lst (List.map V.ref _ ++ [V.ref t]))) p = some (.tup (vN c))) ps cs := fun h => Paired.mapP h fun p c hp => key p c (.inl hp)
            exact gen hps
    · subst es
      exact ⟨.ref f, rfl, q H' f ps sm hf hff hps⟩
end
end Sv
set_option maxHeartbeats 4000000
namespace Sv
open PySem PySem.Spec PyProof.Rows L2
section
variable {P : Program} {w : World} {K : PySem.W.Frag} {mg : Str → Option Value} {base : Heap}
theorem scRepeated : FnScope ["effect", "count", "targets", "cycle", "shift", "place", "target"] ["effect", "count"] (defScope sRepeated) := ⟨rfl, rfl, rfl, by decide +kernel, rfl, by decide +kernel, by decide +kernel⟩
theorem vN_drop (c : List Nat) (k : Nat) : (vN c).drop k = vN (c.drop k) := by unfold vN; rw [List.map_drop]
theorem vN_tk (c : List Nat) (k : Nat) : (vN c).take k = vN (c.take k) := by unfold vN; rw [List.map_take]
theorem rot_read {K : PySem.W.Frag} {H : Hp} {a : Addr} {c : List Nat} {k : Nat} {z : Int} {Q : VK} (hz : z = (k : Int)) (hA : SqT K H a (vN c)) (hk : k < c.length) (hl : c.length ≤ 1000)
    {G : V → Hp → Prop} (hG : ∀ x H1, (rSlA K (.ref a) none (some z) H1 fun y H2 => rCatA K x y H2 Q) → G x H1) (q : ∀ H' b, Same H H' → SqT K H' b (vN (c.drop k ++ c.take k)) → Q (.ref b) H') : rSlA K (.ref a) (some z) none H G := by
  subst hz
  have s1 : HT.sIx (vN c).length 0 (some (k : Int)) = k := by rw [HT.sIx_nat, vN_len]; omega
  have s2 : HT.sIx (vN c).length (vN c).length (some (k : Int)) = k := by rw [HT.sIx_nat, vN_len]; omega
  have s3 : HT.sIx (vN c).length (vN c).length none = c.length := by rw [HT.sIx_none, vN_len]
  have c1 : cutV (vN c) (some (k : Int)) none = vN (c.drop k) := by
    unfold cutV
    rw [s1, s3, vN_drop, vN_tk]
    congr 1
    exact List.take_of_length_le (by rw [List.length_drop]; omega)
  have c2 : cutV (vN c) none (some (k : Int)) = vN (c.take k) := by
    unfold cutV
    rw [s2, HT.sIx_none, List.drop_zero, Nat.sub_zero, vN_tk]
  have second : ∀ H1 x, Same H H1 → (∀ (H2 : Hp) (p2 : Addr), Same H1 H2 → H2 p2 = some (.tup (vN (c.take k))) → rCatA K x (.ref p2) H2 Q) → rSlA K (.ref a) none (some (k : Int)) H1 fun y H2 => rCatA K x y H2 Q := fun H1 x sm h => by
    refine ⟨a, vN c, rfl, sqT_same sm hA, fun hw => ?_, fun _ p hp => ?_⟩
    · rw [s2, vN_len] at hw
      omega
    · rw [c2]
      exact h _ p (same_upd hp) upd_same
  by_cases h0 : k = 0
  · refine ⟨a, vN c, rfl, hA, fun _ => ?_, fun hn => ?_⟩
    · refine hG _ _ (second H _ (Same.refl H) fun H2 p2 sm hp2 => ?_)
      refine ⟨a, p2, vN c, vN (c.take k), rfl, rfl, sqT_same sm hA, .inl (.inl hp2), ?_, fun e => ?_, fun _ _ => ?_, fun _ e => ?_⟩
      · rw [vN_len, vN_len, List.length_take]
        exact sz1000 (by omega)
      · have := congrArg List.length e
        rw [vN_len] at this
        simp at this
        rw [this] at hk
        simp at hk
      · refine q H2 a sm ?_
        rw [h0, List.drop_zero, List.take_zero, List.append_nil]
        exact sqT_same sm hA
      · rw [h0, List.take_zero] at e
        exact absurd rfl e
    · rw [s1, s3, vN_len] at hn
      exact absurd ⟨h0, rfl⟩ hn
  · refine ⟨a, vN c, rfl, hA, fun hw => ?_, fun _ p hp => ?_⟩
    · rw [s1] at hw
      omega
    · rw [c1]
      refine hG _ _ (second _ _ (same_upd hp) fun H2 p2 sm hp2 => ?_)
      refine ⟨p, p2, vN (c.drop k), vN (c.take k), rfl, rfl, .inl (.inl (sm _ _ upd_same)), .inl (.inl hp2), ?_, fun e => ?_, fun _ e => ?_, fun _ _ p3 hp3 => ?_⟩
      · rw [vN_len, vN_len, List.length_take, List.length_drop]
        exact sz1000 (by omega)
      · have := congrArg List.length e
        rw [vN_len, List.length_drop] at this
        simp at this
        omega
      · have := congrArg List.length e
        rw [vN_len, List.length_take] at this
        have h9 : min k c.length = 0 := this
        omega
      · refine q _ p3 ((same_upd hp).trans (sm.trans (same_upd hp3))) (.inl (.inl ?_))
        rw [upd_same, vN_app]
theorem rot_tm {K : PySem.W.Frag} {σ : L2.St} {i j : Nat} {H : Hp} {a : Addr} {c : List Nat} {k : Nat} {z : Int} {Q : VK} (hi : σ[i]? = some (some (.ref a))) (hj : σ[j]? = some (some (.int z))) (hz : z = (k : Int)) (hA : SqT K H a (vN c)) (hk : k < c.length) (hl : c.length ≤ 1000)
    (q : ∀ H' b, Same H H' → SqT K H' b (vN (c.drop k ++ c.take k)) → Q (.ref b) H') : tOp (rCatA K) (tSl (rSlA K) (tVar i) (tPart (tVar j)) tNoPart) (tSl (rSlA K) (tVar i) tNoPart (tPart (tVar j))) σ H Q := by
  refine ⟨.ref a, hi, .int z, hj, z, rfl, ?_⟩
  show rSlA K (.ref a) (some z) none H (fun x H1 => tSl (rSlA K) (tVar i) tNoPart (tPart (tVar j)) σ H1 fun y H2 => rCatA K x y H2 Q)
  exact rot_read hz hA hk hl (fun x H2 h => ⟨.ref a, hi, .int z, hj, z, rfl, h⟩) q
/-- the targets when the places of S have been told -/
noncomputable def tgL (e : List Nat) (c : Int) (S : Nat → Bool) : List Nat := (List.range e.length).map fun p => if S p = true then rp e c p else ap e p
theorem tgL_len (e : List Nat) (c : Int) (S : Nat → Bool) : (tgL e c S).length = e.length := by unfold tgL; simp
theorem tgL_congr {e : List Nat} {c : Int} {S S' : Nat → Bool} (h : ∀ p, p < e.length → S p = S' p) : tgL e c S = tgL e c S' := by
  unfold tgL
  exact List.map_congr_left fun p hp => by rw [h p (List.mem_range.mp hp)]
theorem tgL_at {e : List Nat} {c : Int} {S : Nat → Bool} {p : Nat} (hp : p < e.length) : (tgL e c S)[p]? = some (if S p = true then rp e c p else ap e p) := by
  unfold tgL
  rw [List.getElem?_map, List.getElem?_range hp]
  rfl
theorem tgL_set (e : List Nat) (c : Int) (S : Nat → Bool) (x : Nat) : (tgL e c S).set x (rp e c x) = tgL e c fun p => S p || decide (p = x) := by
  refine List.ext_getElem? fun i => ?_
  by_cases hi : i < e.length
  · rw [tgL_at hi]
    by_cases hx : i = x
    · subst hx
      rw [List.getElem?_set_self (by rw [tgL_len]; exact hi)]
      simp
    · rw [List.getElem?_set_ne (Ne.symm hx), tgL_at hi]
      simp [hx]
  · rw [List.getElem?_eq_none (by rw [List.length_set, tgL_len]; omega), List.getElem?_eq_none (by rw [tgL_len]; omega)]
theorem tgL_none (e : List Nat) (c : Int) : tgL e c (fun _ => false) = e := by
  refine List.ext_getElem? fun i => ?_
  by_cases hi : i < e.length
  · rw [tgL_at hi, ap_at hi]
    rfl
  · rw [List.getElem?_eq_none (by rw [tgL_len]; omega), List.getElem?_eq_none (by omega)]
theorem tgL_all {e : List Nat} {c : Int} {S : Nat → Bool} (h : ∀ p, p < e.length → S p = true) : tgL e c S = rep e c := by
  unfold tgL rep
  exact List.map_congr_left fun p hp => by rw [if_pos (h p (List.mem_range.mp hp))]
/-- what stands beside the j-th place of a cycle -/
theorem rot_at {e : List Nat} (E : Eff e) {s : Nat} (hs : s < e.length) (c : Int) {j : Nat} (hj : j < per e s) :
    ((cyc e s).drop (c % (per e s : Int)).toNat ++ (cyc e s).take (c % (per e s : Int)).toNat)[j]? = some (rp e c (it e j s)) := by
  have hpos := per_pos E hs
  have h0 := Int.emod_nonneg c (show (per e s : Int) ≠ 0 by omega)
  have h1 := Int.emod_lt_of_pos c (show (0 : Int) < (per e s : Int) by omega)
  generalize hk : (c % (per e s : Int)).toNat = k
  have hkl : k < per e s := by omega
  have er : rp e c (it e j s) = it e (k + j) s := by
    unfold rp
    rw [per_it E hs, ← it_add, hk]
  rw [er]
  by_cases h : j < per e s - k
  · rw [List.getElem?_append_left (by rw [List.length_drop, cyc_len]; exact h), List.getElem?_drop, cyc_at (by omega)]
  · rw [List.getElem?_append_right (by rw [List.length_drop, cyc_len]; omega), List.length_drop, cyc_len, List.getElem?_take_of_lt (by omega), cyc_at (by omega)]
    refine congrArg some ?_
    rw [it_mod E hs (k + j)]
    congr 1
    rw [show k + j = (j - (per e s - k)) + per e s by omega, Nat.add_mod_right, Nat.mod_eq_of_lt (by omega)]
def spRepeated (K : PySem.W.Frag) : Sp := fun vs H Q _ => ∃ (a : Addr) (e : List Nat) (c : Int), vs = [.ref a, .int c] ∧ SqT K H a (vN e) ∧ Eff e ∧ e.length ≤ 1000 ∧ NewT H (rep e c) Q
theorem ok_repeated (T : Bd P K mg) : FnOk P w K mg base CX0 3 T.aRepeated T.dRepeated ["effect", "count"] (spRepeated K) := by
  have GY : FnOk P w K mg base CX0 2 T.aCyclesOf T.dCyclesOf ["effect"] (spCyclesOf K) := ok_cyclesOf T
  refine T.Repeated.F.ok scRepeated (fun vs H Q E h => ?_) (fun cdv A outer s H vs Q E hr h => ?_)
  · obtain ⟨a, e, c, rfl, _⟩ := h
    rfl
  · obtain ⟨a, e, c, rfl, hA, he, hl, q⟩ := h
    refine ⟨_, pss_cons (ps_set (i := 2) scRepeated.nd rfl (Or.inl rfl) (pe_callTy call_list_of (by rfl) T.bt.list b_list (pa_cons (pv 0) pa_nil)))
      (pss_cons (ps_for PassesOwn.never rfl (pi_list (pe_call GY hr (by rfl) T.CyclesOf.g T.CyclesOf.F.kp T.CyclesOf.b .nil pass0 (pa_cons (pv 0) pa_nil))) (pg_name (i := 3) scRepeated.nd rfl (Or.inl rfl))
        (pss_cons (ps_set (i := 4) scRepeated.nd rfl (Or.inl rfl) (pe_op op_mod (pe_callTy call_int1 (by rfl) T.bt.int b_int (pa_cons (pv 1) pa_nil)) (pe_callB call_len_seq (by rfl) T.bt.len b_len (pa_cons (pv 3) pa_nil))))
        (pss_one (ps_for PassesOwn.never rfl (RZ.pi_zipA (by rfl) T.bt.zip (pa_cons (pv 3) (pa_cons (pe_op op_catA (pe_slice sl_tupA (pv 3) (po_some (pv 4)) po_none) (pe_slice sl_tupA (pv 3) po_none (po_some (pv 4)))) pa_nil)))
          (pg_tup rfl (pgs_cons (pg_name (i := 5) scRepeated.nd rfl (.inl rfl)) (pgs_cons (pg_name (i := 6) scRepeated.nd rfl (.inl rfl)) pgs_nil)))
          (pss_one (ps_asg (pv 6) (pg_sub (pv 2) (pv 5) set_list)))))))
      (pss_one (ps_ret (pe_callTy call_tuple_of (by rfl) T.bt.tuple b_tuple (pa_cons (pv 2) pa_nil))))), ?_⟩
    refine ⟨.ref a, rfl, a, vN e, rfl, .inr hA, fun t ht => ?_⟩
    have sm0 : Same H (upd H t (.lst (vN e))) := same_upd ht
    refine ⟨.ref a, rfl, a, e, rfl, sqT_same sm0 hA, he, hl, fun H1 f ps sm1 nf hf hps => ?_⟩
    have ht1 : H1 t = some (.lst (vN e)) := sm1 _ _ upd_same
    have ft : f ≠ t := fun z => by rw [z, upd_same] at nf; cases nf
    have W := (wheels_ok he).1
    refine ⟨f, rfl, ⟨_, .inl (.inl hf)⟩, for_list (xs := ps.map V.ref) (fun i σ H' => (∃ y3 y4 y5 y6, σ = [some (.ref a), some (.int c), some (.ref t), y3, y4, y5, y6]) ∧ (∀ b o, b ≠ t → H1 b = some o → H' b = some o) ∧
      H' t = some (.lst (vN (tgL e c fun p => decide (p ∈ ((wheels e).take i).flatten))))) ⟨⟨none, none, none, none, rfl⟩, fun _ _ _ h => h, ?_⟩ (fun i σ H' _ h => .inl (.inl (h.2.1 f _ ft hf))) (fun i x σ H' hx ⟨⟨y3, y4, y5, y6, es⟩, k1, htt⟩ => ?_) (fun σ H' ⟨⟨y3, y4, y5, y6, es⟩, k1, htt⟩ => ?_)⟩
    · rw [ht1, show (fun p => decide (p ∈ ((wheels e).take 0).flatten)) = fun _ => false from funext fun p => by simp, tgL_none]
    · subst es
      rw [List.getElem?_map] at hx
      cases hpi : ps[i]? with
      | none => rw [hpi] at hx; cases hx
      | some p =>
        rw [hpi] at hx
        obtain rfl : V.ref p = x := Option.some.inj hx
        obtain ⟨cc, hcc, hp1⟩ := tupL_at hps i p hpi
        obtain ⟨s0, hs0, rfl⟩ := W.cy cc (List.mem_of_getElem? hcc)
        have hpos := per_pos he hs0
        have hple := (per_spec he hs0).2.2.2
        have pt : p ≠ t := fun z => by
          rw [z, ht1] at hp1
          cases hp1
        have hp' : H' p = some (.tup (vN (cyc e s0))) := k1 p _ pt hp1
        have hlen : ((vN (cyc e s0)).length : Int) = (per e s0 : Int) := by rw [vN_len, cyc_len]
        have h0 := Int.emod_nonneg c (show (per e s0 : Int) ≠ 0 by omega)
        have h1 := Int.emod_lt_of_pos c (show (0 : Int) < (per e s0 : Int) by omega)
        have ek : c % ((vN (cyc e s0)).length : Int) = ((c % (per e s0 : Int)).toNat : Int) := by rw [hlen, Int.toNat_of_nonneg h0]
        refine ⟨.int c, rfl, .inl ⟨c, rfl, .ref p, rfl, p, _, rfl, .inr (.inl (.inl hp')), c, _, rfl, rfl, by rw [hlen]; omega, ?_⟩⟩
        refine ⟨.ref p, rfl, ?_⟩
        refine rot_tm (K := K) (i := 3) (j := 4) (a := p) (k := (c % (per e s0 : Int)).toNat) (c := cyc e s0) rfl rfl ek (.inl (.inl hp')) (by rw [cyc_len]; omega) (by rw [cyc_len]; omega) (fun H2 b sm2 hb => ?_)
        have hp2 : H2 p = some (.tup (vN (cyc e s0))) := sm2 _ _ hp'
        have ht2 := sm2 _ _ htt
        have hl2 : (vN (cyc e s0)).length = (vN ((cyc e s0).drop (c % (per e s0 : Int)).toNat ++ (cyc e s0).take (c % (per e s0 : Int)).toNat)).length := by
          rw [vN_len, vN_len, List.length_append, List.length_drop, List.length_take, cyc_len]
          omega
        refine ⟨p, b, _, _, rfl, .inr ⟨.inl (.inl hp2), hb, ?_⟩⟩
        refine RZ.for_zipT hl2 (fun j σ H3 => (∃ y5 y6, σ = [some (.ref a), some (.int c), some (.ref t), some (.ref p), some (.int (c % ((vN (cyc e s0)).length : Int))), y5, y6]) ∧ (∀ b o, b ≠ t → H2 b = some o → H3 b = some o) ∧
          H3 t = some (.lst (vN (tgL e c fun p => decide (p ∈ ((wheels e).take i).flatten) || decide (p ∈ (cyc e s0).take j))))) ⟨⟨_, _, rfl⟩, fun _ _ _ h => h, ?_⟩ (fun j σ H3 ⟨_, k3, _⟩ => ⟨.inl (.inl (k3 p _ pt hp2)), ?_⟩)
          (fun j x y U σ H3 hx hy ⟨⟨y5, y6, es⟩, k3, ht3⟩ hU => ?_) (fun σ H3 ⟨⟨y5, y6, es⟩, k3, ht3⟩ => ?_)
        · rw [ht2]
          refine congrArg some (congrArg HO.lst (congrArg vN (tgL_congr fun p _ => ?_)))
          simp
        · have key : ∀ o, H2 b = some o → (∃ ys, o = .tup ys ∨ ∃ ob, o = .frz ob (.tup ys)) → H3 b = some o := fun o ho hh => by
            refine k3 b o (fun z => ?_) ho
            rw [z, ht2] at ho
            obtain ⟨ys, e1 | ⟨ob, e1⟩⟩ := hh
            · rw [e1] at ho
              cases ho
            · rw [e1] at ho
              cases ho
          rcases hb with (hb | ⟨ob, hb⟩) | hb
          · exact .inl (.inl (key _ hb ⟨_, .inl rfl⟩))
          · exact .inl (.inr ⟨ob, key _ hb ⟨_, .inr ⟨ob, rfl⟩⟩⟩)
          · exact .inr hb
        · subst es
          obtain ⟨hj, rfl⟩ := vN_lt hx
          obtain ⟨hj2, rfl⟩ := vN_lt hy
          have hj3 : j < per e s0 := by rwa [cyc_len] at hj
          have e1 : ap (cyc e s0) j = it e j s0 := by
            have q1 := ap_at hj
            rw [cyc_at hj3] at q1
            exact (Option.some.inj q1).symm
          have e2 : ap ((cyc e s0).drop (c % (per e s0 : Int)).toNat ++ (cyc e s0).take (c % (per e s0 : Int)).toNat) j = rp e c (it e j s0) := by
            have q1 := ap_at hj2
            rw [rot_at he hs0 c hj3] at q1
            exact (Option.some.inj q1).symm
          rw [e1, e2]
          have tU : t ≠ U := ne_of_none ht3 hU
          refine ⟨U, [.int (it e j s0 : Nat), .int (rp e c (it e j s0) : Nat)], rfl, .inl (.inl upd_same), rfl, _, _, rfl, _, _, rfl, rfl, ?_⟩
          refine ⟨.int (rp e c (it e j s0) : Nat), rfl, .ref t, rfl, .int (it e j s0 : Nat), rfl, t, _, _, it e j s0, rfl, rfl, by rw [upd_ne tU]; exact ht3, ?_, ⟨_, _, rfl⟩, fun b o hb ho => ?_, ?_⟩
          · rw [vN_len, tgL_len]
            exact ixN_nat (it_lt he hs0)
          · rw [upd_ne hb, upd_ne (ne_of_none (k3 b o hb ho) hU)]
            exact k3 b o hb ho
          · rw [upd_same, vN_set, tgL_set]
            refine congrArg some (congrArg HO.lst (congrArg vN (tgL_congr fun p _ => ?_)))
            rw [List.take_add_one, cyc_at hj3]
            simp [List.mem_append, Bool.or_assoc]
        · subst es
          refine ⟨⟨_, _, _, _, rfl⟩, fun b o hb ho => k3 b o hb (sm2 _ _ (k1 b o hb ho)), ?_⟩
          rw [ht3]
          refine congrArg some (congrArg HO.lst (congrArg vN (tgL_congr fun p _ => ?_)))
          rw [vN_len, List.take_length, List.take_add_one, hcc, List.flatten_append]
          simp [List.mem_append]
    · subst es
      rw [List.length_map, tupL_len hps, List.take_length] at htt
      rw [tgL_all fun p hp => decide_eq_true ((wheels_ok he).2 p hp)] at htt
      have smx : Same H H' := fun b o hb => by
        have bt : b ≠ t := fun z => by rw [z, ht] at hb; cases hb
        exact k1 b o bt (sm1 _ _ (sm0 _ _ hb))
      exact ⟨.ref t, rfl, t, _, rfl, .inl ⟨.inl (.inl htt), fun l2 hl2 => q _ _ (same_of smx (Same.free smx hl2)) (Same.free smx hl2) upd_same⟩⟩
end
end Sv
set_option maxHeartbeats 4000000
namespace Sv
open PySem PySem.Spec PyProof.Rows L2
section
variable {P : Program} {w : World} {K : PySem.W.Frag} {mg : Str → Option Value} {base : Heap}
abbrev tkX {X : Cx} {E : XK} (tk : Takes X fun cls d _ H => E cls d H) : Passes (L2.CX X.prog X.w) X E := passes_call tk fun _ _ _ _ h => h
end
end Sv
set_option maxHeartbeats 4000000
namespace Sv
open PySem PySem.Spec PyProof.Rows L2
section
open AutoSeq1
theorem extend_tupG (l : Addr) (items : Array Value) (n : Nat) (b : Addr) (items2 : Array Value) (n2 : Nat) (dct : Option Addr) (sl : Array (Option Value)) (hs0 : ¬(!items.isEmpty && Builtin.List.listTooLong (items.size + items2.size)) = true) (hs1 : items.size ≤ sizeLine) (hs2 : items.size + items2.size ≤ sizeLine + 1) :
    Meets (Builtin.«list.extend» ⟨[.ref l, .ref b], []⟩) (fun _ R s => s.heap.get? l = some { cls := .type "list", dict := none, data := .seq items n, slots := #[] } ∧ s.heap.get? b = some { cls := .type "tuple", dict := dct, data := .seq items2 n2, slots := sl } ∧
      R (.ok (.ret Value.none)) { s with heap := s.heap.update l (Obj.mapSeq fun x => x ++ items2), toks := s.toks }) :=
  .of_wp fun prog w A R s h => by
    obtain ⟨hp, g, d, tk, os⟩ := s; obtain ⟨hl, hb, h⟩ := h; have f1 := AutoSeq1.idx_int; have f2 := AutoSeq1.sub_tuple_tuple; have f3 := AutoSeq1.sub_list_list; have f4 := AutoSeq1.sub_tuple_list; have f5 := AutoSeq1.sub_list_tuple;
    have hz' : (items ++ items2).size ≤ sizeLine + 1 := by rw [Array.size_append]; exact hs2
    wp_walk using (wpAny_updateSeq hl rfl (hz := hs1) (_hz' := hz')), wpAny_loadPart' hl, wpAny_loadPart' hb; exact ⟨_, rfl, h⟩
end
section
variable {X : Cx}
def rExtT (K : PySem.W.Frag) : V → List V → Hp → VK → Prop := fun x vs H Q => ∃ l b xs zs, x = .ref l ∧ vs = [.ref b] ∧ H l = some (.lst xs) ∧ SqT K H b zs ∧ xs.length + zs.length ≤ sizeLine ∧ Q .non (upd H l (.lst (xs ++ zs)))
theorem mt_extT : MtM X "list.extend" (rExtT X.K) := by
  intro pins s σ H x vs v us Q I rx rv h
  obtain ⟨l, b, xs, zs, rfl, rfl, hH, hB, hz, q⟩ := h
  cases rx
  obtain ⟨u, rfl, ru⟩ := rv.one
  cases ru
  obtain ⟨z, its, n, r, hl, e⟩ := I.lstM hH
  obtain ⟨its2, r2, ⟨⟨c, dct, dt, sl⟩, e2, hc, n2, hd⟩, z2⟩ := I.tuple hB
  obtain rfl : c = .type "tuple" := hc
  obtain rfl : dt = .seq its2.toArray n2 := hd
  have hl2 := r2.length
  have hsz : its.toArray.size + its2.toArray.size ≤ sizeLine := by rw [List.size_toArray, List.size_toArray]; omega
  have hlong : ¬ (!its.toArray.isEmpty && Builtin.List.listTooLong (its.toArray.size + its2.toArray.size)) = true := by
    rw [notLongL hsz, Bool.and_false]
    exact Bool.false_ne_true
  refine call_meets F.slot_list_extend ⟨_, e, rfl⟩ F.entry_list_extend (F.args_list_extend_2 _ _)
    (extend_tupG l its.toArray n b its2.toArray n2 dct sl hlong (by rw [List.size_toArray]; omega) (by omega)) ⟨e, e2, ?_⟩
  refine ⟨.non, _, I.lset (its' := its ++ its2) hH e (by simp) (r.append r2) ?_, rfl, q⟩
  rw [List.length_append]
  omega
end
end Sv
set_option maxHeartbeats 4000000
namespace Sv
open PySem PySem.Spec PyProof.Rows L2
/-- a layout: who is carried, who lies where; the tuples may be constants -/
structure LayT (K : PySem.W.Frag) (H : Hp) (ca sh : Addr) (cs : List Int) (ss : List (List Int)) : Prop where
  c : SqT K H ca (cs.map V.int)
  s : ∃ qs : List Addr, SqT K H sh (qs.map V.ref) ∧ Paired (fun q s => SqT K H q (s.map V.int)) qs ss
theorem segT_imp {K : PySem.W.Frag} {H H' : Hp} (e : ∀ a xs, SqT K H a xs → SqT K H' a xs) : ∀ {qs : List Addr} {ss : List (List Int)}, Paired (fun q s => SqT K H q (s.map V.int)) qs ss → Paired (fun q s => SqT K H' q (s.map V.int)) qs ss
  | _, _, .nil => .nil
  | _, _, .cons h t => .cons (e _ _ h) (segT_imp e t)
theorem segT_len {K : PySem.W.Frag} {H : Hp} : ∀ {qs : List Addr} {ss : List (List Int)}, Paired (fun q s => SqT K H q (s.map V.int)) qs ss → qs.length = ss.length
  | _, _, .nil => rfl
  | _, _, .cons _ t => congrArg Nat.succ (segT_len t)
theorem segT_at {K : PySem.W.Frag} {H : Hp} : ∀ {qs : List Addr} {ss : List (List Int)} {i : Nat} {q : Addr}, Paired (fun q s => SqT K H q (s.map V.int)) qs ss → qs[i]? = some q → ∃ s, ss[i]? = some s ∧ SqT K H q (s.map V.int)
  | _, _, i, _, .nil, e => by simp at e
  | _, _, 0, q, .cons h t, e => by
    obtain rfl := Option.some.inj e
    exact ⟨_, rfl, h⟩
  | _, _, i + 1, q, .cons h t, e => segT_at (i := i) t (by simpa using e)
theorem segT_of {K : PySem.W.Frag} {H : Hp} : ∀ {qs : List Addr} {ss : List (List Int)}, SegV H qs ss → Paired (fun q s => SqT K H q (s.map V.int)) qs ss
  | _, _, .nil => .nil
  | _, _, .cons h t => .cons (.inl (.inl h)) (segT_of t)
theorem LayT.imp {K : PySem.W.Frag} {H H' : Hp} {ca sh : Addr} {cs : List Int} {ss : List (List Int)} (x : LayT K H ca sh cs ss) (e : ∀ a xs, SqT K H a xs → SqT K H' a xs) : LayT K H' ca sh cs ss := by
  obtain ⟨qs, h1, h2⟩ := x.s
  exact ⟨e _ _ x.c, qs, e _ _ h1, segT_imp e h2⟩
theorem LayT.same {K : PySem.W.Frag} {H H' : Hp} {ca sh : Addr} {cs : List Int} {ss : List (List Int)} (x : LayT K H ca sh cs ss) (e : Same H H') : LayT K H' ca sh cs ss := x.imp fun _ _ => sqT_same e
theorem LayAt.t {K : PySem.W.Frag} {H : Hp} {ca sh : Addr} {cs : List Int} {ss : List (List Int)} (x : LayAt H ca sh cs ss) : LayT K H ca sh cs ss := by
  obtain ⟨qs, h1, h2⟩ := x.s
  exact ⟨.inl (.inl x.c), qs, .inl (.inl h1), segT_of h2⟩
/-- lists of numbers at rw, each a list of its own -/
def RowL (H : Hp) (rw : List Addr) (ss : List (List Int)) : Prop := Paired (fun q s => H q = some (.lst (s.map V.int))) rw ss
theorem rowL_imp {H H' : Hp} : ∀ {rw : List Addr} {ss : List (List Int)}, (∀ q ∈ rw, ∀ o, H q = some o → H' q = some o) → RowL H rw ss → RowL H' rw ss
  | _, _, _, .nil => .nil
  | _, _, e, .cons h t => .cons (e _ (List.mem_cons_self ..) _ h) (rowL_imp (fun q hq => e q (List.mem_cons_of_mem _ hq)) t)
theorem rowL_len {H : Hp} : ∀ {rw : List Addr} {ss : List (List Int)}, RowL H rw ss → rw.length = ss.length
  | _, _, .nil => rfl
  | _, _, .cons _ t => congrArg Nat.succ (rowL_len t)
theorem rowL_at {H : Hp} : ∀ {rw : List Addr} {ss : List (List Int)} {i : Nat} {q : Addr}, RowL H rw ss → rw[i]? = some q → ∃ s, ss[i]? = some s ∧ H q = some (.lst (s.map V.int))
  | _, _, i, _, .nil, e => by simp at e
  | _, _, 0, q, .cons h t, e => by
    obtain rfl := Option.some.inj e
    exact ⟨_, rfl, h⟩
  | _, _, i + 1, q, .cons h t, e => rowL_at (i := i) t (by simpa using e)
theorem rowL_mem {H : Hp} {rw : List Addr} {ss : List (List Int)} (h : RowL H rw ss) {q : Addr} (hq : q ∈ rw) : ∃ xs, H q = some (.lst xs) := by
  obtain ⟨i, hi⟩ := List.mem_iff_getElem?.mp hq
  obtain ⟨s, _, e⟩ := rowL_at h hi
  exact ⟨_, e⟩
theorem rowL_free {H : Hp} {rw : List Addr} {ss : List (List Int)} (h : RowL H rw ss) {q : Addr} (hq : H q = none) : q ∉ rw := fun m => by
  obtain ⟨xs, e⟩ := rowL_mem h m
  rw [hq] at e
  cases e
theorem rowL_snoc {H : Hp} {q : Addr} {s : List Int} (h : H q = some (.lst (s.map V.int))) : ∀ {rw : List Addr} {ss : List (List Int)}, RowL H rw ss → RowL H (rw ++ [q]) (ss ++ [s])
  | _, _, .nil => .cons h .nil
  | _, _, .cons r t => .cons r (rowL_snoc h t)
theorem rowL_set {H : Hp} {s' : List Int} : ∀ {rw : List Addr} {ss : List (List Int)} {i : Nat} {q : Addr}, rw.Nodup → RowL H rw ss → rw[i]? = some q → RowL (upd H q (.lst (s'.map V.int))) rw (ss.set i s')
  | _, _, i, _, _, .nil, e => by simp at e
  | r :: rw, s :: ss, 0, q, nd, .cons h t, e => by
    obtain rfl := Option.some.inj e
    refine .cons upd_same (rowL_imp (fun b hb o ho => ?_) t)
    rw [upd_ne (fun z : b = r => (List.nodup_cons.mp nd).1 (by rw [← z]; exact hb))]
    exact ho
  | r :: rw, s :: ss, i + 1, q, nd, .cons h t, e => by
    have e' : rw[i]? = some q := by simpa using e
    refine .cons ?_ (rowL_set (List.nodup_cons.mp nd).2 t e')
    rw [upd_ne (fun z : r = q => (List.nodup_cons.mp nd).1 (by rw [z]; exact List.mem_of_getElem? e'))]
    exact h
def exch (L : Lay Int) (p : Nat × Nat) : List V := [.int (p.1 : Nat), .int (p.2 : Nat), .int (L.1.getD p.1 0), .int ((L.2.getD p.2 []).headD (L.1.getD p.1 0))]
def exN (ps : List (Nat × Nat)) (L : Lay Int) : Nat → List (List V)
  | 0 => []
  | k + 1 => exN ps L k ++ (match ps[k]? with | some p => [exch (steps (ps.take k) L) p] | none => [])
def exL (ps : List (Nat × Nat)) (L : Lay Int) : List (List V) := exN ps L ps.length
theorem exN_len (ps : List (Nat × Nat)) (L : Lay Int) : ∀ k, (exN ps L k).length ≤ k
  | 0 => Nat.le_refl _
  | k + 1 => by
    unfold exN
    rw [List.length_append]
    have := exN_len ps L k
    split <;> simp <;> omega
theorem exN_succ {ps : List (Nat × Nat)} {L : Lay Int} {k : Nat} {p : Nat × Nat} (h : ps[k]? = some p) : exN ps L (k + 1) = exN ps L k ++ [exch (steps (ps.take k) L) p] := by
  conv => lhs; unfold exN
  rw [h]
theorem steps_take {α : Type} {ps : List (Nat × Nat)} {L : Lay α} {k : Nat} {p : Nat × Nat} (h : ps[k]? = some p) : steps (ps.take (k + 1)) L = step1 (steps (ps.take k) L) p := by
  rw [List.take_add_one, h]
  exact steps_snoc _ _ _
/-- the visits of valid plans are there -/
theorem prs_ok {n : Int} {rs : List Ro} (hr : ∀ r ∈ rs, r ≠ [] ∧ ∀ e ∈ r, okE n e = true) (m : Int) : ∀ k, ∀ p ∈ prs rs m k, p.1 < rs.length ∧ 0 ≤ p.2 ∧ p.2 < n
  | 0, p, h => by cases h
  | k + 1, p, h => by
    unfold prs at h
    rcases List.mem_append.mp h with h | h
    · exact prs_ok hr m k p h
    · cases hk : rs[k]? with
      | none => rw [hk] at h; cases h
      | some r =>
        rw [hk] at h
        simp only at h
        cases he : ent r m with
        | none => rw [he] at h; cases h
        | some z =>
          rw [he] at h
          rw [List.mem_singleton.mp h]
          have hmem := List.mem_of_getElem? hk
          obtain ⟨hne, hok⟩ := hr r hmem
          have h1 := (ent_get hne m).1
          rw [he] at h1
          have h2 := hok _ (List.mem_of_getElem? h1)
          unfold okE at h2
          have h3 := of_decide_eq_true h2
          exact ⟨(List.getElem?_eq_some_iff.mp hk).1, h3.1, by have := h3.2; omega⟩
theorem vis_ok {n : Nat} {rs : List Ro} (hr : ∀ r ∈ rs, r ≠ [] ∧ ∀ e ∈ r, okE n e = true) (m : Int) : ∀ p ∈ vis rs m, p.1 < rs.length ∧ p.2 < n := fun p hp => by
  unfold vis at hp
  obtain ⟨q, hq, rfl⟩ := List.mem_map.mp hp
  have := prs_ok hr m _ q hq
  exact ⟨this.1, by show q.2.toNat < n; omega⟩
theorem prs_meet (rs : List Ro) (m : Int) : ∀ k, meetN rs m k = (prs rs m k).map fun p => pairV p.1 p.2
  | 0 => rfl
  | k + 1 => by
    unfold meetN prs
    rw [prs_meet rs m k, List.map_append]
    congr 1
    cases rs[k]? with
    | none => rfl
    | some r =>
      simp only
      cases ent r m with
      | none => rfl
      | some z => rfl
theorem meets_vis {n : Nat} {rs : List Ro} (hr : ∀ r ∈ rs, r ≠ [] ∧ ∀ e ∈ r, okE n e = true) (m : Int) : meets rs m = (vis rs m).map fun p => pairV p.1 (p.2 : Nat) := by
  unfold meets vis
  rw [prs_meet, List.map_map]
  refine List.map_congr_left fun p hp => ?_
  have := prs_ok hr m _ p hp
  show pairV p.1 p.2 = pairV p.1 ((p.2.toNat : Nat) : Int)
  rw [Int.toNat_of_nonneg this.2.1]
end Sv
set_option maxHeartbeats 4000000
namespace Sv
open PySem PySem.Spec PyProof.Rows L2
/-- a plan that is valid, its entries too -/
structure Val (zs : List Int) (rs : List Ro) : Prop extends Good zs rs where
  e : ∀ r ∈ rs, ∀ e ∈ r, okE zs.length e = true
theorem val_of {zs : List Int} {rs : List Ro} (h : bad zs rs = none) : Val zs rs := by
  refine ⟨good_of h, ?_⟩
  unfold bad at h
  cases hb : badS zs with
  | some i => rw [hb] at h; cases h
  | none =>
    rw [hb] at h
    simp only [Option.map_eq_none_iff] at h
    unfold badR at h
    split at h
    · rw [Option.map_eq_none_iff] at h
      intro r hr e he
      have := fst_all h r hr
      unfold okR at this
      rw [Bool.and_eq_true, List.all_eq_true] at this
      exact this.2 e he
    · cases h
theorem Val.bad {zs : List Int} {rs : List Ro} (v : Val zs rs) : bad zs rs = none := by
  have h1 : badS zs = none := by
    unfold badS
    rw [if_pos v.z1, fst_none (p := okZ) (fun j y hy => decide_eq_true (v.z2 y (List.mem_of_getElem? hy)))]
    rfl
  have h2 : badR zs.length rs = none := by
    unfold badR
    rw [if_pos v.r1, fst_none (fun j y hy => ?_)]
    · rfl
    · unfold okR
      rw [decide_eq_true (v.r2 y (List.mem_of_getElem? hy)), Bool.true_and, List.all_eq_true]
      exact v.e y (List.mem_of_getElem? hy)
  unfold Sv.bad
  rw [h1]
  simp [h2]
theorem Val.small {zs : List Int} {rs : List Ro} (v : Val zs rs) : Small zs rs := ⟨by have := v.z1; omega, by have := v.r1; omega, fun r hr => by have := v.r2 r hr; omega⟩
theorem Val.ro {zs : List Int} {rs : List Ro} (v : Val zs rs) : ∀ r ∈ rs, r ≠ [] ∧ ∀ e ∈ r, okE zs.length e = true := fun r hr => ⟨(v.ne r hr).1, v.e r hr⟩
theorem Val.num {zs : List Int} {rs : List Ro} (v : Val zs rs) : rs.length + sumN zs ≤ 200 := by
  have := sumN_le v.z2
  have := v.z1
  have := v.r1
  omega
section
variable {P : Program} {w : World} {K : PySem.W.Frag} {mg : Str → Option Value} {base : Heap}
def nJo : List Str := ["carried", "shelves", "contents", "shelf"]
theorem scJoin : FnScope nJo ["carried", "shelves"] (defScope sJoin) := ⟨rfl, rfl, rfl, by decide +kernel, rfl, by decide +kernel, by decide +kernel⟩
/-- a new list of numbers -/
def NewL (H : Hp) (l : List Int) (Q : VK) : Prop := ∀ H' f, Same H H' → H f = none → H' f = some (.lst (l.map V.int)) → Q (.ref f) H'
def spJoin (K : PySem.W.Frag) : Sp := fun vs H Q _ => ∃ (ca sh : Addr) (cs : List Int) (ss : List (List Int)), vs = [.ref ca, .ref sh] ∧ LayT K H ca sh cs ss ∧ cs.length + ss.flatten.length ≤ 1000 ∧ NewL H (cs ++ ss.flatten) Q
theorem flat_take {α : Type} {ss : List (List α)} {i : Nat} {s : List α} (h : ss[i]? = some s) : (ss.take (i + 1)).flatten = (ss.take i).flatten ++ s := by
  rw [List.take_add_one, h, List.flatten_append]
  simp
theorem flat_take_len {α : Type} (ss : List (List α)) (i : Nat) : (ss.take i).flatten.length ≤ ss.flatten.length := by
  have h := congrArg (fun l => (List.flatten l).length) (List.take_append_drop i ss)
  simp only [List.flatten_append, List.length_append] at h
  omega
theorem ok_join (T : Bd P K mg) : FnOk P w K mg base CX0 1 T.aJoin T.dJoin ["carried", "shelves"] (spJoin K) := by
  refine T.Join.F.ok scJoin (fun vs H Q E h => ?_) (fun cdv A outer s H vs Q E hr h => ?_)
  · obtain ⟨ca, sh, cs, ss, rfl, _⟩ := h
    rfl
  · obtain ⟨ca, sh, cs, ss, rfl, hL, hl, q⟩ := h
    obtain ⟨qs, hs1, hs2⟩ := hL.s
    have hql := segT_len hs2
    refine ⟨_, pss_cons (ps_set (i := 2) scJoin.nd rfl (Or.inl rfl) (pe_callTy call_list_of (by rfl) T.bt.list b_list (pa_cons (pv 0) pa_nil)))
      (pss_cons (ps_for PassesOwn.never rfl (pi_tup (pv 1)) (pg_name (i := 3) scJoin.nd rfl (Or.inl rfl))
        (pss_one (ps_expr (pe_bm PySem.F.plainAttrs_list PySem.F.slot_list_extend PySem.F.type_list_extend mt_extT (pv 2) (pa_cons (pv 3) pa_nil)))))
      (pss_one (ps_ret (pv 2)))), ?_⟩
    refine ⟨.ref ca, rfl, ca, _, rfl, .inr hL.c, fun f hf => ?_⟩
    have sm0 : Same H (upd H f (.lst (cs.map V.int))) := same_upd hf
    refine ⟨.ref sh, rfl, sh, rfl, ⟨_, sqT_same sm0 hs1⟩, for_tup (xs := qs.map V.ref) (fun i σ H' => (∃ y, σ = [some (.ref ca), some (.ref sh), some (.ref f), y]) ∧ Same H H' ∧ H' f = some (.lst ((cs ++ (ss.take i).flatten).map V.int))) ⟨⟨none, rfl⟩, sm0, by rw [upd_same]; simp⟩
      (fun i σ H' _ h => sqT_same h.2.1 hs1) (fun i x σ H' hx ⟨⟨y, es⟩, sm, hd⟩ => ?_) (fun σ H' ⟨⟨y, es⟩, sm, hd⟩ => ?_)⟩
    · subst es
      obtain ⟨q1, hq1, rfl⟩ := refs_lt hx
      obtain ⟨s1, hs3, hq2⟩ := segT_at hs2 hq1
      refine ⟨.ref f, rfl, .inl ⟨rfl, _, .inl (.inl hd)⟩, .ref q1, rfl, f, q1, _, _, rfl, rfl, hd, sqT_same sm hq2, ?_, ⟨_, rfl⟩, same_of sm hf, ?_⟩
      · rw [List.length_map, List.length_map, List.length_append]
        have h1 := flat_take_len ss (i + 1)
        rw [flat_take hs3, List.length_append] at h1
        exact sz1000 (by omega)
      · rw [upd_same, flat_take hs3, ← List.append_assoc, List.map_append (l₁ := cs ++ (ss.take i).flatten)]
    · subst es
      rw [List.length_map, hql, List.take_length] at hd
      exact ⟨.ref f, rfl, q H' f sm hf hd⟩
end
end Sv
set_option maxHeartbeats 4000000
namespace Sv
open PySem PySem.Spec PyProof.Rows L2
section
variable {P : Program} {w : World} {K : PySem.W.Frag} {mg : Str → Option Value} {base : Heap}
def rLo (K : PySem.W.Frag) : List V → Hp → VK → Prop := fun xs H Q => ∃ p ys, xs = [.ref p] ∧ (SqL K H p ys ∨ SqT K H p ys) ∧ ∀ l, H l = none → Q (.ref l) (upd H l (.lst ys))
def rTo (K : PySem.W.Frag) : List V → Hp → VK → Prop := fun xs H Q => ∃ p ys, xs = [.ref p] ∧ ((SqL K H p ys ∧ ∀ l, H l = none → Q (.ref l) (upd H l (.tup ys))) ∨ (SqT K H p ys ∧ Q (.ref p) H))
def nAt : List Str := ["plan", "number", "carried", "shelves", "hands", "rows", "exchanges", "carrier", "shelf", "left", "taken", "row"]
theorem scAfterTick : FnScope nAt ["plan", "number", "carried", "shelves"] (defScope sAfterTick) := ⟨rfl, rfl, rfl, by decide +kernel, rfl, by decide +kernel, by decide +kernel⟩
def spAfterTick (K : PySem.W.Frag) : Sp := fun vs H Q _ => ∃ (p ca sh : Addr) (n : Int) (zs : List Int) (rs : List Ro) (L : Lay Int), vs = [.ref p, .int n, .ref ca, .ref sh] ∧ PlanAt K H p zs rs ∧ Val zs rs ∧ LayT K H ca sh L.1 L.2 ∧ Fits rs.length zs L ∧
  ∀ H' t c' s' x, Same H H' → H' t = some (.tup [.ref c', .ref s', .ref x]) → LayT K H' c' s' (tickL rs (n - 1) L).1 (tickL rs (n - 1) L).2 → TL H' x (exL (vis rs (n - 1)) L) → H x = none → Q (.ref t) H'
theorem fit_at {n : Nat} {zs : List Int} {L : Lay Int} (h : Fits n zs L) : L.1.length = n ∧ L.2.length = zs.length := ⟨h.1, by have := congrArg List.length h.2; simpa using this⟩
theorem fit_row {n : Nat} {zs : List Int} {L : Lay Int} (h : Fits n zs L) (hz : ∀ z ∈ zs, 0 ≤ z ∧ z ≤ 9) {i : Nat} {s : List Int} (e : L.2[i]? = some s) : s.length ≤ 9 := by
  have h1 : (L.2.map List.length)[i]? = some s.length := by rw [List.getElem?_map, e]; rfl
  rw [h.2, List.getElem?_map] at h1
  cases hz1 : zs[i]? with
  | none => rw [hz1] at h1; cases h1
  | some z =>
    rw [hz1] at h1
    have := hz z (List.mem_of_getElem? hz1)
    have := Option.some.inj h1
    omega
theorem mtch_eq {α : Type} {L : Lay α} {p : Nat × Nat} {x : α} {row : List α} (h1 : L.1[p.1]? = some x) (h2 : L.2[p.2]? = some row) : step1 L p = (L.1.set p.1 (row.headD x), L.2.set p.2 (row ++ [x]).tail) := by
  unfold step1
  rw [h1, h2]
theorem exch_eq {L : Lay Int} {p : Nat × Nat} {x : Int} {row : List Int} (h1 : L.1[p.1]? = some x) (h2 : L.2[p.2]? = some row) : exch L p = [.int (p.1 : Nat), .int (p.2 : Nat), .int x, .int (row.headD x)] := by
  unfold exch
  rw [List.getD_eq_getElem?_getD, h1, List.getD_eq_getElem?_getD, h2]
  rfl
theorem vis_len (rs : List Ro) (m : Int) : (vis rs m).length ≤ rs.length := by
  unfold vis
  rw [List.length_map]
  have := meetN_len rs m rs.length
  rw [prs_meet, List.length_map] at this
  exact this
theorem tupsV_at {H : Hp} : ∀ {ps : List Addr} {ts : List (List V)} {i : Nat} {p : Addr}, TupsV H ps ts → ps[i]? = some p → ∃ t, ts[i]? = some t ∧ H p = some (.tup t)
  | _, _, i, _, .nil, e => by simp at e
  | _, _, 0, q, .cons h t, e => by
    obtain rfl := Option.some.inj e
    exact ⟨_, rfl, h⟩
  | _, _, i + 1, q, .cons h t, e => tupsV_at (i := i) t (by simpa using e)
theorem ok_afterTick (T : Bd P K mg) : FnOk P w K mg base CX0 2 T.aAfterTick T.dAfterTick ["plan", "number", "carried", "shelves"] (spAfterTick K) := by
  have GV : FnOk P w K mg base CX0 1 T.aVisitsIn T.dVisitsIn ["routes", "number"] (spVisitsIn K) := ok_visitsIn T.VisitsIn T.bt
  refine T.AfterTick.F.ok scAfterTick (fun vs H Q E h => ?_) (fun cdv A outer s H vs Q E hr h => ?_)
  · obtain ⟨p, ca, sh, n, zs, rs, L, rfl, _⟩ := h
    rfl
  · obtain ⟨p, ca, sh, n, zs, rs, L, rfl, hp, hv, hL, hf, q⟩ := h
    obtain ⟨a, b, hp1, ha, hb⟩ := hp.ex
    obtain ⟨qs, hs1, hs2⟩ := hL.s
    have hql := segT_len hs2
    obtain ⟨fl1, fl2⟩ := fit_at hf
    have hz12 := hv.z1
    have hr6 := hv.r1
    refine ⟨_, pss_cons (ps_set (i := 4) scAfterTick.nd rfl (Or.inl rfl) (pe_callTy call_list_of (by rfl) T.bt.list b_list (pa_cons (pv 2) pa_nil)))
      (pss_cons (ps_setLc (i := 5) (own := [("shelf", 8)]) (g := gName 8) (tt := tYes) (te := tCB (rLo K) (tCons (tVar 8) tNil)) rfl scAfterTick.nd rfl rfl (sw_true rfl rfl rfl (by decide +kernel)) (pi_tup (pv 3)) (blkOk_by (N := nAt) (sc := defScope sAfterTick) (by decide +kernel))
        (fun _ _ _ _ _ => pg_name (i := 8) scAfterTick.nd rfl (Or.inl rfl)) (fun _ _ _ _ _ => pts_nil) (fun _ _ _ _ _ => pe_callTy call_list_of (by rfl) T.bt.list b_list (pa_cons (pv 8) pa_nil)))
      (pss_cons (ps_set (i := 6) scAfterTick.nd rfl (Or.inl rfl) (pe_lst pa_nil))
      (pss_cons (ps_for PassesOwn.never rfl (pi_list (pe_call (E := E0) GV hr (by rfl) T.VisitsIn.g T.VisitsIn.F.kp T.VisitsIn.b .nil pass0 (pa_cons (pe_ix ix_tup (pv 0) pe_int (fun _ _ => rfl)) (pa_cons (pv 1) pa_nil))))
          (pg_tup rfl (pgs_cons (pg_name (i := 7) scAfterTick.nd rfl (.inl rfl)) (pgs_cons (pg_name (i := 8) scAfterTick.nd rfl (.inl rfl)) pgs_nil)))
        (pss_cons (ps_set (i := 9) scAfterTick.nd rfl (Or.inl rfl) (pe_ix ix_list (pv 4) (pv 7) (fun _ _ => rfl)))
        (pss_cons (ps_expr (pe_bm PySem.F.plainAttrs_list PySem.F.slot_list_append PySem.F.type_list_append mt_append (pe_ix ix_list (pv 5) (pv 8) (fun _ _ => rfl)) (pa_cons (pv 9) pa_nil)))
        (pss_cons (ps_set (i := 10) scAfterTick.nd rfl (Or.inl rfl) (pe_bm PySem.F.plainAttrs_list PySem.F.slot_list_pop PySem.F.type_list_pop mt_popAt (pe_ix ix_list (pv 5) (pv 8) (fun _ _ => rfl)) (pa_cons pe_int pa_nil)))
        (pss_cons (ps_asg (pv 10) (pg_sub (pv 4) (pv 7) set_list))
        (pss_one (ps_expr (pe_bm PySem.F.plainAttrs_list PySem.F.slot_list_append PySem.F.type_list_append mt_append (pv 6) (pa_cons (pe_tup (pa_cons (pv 7) (pa_cons (pv 8) (pa_cons (pv 9) (pa_cons (pv 10) pa_nil))))) pa_nil)))))))))
      (pss_one (ps_ret (pe_tup (pa_cons (pe_callTy call_tuple_of (by rfl) T.bt.tuple b_tuple (pa_cons (pv 4) pa_nil))
        (pa_cons (pe_callTy call_tuple_of (by rfl) T.bt.tuple b_tuple (pa_cons (pe_lc (own := [("row", 11)]) (g := gName 11) (tt := tYes) (te := tCB (rTo K) (tCons (tVar 11) tNil)) rfl scAfterTick.nd (pi_list (pv 5)) (blkOk_by (N := nAt) (sc := defScope sAfterTick) (by decide +kernel))
          (fun _ _ _ _ _ => pg_name (i := 11) scAfterTick.nd rfl (Or.inl rfl)) (fun _ _ _ _ _ => pts_nil) (fun _ _ _ _ _ => pe_callTy call_tuple_of (by rfl) T.bt.tuple b_tuple (pa_cons (pv 11) pa_nil))) pa_nil))
        (pa_cons (pv 6) pa_nil))))))))), ?_⟩
    -- hands
    refine ⟨.ref ca, rfl, ca, _, rfl, .inr hL.c, fun hd hhd => ?_⟩
    have sm0 : Same H (upd H hd (.lst (L.1.map V.int))) := same_upd hhd
    have kh : (upd H hd (.lst (L.1.map V.int))) hd = some (.lst (L.1.map V.int)) := upd_same
    generalize upd H hd (.lst (L.1.map V.int)) = H0 at sm0 kh ⊢
    have h0 : H hd = none := hhd
    clear hhd
    -- rows
    refine ⟨.ref sh, rfl, sh, rfl, ⟨_, sqT_same sm0 hs1⟩, fun R hR => lc_tup (xs := qs.map V.ref) (fun i H' => Same H0 H' ∧ ∃ rw : List Addr, H' R = some (.lst (rw.map V.ref)) ∧ RowL H' rw (L.2.take i) ∧ rw.Nodup ∧ ∀ q ∈ rw, H0 q = none ∧ q ≠ R)
      ⟨same_upd hR, [], upd_same, .nil, List.nodup_nil, fun q hq => (List.not_mem_nil hq).elim⟩ (fun i H' _ h => sqT_same (sm0.trans h.1) hs1) (fun i x H' hx ⟨sm, rw, kR, rl, nd, hrw⟩ => ?_) (fun H1 ⟨sm1, rw, kR, rl, nd, hrw⟩ => ?_)⟩
    · obtain ⟨q1, hq1, rfl⟩ := refs_lt hx
      obtain ⟨s1, hs3, hq2⟩ := segT_at hs2 hq1
      refine ⟨rfl, yes_go ⟨.ref q1, rfl, q1, _, rfl, .inr (sqT_same (sm0.trans sm) hq2), fun l hl => ?_⟩⟩
      have n0 : H0 l = none := Same.free sm hl
      have nR : R ≠ l := ne_of_none kR hl
      have kR2 : (upd H' l (.lst (s1.map V.int))) R = some (.lst (rw.map V.ref)) := by rw [upd_ne nR]; exact kR
      have hrl := rowL_len rl
      refine ⟨_, kR2, ?_, ?_, rw ++ [l], ?_, ?_, ?_, ?_⟩
      · rw [List.length_map, hrl, List.length_take]
        exact small1000 (by omega)
      · exact same_of (same_of sm n0) hR
      · rw [upd_same, List.map_append]
        rfl
      · rw [List.take_add_one, hs3]
        have hl2 : l ∉ rw := rowL_free rl hl
        refine rowL_snoc (by rw [upd_ne (Ne.symm nR), upd_same]) (rowL_imp (fun q hq o ho => ?_) rl)
        rw [upd_ne (hrw q hq).2, upd_ne (fun z : q = l => hl2 (by rw [← z]; exact hq))]
        exact ho
      · refine List.nodup_append.mpr ⟨nd, (by simp), fun x hx y hy z => ?_⟩
        rw [List.mem_singleton.mp hy] at z
        exact rowL_free rl hl (by rw [← z]; exact hx)
      · intro q hq
        rcases List.mem_append.mp hq with hq | hq
        · exact hrw q hq
        · rw [List.mem_singleton.mp hq]
          exact ⟨n0, Ne.symm nR⟩
    rw [List.length_map, hql, List.take_length] at rl
    have kh1 := sm1 _ _ kh
    have hRH : hd ≠ R := ne_of_none kh hR
    have hdrw : hd ∉ rw := fun m => by rw [(hrw _ m).1] at kh; cases kh
    have Rrw : R ∉ rw := fun m => (hrw _ m).2 rfl
    have smA := sm0.trans sm1
    -- exchanges
    refine ⟨Nat.zero_le _, fun xe hxe => ?_⟩
    have nxH : H xe = none := Same.free smA hxe
    have xh : xe ≠ hd := (ne_of_none kh1 hxe).symm
    have xR : xe ≠ R := (ne_of_none kR hxe).symm
    have xrw : xe ∉ rw := rowL_free rl hxe
    have sm2 : Same H1 (upd H1 xe (.lst [])) := same_upd hxe
    have kx : (upd H1 xe (.lst [])) xe = some (.lst []) := upd_same
    generalize upd H1 xe (.lst []) = H2 at sm2 kx ⊢
    have smB := smA.trans sm2
    -- visits
    refine ⟨.ref p, rfl, p, _, 1, .ref b, rfl, rfl, sqT_same smB hp1, rfl, .int n, rfl, b, rs, n, rfl, hb.same smB, by omega, fun r hr => ⟨(hv.ne r hr).1, by have := hv.r2 r hr; omega⟩, fun H3 f sm3 hf3 tl3 => ?_⟩
    rw [meets_vis hv.ro] at tl3
    obtain ⟨fs, kf, tv⟩ := tl3.ex
    have hfl : fs.length = (vis rs (n - 1)).length := by rw [tupsV_len tv, List.length_map]
    have smC := smB.trans sm3
    have kh3 := sm3 _ _ (sm2 _ _ kh1)
    have kR3 := sm3 _ _ (sm2 _ _ kR)
    have kx3 := sm3 _ _ kx
    have rl3 : RowL H3 rw L.2 := rowL_imp (fun q _ o ho => sm3 _ _ (sm2 _ _ ho)) rl
    have fh : f ≠ hd := fun z => by rw [z, sm2 _ _ kh1] at hf3; cases hf3
    have fR : f ≠ R := fun z => by rw [z, sm2 _ _ kR] at hf3; cases hf3
    have fx : f ≠ xe := fun z => by rw [z, kx] at hf3; cases hf3
    have frw : f ∉ rw := fun m => by
      obtain ⟨xs, e⟩ := rowL_mem rl m
      rw [sm2 _ _ e] at hf3
      cases hf3
    have hL2 : L = (L.1, L.2) := rfl
    refine ⟨f, rfl, ⟨_, .inl (.inl kf)⟩, for_list (xs := fs.map V.ref) (fun i σ H' => (∃ y7 y8 y9 y10 y11, σ = [some (.ref p), some (.int n), some (.ref ca), some (.ref sh), some (.ref hd), some (.ref R), some (.ref xe), y7, y8, y9, y10, y11]) ∧ Same H H' ∧ H' f = some (.lst (fs.map V.ref)) ∧ TupsV H' fs ((vis rs (n - 1)).map fun p => pairV p.1 (p.2 : Nat)) ∧
        H' hd = some (.lst ((steps ((vis rs (n - 1)).take i) L).1.map V.int)) ∧ H' R = some (.lst (rw.map V.ref)) ∧ RowL H' rw (steps ((vis rs (n - 1)).take i) L).2 ∧ TL H' xe (exN (vis rs (n - 1)) L i))
      ⟨⟨_, _, _, _, _, rfl⟩, smC, kf, tv, kh3, kR3, rl3, [], kx3, .nil⟩ (fun i σ H' _ h => .inl (.inl h.2.2.1)) (fun i x σ H' hx ⟨⟨y7, y8, y9, y10, y11, es⟩, sm, kf4, tv4, kh4, kR4, rl4, tl4⟩ => ?_) (fun σ H' ⟨⟨y7, y8, y9, y10, y11, es⟩, sm, kf4, tv4, kh4, kR4, rl4, tl4⟩ => ?_)⟩
    · subst es
      obtain ⟨U, hU, rfl⟩ := refs_lt hx
      obtain ⟨t0, ht0, hUt⟩ := tupsV_at tv4 hU
      rw [List.getElem?_map] at ht0
      cases hv1 : (vis rs (n - 1))[i]? with
      | none => rw [hv1] at ht0; cases ht0
      | some pr =>
      obtain ⟨c, s⟩ := pr
      rw [hv1] at ht0
      obtain rfl : pairV c (s : Nat) = t0 := Option.some.inj ht0
      have hcs := vis_ok hv.ro (n - 1) (c, s) (List.mem_of_getElem? hv1)
      obtain ⟨hc, hs⟩ := hcs
      simp only at hc hs
      have hfi := steps_fits ((vis rs (n - 1)).take i) hf
      have est := steps_take (L := L) hv1
      have eex := exN_succ (L := L) hv1
      generalize hLi : steps ((vis rs (n - 1)).take i) L = Li at kh4 rl4 hfi est eex
      obtain ⟨g1, g2⟩ := fit_at hfi
      obtain ⟨x, hx1⟩ : ∃ x, Li.1[c]? = some x := ⟨_, List.getElem?_eq_getElem (by omega)⟩
      obtain ⟨row, hrow⟩ : ∃ row, Li.2[s]? = some row := ⟨_, List.getElem?_eq_getElem (by omega)⟩
      have hrl := rowL_len rl4
      obtain ⟨q1, hq1⟩ : ∃ q, rw[s]? = some q := ⟨_, List.getElem?_eq_getElem (by omega)⟩
      have hq1m := List.mem_of_getElem? hq1
      obtain ⟨row', hrow', kq⟩ := rowL_at rl4 hq1
      obtain rfl : row = row' := Option.some.inj (hrow.symm.trans hrow')
      have hr9 := fit_row hfi hv.z2 hrow
      have hV1 : (Li.1.map V.int)[c]? = some (.int x) := by rw [List.getElem?_map, hx1]; rfl
      have hV2 : (rw.map V.ref)[s]? = some (.ref q1) := by rw [List.getElem?_map, hq1]; rfl
      refine ⟨U, pairV c (s : Nat), rfl, .inl (.inl hUt), rfl, _, _, rfl, _, _, rfl, rfl, ?_⟩
      refine ⟨.ref hd, rfl, .int (c : Nat), rfl, hd, _, _, _, rfl, rfl, .inl (.inl kh4), atI_nat hV1, ?_⟩
      refine ⟨.ref R, rfl, .int (s : Nat), rfl, R, _, _, .ref q1, rfl, rfl, .inl (.inl kR4), atI_nat hV2, .inl ⟨rfl, _, .inl (.inl kq)⟩, .int x, rfl, q1, _, _, rfl, rfl, kq, ?_, ?_⟩
      · rw [List.length_map]
        exact small1000 (by omega)
      have qR : q1 ≠ R := fun z => Rrw (by rw [← z]; exact hq1m)
      have qh : q1 ≠ hd := fun z => hdrw (by rw [← z]; exact hq1m)
      have qx : q1 ≠ xe := fun z => xrw (by rw [← z]; exact hq1m)
      have qf : q1 ≠ f := fun z => frw (by rw [← z]; exact hq1m)
      have nq : H q1 = none := by
        cases e : H q1 with
        | none => rfl
        | some o => have := sm0 _ _ e; rw [(hrw _ hq1m).1] at this; cases this
      have kq2 : (upd H' q1 (.lst (row.map V.int ++ [.int x]))) q1 = some (.lst (row.map V.int ++ [.int x])) := upd_same
      have kR5 : (upd H' q1 (.lst (row.map V.int ++ [.int x]))) R = some (.lst (rw.map V.ref)) := by rw [upd_ne (Ne.symm qR)]; exact kR4
      have kh5 : (upd H' q1 (.lst (row.map V.int ++ [.int x]))) hd = some (.lst (Li.1.map V.int)) := by rw [upd_ne (Ne.symm qh)]; exact kh4
      have sm5 : Same H (upd H' q1 (.lst (row.map V.int ++ [.int x]))) := same_of sm nq
      have up5 : ∀ b o, b ≠ q1 → H' b = some o → (upd H' q1 (.lst (row.map V.int ++ [.int x]))) b = some o := fun b o hb ho => by rw [upd_ne hb]; exact ho
      generalize upd H' q1 (.lst (row.map V.int ++ [.int x])) = H5 at kq2 kR5 kh5 sm5 up5 ⊢
      have hhead : (row.map V.int ++ [V.int x])[0]? = some (.int (row.headD x)) := by cases row <;> rfl
      have htail : (row.map V.int ++ [V.int x]).eraseIdx 0 = ((row ++ [x]).tail).map V.int := by
        rw [List.eraseIdx_zero, List.map_tail, List.map_append]
        rfl
      refine ⟨.ref R, rfl, .int (s : Nat), rfl, R, _, _, .ref q1, rfl, rfl, .inl (.inl kR5), atI_nat hV2, .inl ⟨rfl, _, .inl (.inl kq2)⟩, q1, _, 0, 0, _, rfl, rfl, kq2, by decide, by decide, ?_, hhead, ?_⟩
      · simp [seqIndex?]
      rw [htail]
      have nhd : H hd = none := h0
      have kh6 : (upd H5 q1 (.lst (((row ++ [x]).tail).map V.int))) hd = some (.lst (Li.1.map V.int)) := by rw [upd_ne (Ne.symm qh)]; exact kh5
      refine ⟨.int (row.headD x), rfl, .ref hd, rfl, .int (c : Nat), rfl, hd, _, _, c, rfl, rfl, kh6, ?_, ?_⟩
      · rw [List.length_map]
        exact ixN_nat (by omega)
      have sm6 : Same H (upd (upd H5 q1 (.lst (((row ++ [x]).tail).map V.int))) hd (.lst ((Li.1.map V.int).set c (.int (row.headD x))))) := same_of (same_of sm5 nq) nhd
      have up6 : ∀ b o, b ≠ q1 → b ≠ hd → H' b = some o → (upd (upd H5 q1 (.lst (((row ++ [x]).tail).map V.int))) hd (.lst ((Li.1.map V.int).set c (.int (row.headD x))))) b = some o := fun b o h1 h2 ho => by
        rw [upd_ne h2, upd_ne h1]
        exact up5 b o h1 ho
      have kh7 : (upd (upd H5 q1 (.lst (((row ++ [x]).tail).map V.int))) hd (.lst ((Li.1.map V.int).set c (.int (row.headD x))))) hd = some (.lst ((step1 Li (c, s)).1.map V.int)) := by
        rw [upd_same, mtch_eq hx1 hrow, List.map_set]
      have rl7 : RowL (upd (upd H5 q1 (.lst (((row ++ [x]).tail).map V.int))) hd (.lst ((Li.1.map V.int).set c (.int (row.headD x))))) rw (step1 Li (c, s)).2 := by
        rw [mtch_eq hx1 hrow]
        refine rowL_imp (fun q hq o ho => ?_) (rowL_set nd rl4 hq1)
        rw [upd_ne (fun z : q = hd => hdrw (by rw [← z]; exact hq))]
        by_cases hqq : q = q1
        · subst hqq
          rw [upd_same] at ho ⊢
          exact ho
        · rw [upd_ne hqq] at ho ⊢
          exact up5 _ _ hqq ho
      generalize upd (upd H5 q1 (.lst (((row ++ [x]).tail).map V.int))) hd (.lst ((Li.1.map V.int).set c (.int (row.headD x)))) = H7 at sm6 up6 kh7 rl7 ⊢
      obtain ⟨ps, kx7, tv7⟩ := tl4.ex
      have kx8 := up6 _ _ (Ne.symm qx) xh kx7
      refine ⟨.ref xe, rfl, .inl ⟨rfl, _, .inl (.inl kx8)⟩, .int (c : Nat), rfl, .int (s : Nat), rfl, .int x, rfl, .int (row.headD x), rfl, (by show 4 ≤ sizeLine; decide), fun t ht => ?_⟩
      have kx9 : (upd H7 t (.tup [.int (c : Nat), .int (s : Nat), .int x, .int (row.headD x)])) xe = some (.lst (ps.map V.ref)) := by rw [upd_ne (ne_of_none kx8 ht)]; exact kx8
      have psl : ps.length ≤ i := by rw [tupsV_len tv7]; exact exN_len _ _ _
      have il : i < (vis rs (n - 1)).length := (List.getElem?_eq_some_iff.mp hv1).1
      have vl := vis_len rs (n - 1)
      have up8 : ∀ b o, b ≠ q1 → b ≠ hd → b ≠ xe → H' b = some o → (upd (upd H7 t (.tup [.int (c : Nat), .int (s : Nat), .int x, .int (row.headD x)])) xe (.lst (ps.map V.ref ++ [.ref t]))) b = some o := fun b o h1 h2 h3 ho => by
        rw [upd_ne h3, upd_ne (ne_of_none (up6 _ _ h1 h2 ho) ht)]
        exact up6 _ _ h1 h2 ho
      have tl9 : TL (upd H7 t (.tup [.int (c : Nat), .int (s : Nat), .int x, .int (row.headD x)])) xe (exN (vis rs (n - 1)) L i) := by
        refine ⟨ps, kx9, tupsV_imp (fun b xs hb => ?_) tv7⟩
        have h1 : b ≠ q1 := fun z => by rw [z, kq] at hb; cases hb
        have h2 : b ≠ hd := fun z => by rw [z, kh4] at hb; cases hb
        have := up6 _ _ h1 h2 hb
        rw [upd_ne (ne_of_none this ht)]
        exact this
      refine ⟨xe, _, _, rfl, rfl, kx9, ?_, ⟨_, _, _, _, _, rfl⟩, same_of (same_of sm6 (Same.free sm6 ht)) nxH, ?_, ?_, ?_, ?_, ?_, ?_⟩
      · rw [List.length_map]
        exact small1000 (by omega)
      · exact up8 _ _ (Ne.symm qf) fh fx kf4
      · refine tupsV_imp (fun b xs hb => ?_) tv4
        exact up8 _ _ (fun z => by rw [z, kq] at hb; cases hb) (fun z => by rw [z, kh4] at hb; cases hb) (fun z => by rw [z, kx7] at hb; cases hb) hb
      · rw [est, upd_ne (Ne.symm xh), upd_ne (ne_of_none kh7 ht)]
        exact kh7
      · exact up8 _ _ (Ne.symm qR) (Ne.symm hRH) (Ne.symm xR) kR4
      · rw [est]
        refine rowL_imp (fun q hq o ho => ?_) rl7
        rw [upd_ne (fun z : q = xe => xrw (by rw [← z]; exact hq)), upd_ne (ne_of_none ho ht)]
        exact ho
      · rw [eex, exch_eq hx1 hrow]
        exact tl9.push kx9 upd_same
    · subst es
      rw [List.length_map, hfl, List.take_length] at kh4 rl4
      rw [List.length_map, hfl] at tl4
      have hrl := rowL_len rl4
      refine ⟨.ref hd, rfl, hd, _, rfl, .inl ⟨.inl (.inl kh4), fun ca' hca' => ?_⟩⟩
      have s1 : Same H' (upd H' ca' (.tup ((steps (vis rs (n - 1)) L).1.map V.int))) := same_upd hca'
      have k1 : (upd H' ca' (.tup ((steps (vis rs (n - 1)) L).1.map V.int))) ca' = some (.tup ((steps (vis rs (n - 1)) L).1.map V.int)) := upd_same
      generalize upd H' ca' (.tup ((steps (vis rs (n - 1)) L).1.map V.int)) = Ha at s1 k1 ⊢
      refine ⟨.ref R, rfl, R, rfl, ⟨_, .inl (.inl (s1 _ _ kR4))⟩, fun D hD => lc_list (xs := rw.map V.ref) (fun i H'' => Same Ha H'' ∧ ∃ qs' : List Addr, H'' D = some (.lst (qs'.map V.ref)) ∧ SegV H'' qs' ((steps (vis rs (n - 1)) L).2.take i))
        ⟨same_upd hD, [], upd_same, .nil⟩ (fun i H'' _ h => .inl (.inl (h.1 _ _ (s1 _ _ kR4)))) (fun i x H'' hx ⟨s2, qs', kD, sv⟩ => ?_) (fun H'' ⟨s2, qs', kD, sv⟩ => ?_)⟩
      · obtain ⟨q1, hq1, rfl⟩ := refs_lt hx
        obtain ⟨row, hrow, kq⟩ := rowL_at rl4 hq1
        have kq2 := s2 _ _ (s1 _ _ kq)
        refine ⟨rfl, yes_go ⟨.ref q1, rfl, q1, _, rfl, .inl ⟨.inl (.inl kq2), fun l hl => ?_⟩⟩⟩
        have nD : D ≠ l := ne_of_none kD hl
        refine ⟨_, by rw [upd_ne nD]; exact kD, ?_, same_of (same_of s2 (Same.free s2 hl)) hD, qs' ++ [l], ?_, ?_⟩
        · rw [List.length_map, segV_len sv, List.length_take]
          have := fit_at (steps_fits (vis rs (n - 1)) hf)
          exact small1000 (by omega)
        · rw [upd_same, List.map_append]
          rfl
        · rw [List.take_add_one, hrow]
          refine segV_imp (fun b xs hb => ?_) (segV_snoc (show (upd H'' l (.tup (row.map V.int))) l = some (.tup (row.map V.int)) from upd_same) (segV_imp (fun b xs hb => same_upd hl _ _ hb) sv))
          rw [upd_ne (fun z : b = D => by rw [z, upd_ne nD, kD] at hb; cases hb)]
          exact hb
      rw [List.length_map, hrl, List.take_length] at sv
      refine ⟨D, _, rfl, .inl ⟨.inl (.inl kD), fun sh' hsh' => ⟨.ref xe, rfl, (by show 3 ≤ sizeLine; decide), fun t ht => ?_⟩⟩⟩
      have ksh : (upd H'' sh' (.tup (qs'.map V.ref))) sh' = some (.tup (qs'.map V.ref)) := upd_same
      have s3 : Same H'' (upd (upd H'' sh' (.tup (qs'.map V.ref))) t (.tup [.ref ca', .ref sh', .ref xe])) := (same_upd hsh').trans (same_upd ht)
      have lay : LayAt (upd (upd H'' sh' (.tup (qs'.map V.ref))) t (.tup [.ref ca', .ref sh', .ref xe])) ca' sh' (steps (vis rs (n - 1)) L).1 (steps (vis rs (n - 1)) L).2 :=
        ⟨s3 _ _ (s2 _ _ k1), qs', by rw [upd_ne (ne_of_none ksh ht)]; exact ksh, segV_imp (fun b xs hb => s3 _ _ hb) sv⟩
      exact q _ t ca' sh' xe ((sm.trans s1).trans (s2.trans s3)) upd_same lay.t ((tl4.same s1).same (s2.trans s3)) nxH
end
end Sv
set_option maxHeartbeats 4000000
namespace Sv
open PySem PySem.Spec PyProof.Rows L2
theorem for_enumL {K : PySem.W.Frag} {a : Addr} {xs : List V} {g : TG} {tb : TS} {D : Ends} {σ : L2.St} {H : Hp} (Pv : Nat → L2.St → Hp → Prop) (h0 : Pv 0 σ H) (hl : ∀ i σ H, i ≤ xs.length → Pv i σ H → SqL K H a xs)
    (turn : ∀ i x σ H T, xs[i]? = some x → Pv i σ H → H T = none → g (.ref T) σ (upd H T (.tup [.int (i : Nat), x])) fun σ' H' => tb { nx := fun σ2 H2 => Pv (i + 1) σ2 H2, rt := D.rt, bk := D.nx, ct := fun σ2 H2 => Pv (i + 1) σ2 H2 } σ' H')
    (after : ∀ σ H, Pv xs.length σ H → D.nx σ H) : ∃ W : Nat → Nat → L2.St → Hp → Prop, (∃ m, W 0 m σ H) ∧ ∀ i m σ H, W i m σ H →
      ((Ite K a).stop i H ∧ D.nx σ H) ∨ ((Ite K a).go i H ∧ ∃ Nx : L2.St → Hp → Prop, (∀ σ' H', Nx σ' H' → ∃ m', m' < m ∧ W (i + 1) m' σ' H') ∧ ∀ x H', (Ite K a).yld i H x H' → g x σ H' fun σ2 H2 => tb { nx := Nx, rt := D.rt, bk := D.nx, ct := Nx } σ2 H2) := by
  refine ⟨fun i m σ H => i + m = xs.length ∧ Pv i σ H, ⟨xs.length, Nat.zero_add _, h0⟩, fun i m σ H ⟨em, hP⟩ => ?_⟩
  have hS := hl i σ H (by omega) hP
  by_cases hi : i < xs.length
  · have gx : xs[i]? = some xs[i] := List.getElem?_eq_getElem hi
    refine .inr ⟨⟨xs, _, hS, gx⟩, fun σ' H' => Pv (i + 1) σ' H', fun σ' H' h => ⟨m - 1, by omega, by omega, h⟩, fun x H' hy => ?_⟩
    obtain ⟨T, y, rfl, nT, rfl, hy⟩ := hy
    have ey : y = xs[i] := Option.some.inj ((hy xs hS).symm.trans gx)
    rw [ey]
    exact turn i _ σ H T gx hP nT
  · have e : i = xs.length := by omega
    refine .inl ⟨⟨xs, hS, by omega⟩, after σ H ?_⟩
    rw [← e]
    exact hP
section
variable {P : Program} {w : World} {K : PySem.W.Frag} {mg : Str → Option Value} {base : Heap}
def iN (l : List Nat) : List Int := l.map fun (n : Nat) => (n : Int)
theorem iN_V (l : List Nat) : (iN l).map V.int = vN l := by unfold iN vN; rw [List.map_map]; rfl
theorem rgV_iN (n : Nat) : rgV 0 (n : Int) = (iN (List.range n)).map V.int := by
  rw [iN_V]
  unfold rgV vN
  simp
/-- a layout of numbers of places -/
def iL (L : Lay Nat) : Lay Int := mapL (fun (n : Nat) => (n : Int)) L
theorem spl_iN (n : Nat) (zs : List Int) (l : List Nat) : spl n zs (iN l) = iL (spl n zs l) := spl_map _ n zs l
theorem run_iL (rs : List Ro) (t : Int) (k : Nat) (L : Lay Nat) : run rs t k (iL L) = iL (run rs t k L) := run_map _ rs t k L
end
end Sv
set_option maxHeartbeats 4000000
namespace Sv
open PySem PySem.Spec PyProof.Rows L2
section
variable {Z : Cx}
/-- a rule for each block of a comprehension -/
abbrev AllBlk (Z : Cx) (sc : Scope) (R : Cx → Prop) : Prop := ∀ (s : Shared) (H : Hp) (c0 : Addr) (cl : List (Str × Addr)) (fp : List Addr), R (Z.blk s H sc (compEnvC sc cl c0 Z.env) fp)
theorem swD_yes {ke ve : Expr} {gens : List Comprehension} {sc : Scope} {dp np : Pos} {nm : Str} {ln : Nat} {ev : Env} (h1 : ev.scope.kind = .function) (h2 : ev.scope.names.lookup nm = some .local) (h3 : (np.line == dp.line) = true)
    (h4 : (sc.names.any fun (a, b) => a == nm && (b == .local || b == .cell)) = false) : swapsWith (.DictComp ke ve gens sc dp) (some (.Name nm np)) ln ev = pure true := by
  have e1 : ev.kindOf nm = some .local := h2
  have e2 : ev.blockKind = .function := by
    unfold Env.blockKind
    rw [h1]
    rfl
  unfold swapsWith
  simp only [e2, e1, h4, Expr.pos, h3]
  rfl
theorem ps_setDc {j : Nat} {nm : Str} {np dp sp : Pos} {ke ve tg it : Expr} {ifs : List Expr} {sc : Scope} {own : List (Str × Nat)} {wi : TI} {g : TG} {tt : TT} {tk tv : TE} (calm : Z.calm = true) (nd : Z.N.Nodup) (hj : Z.N[j]? = some nm) (hl : Z.env.scope.names.lookup nm = some .local)
    (sw : swapsWith (.DictComp ke ve [⟨tg, it, ifs, 0⟩] sc dp) (some (.Name nm np)) sp.line Z.env = pure true) (pi : PI Z tg it wi) (ok : BlkOk Z.N Z.env.scope sc own)
    (p1 : AllBlk Z sc fun B => PG B tg g) (p2 : AllBlk Z sc fun B => PTs B ifs tt) (p3 : AllBlk Z sc fun B => PE B ke tk) (p4 : AllBlk Z sc fun B => PE B ve tv) (fi : ∀ x, foldedSetIterable it Z.env x = pure x := by intro _; rfl) :
    PS Z (.Assign [.Name nm np] (.DictComp ke ve [⟨tg, it, ifs, 0⟩] sc dp) sp) (tAsg (tDc wi g tt tk tv (own.map (·.2))) (gName j)) := by
  refine ⟨fun pins s σ H D I hq0 => ?_⟩
  rw [exec_Assign_Name_used _ _ _ _ sw]
  refine wpAny_bind (wpAny_standAt (wpAny_bind ?_))
  show wpAny _ Z.A (do let _ ← comprehension (.DictComp ke ve [⟨tg, it, ifs, 0⟩] sc dp) sc Z.env (firstIterPos [⟨tg, it, ifs, 0⟩] dp) newDict false (eval it Z.env) (some (assign (.Name nm np) Z.env))) _ _ s
  have hq : tDc wi g tt tk tv (own.map (·.2)) σ H (fun x H1 => gName j x σ H1 D.nx) := hq0
  refine wpAny_bind (thn (dc_core (Qf := fun _ s' => SP Z pins D .next s') calm nd I pi ok p1 p2 p3 p4 fi hq fun d c s1 m1 H1 I1 q1 hns fr => ?_) fun _ s1 h => wpAny_pure (wpAny_pure h))
  show wpAny _ _ (assign (.Name nm np) Z.env (.ref d)) _ _ _
  obtain ⟨x0, x1, x2, x3, x4, x5⟩ := fr
  refine wpAny_assign_Name (store_ok2 (v := V.ref d) I1 nd hj (.inl hl) rfl (fun s2 I2 ⟨a, sb, ha⟩ => ?_) (.inr hl))
  have ne : c ≠ a := by
    rcases ha with z | z
    · rw [z]
      exact x1
    · exact fun e => x4 nm a z e.symm
  exact ⟨m1, hns.sameBut sb ne, fun h3 sb3 => ⟨_, H1, I2.turned (t' := s2.toks) (fun b o hb e => (sb3.2 b hb).trans e) x0 x1 x3 x4 x5, q1⟩⟩
end
/-- the dict is made by the items of a list -/
theorem dc_list {K : PySem.W.Frag} {a : Addr} {xs : List V} {g : TG} {tt : TT} {tk tv : TE} {vs : List Nat} {σ : L2.St} {H1 : Hp} {D : Addr} {Qd : Hp → Prop} (Pv : Nat → Hp → Prop) (start : Pv 0 (upd H1 D (.dK []))) (stays : ∀ i H, i ≤ xs.length → Pv i H → SqL K H a xs)
    (turn : ∀ i x H, xs[i]? = some x → Pv i H → g x (wipe σ vs) H fun σ2 H2 => wipe σ2 vs = wipe σ vs ∧ tt σ2 H2 fun b H3 =>
      if b = true then tk σ2 H3 fun y H4 => tv σ2 H4 fun z H5 => ∃ kvs k, y = kV k ∧ H5 D = some (.dK kvs) ∧ kvs.length < sizeLine ∧ Pv (i + 1) (upd H5 D (.dK (putK kvs k z))) else Pv (i + 1) H3) (after : ∀ H, Pv xs.length H → Qd H) :
    ∃ W : Nat → Nat → Hp → Prop, (∃ m, W 0 m (upd H1 D (.dK []))) ∧ ∀ i m H, W i m H →
      ((Itl K a).stop i H ∧ Qd H) ∨ ((Itl K a).go i H ∧ ∃ Nx : Hp → Prop, (∀ H', Nx H' → ∃ m', m' < m ∧ W (i + 1) m' H') ∧ ∀ x H', (Itl K a).yld i H x H' → g x (wipe σ vs) H' fun σ2 H2 => wipe σ2 vs = wipe σ vs ∧ tt σ2 H2 fun b H3 =>
        if b = true then tk σ2 H3 fun y H4 => tv σ2 H4 fun z H5 => ∃ kvs k, y = kV k ∧ H5 D = some (.dK kvs) ∧ kvs.length < sizeLine ∧ Nx (upd H5 D (.dK (putK kvs k z))) else Nx H3) := by
  refine ⟨fun i m H => m = xs.length - i ∧ i ≤ xs.length ∧ Pv i H, ⟨xs.length, by simp, Nat.zero_le _, start⟩, fun i m H ⟨em, hi, p⟩ => ?_⟩
  subst em
  have st := stays i H hi p
  rcases Nat.lt_or_ge i xs.length with lt | ge
  · refine .inr ⟨⟨xs, xs[i], st, by simp [lt]⟩, Pv (i + 1), fun H' p' => ⟨xs.length - (i + 1), by omega, rfl, lt, p'⟩, fun x H' yl => ?_⟩
    obtain ⟨e, yl⟩ := yl
    subst e
    exact turn i x _ (yl xs st) p
  · obtain rfl : i = xs.length := by omega
    exact .inl ⟨⟨xs, st, Nat.le_refl _⟩, after H p⟩
end Sv
set_option maxHeartbeats 4000000
namespace Sv
open PySem PySem.Spec PyProof.Rows L2
section
variable {Z : Cx}
theorem mk_tupF : CallR Z (.type "tuple") (fun xs H Q => ∃ p ys, xs = [.ref p] ∧ SqL Z.K H p ys ∧ ((∀ l, H l = none → Q (.ref l) (upd H l (.tup ys))) ∨ ∀ l o, H l = none → o.dict = none → Q (.ref l) (upd H l (.frz o (.tup ys))))) := by
  intro pins s σ H xs us Q I rv hq
  obtain ⟨p, ys, rfl, hs, q⟩ := hq
  obtain ⟨u, rfl, ru⟩ : ∃ u, us = [u] ∧ RelV (.ref p) u := by
    cases rv with
    | cons a b =>
      cases b
      exact ⟨_, rfl, a⟩
  cases ru
  obtain ⟨its, vv, pl, hz⟩ := I.list hs
  have hle := vv.length
  refine call_tuple_list pl.isList (fun g kp => ?_) (by simp only [List.size_toArray] <;> omega)
  have J : Inv Z pins σ H { s with heap := g } := I.kept (t' := s.toks) kp
  have old : ∀ b u, g.get? b = some u → (g.push { cls := .type "tuple", data := .seq its.toArray }).get? b = some u := fun b u e => Heap.get?_push_of_some _ e
  have fr := J.hok.fresh (Nat.le_refl g.objs.size)
  rcases q with q | q
  · exact ⟨.ref g.objs.size, _, J.laid (o := .tup ys) (t' := s.toks) old (Nat.le_refl _) ⟨hz, its, vv, IsTup.new _ _⟩, rfl, q _ fr⟩
  · exact ⟨.ref g.objs.size, _, J.laid (o := .frz { cls := .type "tuple", data := .seq its.toArray } (.tup ys)) (t' := s.toks) old (Nat.le_refl _) ⟨Heap.get?_push_size g rfl, hz, its, vv, IsTup.new _ _⟩, rfl, q _ _ fr rfl⟩
end
end Sv
set_option maxHeartbeats 4000000
namespace Sv
open PySem PySem.Spec PyProof.Rows L2
def RowV (H : Hp) (rw : List Addr) (ss : List (List V)) : Prop := Paired (fun q s => H q = some (.lst s)) rw ss
theorem rowV_imp {H H' : Hp} : ∀ {rw : List Addr} {ss : List (List V)}, (∀ q ∈ rw, ∀ o, H q = some o → H' q = some o) → RowV H rw ss → RowV H' rw ss
  | _, _, _, .nil => .nil
  | _, _, e, .cons h t => .cons (e _ (List.mem_cons_self ..) _ h) (rowV_imp (fun q hq => e q (List.mem_cons_of_mem _ hq)) t)
theorem rowV_len {H : Hp} : ∀ {rw : List Addr} {ss : List (List V)}, RowV H rw ss → rw.length = ss.length
  | _, _, .nil => rfl
  | _, _, .cons _ t => congrArg Nat.succ (rowV_len t)
theorem rowV_at {H : Hp} : ∀ {rw : List Addr} {ss : List (List V)} {i : Nat} {q : Addr}, RowV H rw ss → rw[i]? = some q → ∃ s, ss[i]? = some s ∧ H q = some (.lst s)
  | _, _, i, _, .nil, e => by simp at e
  | _, _, 0, q, .cons h t, e => by
    obtain rfl := Option.some.inj e
    exact ⟨_, rfl, h⟩
  | _, _, i + 1, q, .cons h t, e => rowV_at (i := i) t (by simpa using e)
theorem rowV_mem {H : Hp} {rw : List Addr} {ss : List (List V)} (h : RowV H rw ss) {q : Addr} (hq : q ∈ rw) : ∃ xs, H q = some (.lst xs) := by
  obtain ⟨i, hi⟩ := List.mem_iff_getElem?.mp hq
  obtain ⟨s, _, e⟩ := rowV_at h hi
  exact ⟨_, e⟩
theorem rowV_free {H : Hp} {rw : List Addr} {ss : List (List V)} (h : RowV H rw ss) {q : Addr} (hq : H q = none) : q ∉ rw := fun m => by
  obtain ⟨xs, e⟩ := rowV_mem h m
  rw [hq] at e
  cases e
theorem rowV_snoc {H : Hp} {q : Addr} {s : List V} (h : H q = some (.lst s)) : ∀ {rw : List Addr} {ss : List (List V)}, RowV H rw ss → RowV H (rw ++ [q]) (ss ++ [s])
  | _, _, .nil => .cons h .nil
  | _, _, .cons r t => .cons r (rowV_snoc h t)
theorem rowV_set {H : Hp} {s' : List V} : ∀ {rw : List Addr} {ss : List (List V)} {i : Nat} {q : Addr}, rw.Nodup → RowV H rw ss → rw[i]? = some q → RowV (upd H q (.lst s')) rw (ss.set i s')
  | _, _, i, _, _, .nil, e => by simp at e
  | r :: rw, s :: ss, 0, q, nd, .cons h t, e => by
    obtain rfl := Option.some.inj e
    refine .cons upd_same (rowV_imp (fun b hb o ho => ?_) t)
    rw [upd_ne (fun z : b = r => (List.nodup_cons.mp nd).1 (by rw [← z]; exact hb))]
    exact ho
  | r :: rw, s :: ss, i + 1, q, nd, .cons h t, e => by
    have e' : rw[i]? = some q := by simpa using e
    refine .cons ?_ (rowV_set (List.nodup_cons.mp nd).2 t e')
    rw [upd_ne (fun z : r = q => (List.nodup_cons.mp nd).1 (by rw [z]; exact List.mem_of_getElem? e'))]
    exact h
def Ox (x : Addr) (H H' : Hp) : Prop := ∀ b o, b ≠ x → H b = some o → H' b = some o
section
variable {x q : Addr} {H H1 H2 : Hp} {o : HO}
theorem Ox.refl (x : Addr) (H : Hp) : Ox x H H := fun _ _ _ e => e
theorem Ox.then (a : Ox x H H1) (b : Same H1 H2) : Ox x H H2 := fun c u n e => b _ _ (a c u n e)
theorem Ox.put (a : Ox x H H1) (o : HO) : Ox x H (upd H1 x o) := fun c u n e => by
  rw [upd_ne n]
  exact a c u n e
theorem Ox.at (a : Ox x H H1) (n : H q = none) (o : HO) : Ox x H (upd H1 q o) := fun c u m e => by
  rw [upd_ne (fun z => by rw [z, n] at e; cases e)]
  exact a c u m e
theorem Ox.free (a : Ox x H H1) (hx : H1 x = some o) (n : H1 q = none) : H q = none := by
  cases e : H q with
  | none => rfl
  | some u =>
    have : q ≠ x := fun z => by rw [z, hx] at n; cases n
    rw [a q u this e] at n
    cases n
theorem sqT_ox {K : PySem.W.Frag} {C dx : Addr} {fs : List (Str × V)} (hx : H x = some (.ins C dx fs)) (e : Ox x H H1) : ∀ a xs, SqT K H a xs → SqT K H1 a xs := fun a xs h => by
  have ne : ∀ u, H a = some u → (∀ C dx fs, u ≠ .ins C dx fs) → a ≠ x := fun u h1 h2 z => by
    rw [z, hx] at h1
    exact h2 _ _ _ (Option.some.inj h1).symm
  rcases h with (h | ⟨u, h⟩) | h
  · exact .inl (.inl (e _ _ (ne _ h fun _ _ _ z => nomatch z) h))
  · exact .inl (.inr ⟨u, e _ _ (ne _ h fun _ _ _ z => nomatch z) h⟩)
  · exact .inr h
theorem sqT_ul {K : PySem.W.Frag} {ys : List V} (hq : H q = some (.lst ys)) (o : HO) : ∀ a xs, SqT K H a xs → SqT K (upd H q o) a xs := fun a xs h => by
  have ne : ∀ u, H a = some u → (∀ zs, u ≠ .lst zs) → a ≠ q := fun u h1 h2 z => by
    rw [z, hq] at h1
    exact h2 _ (Option.some.inj h1).symm
  have st : ∀ u, H a = some u → (∀ zs, u ≠ .lst zs) → upd H q o a = some u := fun u h1 h2 => by
    rw [upd_ne (ne u h1 h2)]
    exact h1
  rcases h with (h | ⟨u, h⟩) | h
  · exact .inl (.inl (st _ h fun _ z => nomatch z))
  · exact .inl (.inr ⟨u, st _ h fun _ z => nomatch z⟩)
  · exact .inr h
end
theorem lk_same (f : Str) (v : V) (fs : List (Str × V)) : (putF f v fs).lookup f = some v := by rw [lookup_putF, if_pos rfl]
theorem lk_ne {f g : Str} (h : g ≠ f) (v : V) (fs : List (Str × V)) : (putF f v fs).lookup g = fs.lookup g := by rw [lookup_putF, if_neg h]
/-- where the parcel of place i is after up to k ticks -/
def stopV (n : Nat) (zs : List Int) (rs : List Ro) (t : Int) (k i : Nat) : List V := (List.range (k + 1)).map fun j => V.int (ap (fwd n zs rs t j) i : Nat)
def stopsV (n : Nat) (zs : List Int) (rs : List Ro) (t : Int) (k : Nat) : List (List V) := (List.range (n + sumN zs)).map (stopV n zs rs t k)
/-- on which shelf x is left by the first k of the visits -/
def lefN (ps : List (Nat × Nat)) (L : Lay Int) (x : Int) : Nat → V
  | 0 => .non
  | k + 1 => match ps[k]? with
    | some p => if x = (steps (ps.take k) L).1.getD p.1 0 then .int (p.2 : Nat) else lefN ps L x k
    | none => lefN ps L x k
def lefV (ps : List (Nat × Nat)) (L : Lay Int) (x : Int) : V := lefN ps L x ps.length
/-- in which shelves the parcel of place i is left, tick by tick -/
def leftV (n : Nat) (zs : List Int) (rs : List Ro) (t : Int) (k i : Nat) : List V := (List.range k).map fun j => lefV (vis rs (t + (j : Nat))) (iL (run rs t j (idx n zs))) (i : Nat)
def leftsV (n : Nat) (zs : List Int) (rs : List Ro) (t : Int) (k : Nat) : List (List V) := (List.range (n + sumN zs)).map (leftV n zs rs t k)
theorem stopV_succ (n : Nat) (zs : List Int) (rs : List Ro) (t : Int) (k i : Nat) : stopV n zs rs t (k + 1) i = stopV n zs rs t k i ++ [.int (ap (fwd n zs rs t (k + 1)) i : Nat)] := by
  unfold stopV
  rw [List.range_succ (n := k + 1), List.map_append]
  rfl
theorem leftV_succ (n : Nat) (zs : List Int) (rs : List Ro) (t : Int) (k i : Nat) : leftV n zs rs t (k + 1) i = leftV n zs rs t k i ++ [lefV (vis rs (t + (k : Nat))) (iL (run rs t k (idx n zs))) (i : Nat)] := by
  unfold leftV
  rw [List.range_succ (n := k), List.map_append]
  rfl
theorem stopV_len (n : Nat) (zs : List Int) (rs : List Ro) (t : Int) (k i : Nat) : (stopV n zs rs t k i).length = k + 1 := by unfold stopV; simp
theorem leftV_len (n : Nat) (zs : List Int) (rs : List Ro) (t : Int) (k i : Nat) : (leftV n zs rs t k i).length = k := by unfold leftV; simp
/-- some of the rows are longer already -/
def midV (n : Nat) (A B : Nat → List V) (om : List Nat) : List (List V) := (List.range n).map fun o => if o ∈ om then B o else A o
theorem midV_at {n : Nat} {A B : Nat → List V} {om : List Nat} {o : Nat} (h : o < n) : (midV n A B om)[o]? = some (if o ∈ om then B o else A o) := by
  unfold midV
  rw [List.getElem?_map, List.getElem?_range h]
  rfl
theorem midV_len (n : Nat) (A B : Nat → List V) (om : List Nat) : (midV n A B om).length = n := by unfold midV; simp
theorem midV_set {n : Nat} {A B : Nat → List V} {om : List Nat} {o : Nat} (h : o < n) : (midV n A B om).set o (B o) = midV n A B (om ++ [o]) := by
  refine List.ext_getElem? fun i => ?_
  rw [List.getElem?_set]
  by_cases hi : i < n
  · rw [midV_at (om := om ++ [o]) hi, midV_at hi]
    by_cases e : o = i
    · subst e
      simp [midV_len, h]
    · simp [e, Ne.symm e]
  · by_cases e : o = i
    · omega
    · rw [if_neg e, List.getElem?_eq_none (by rw [midV_len]; omega), List.getElem?_eq_none (by rw [midV_len]; omega)]
theorem midV_nil (n : Nat) (A B : Nat → List V) : midV n A B [] = (List.range n).map A := by
  unfold midV
  exact List.map_congr_left fun o _ => by simp
theorem midV_all {n : Nat} {A B : Nat → List V} {om : List Nat} (h : ∀ o, o < n → o ∈ om) : midV n A B om = (List.range n).map B := by
  unfold midV
  exact List.map_congr_left fun o ho => by rw [if_pos (h o (List.mem_range.mp ho))]
theorem eff_all {e : List Nat} (E : Eff e) {o : Nat} (h : o < e.length) : o ∈ e := by
  have h1 := ap_inv E h
  have h2 : ap (inv e) o < e.length := by
    have := ap_lt (inv_eff E) (x := o) (by rw [inv_len]; exact h)
    rw [inv_len] at this
    exact this
  have := ap_at h2
  rw [h1] at this
  exact List.mem_of_getElem? this
/-- the dict that a tick's exchanges make -/
theorem valV_lefN {ps : List (Nat × Nat)} {L : Lay Int} {k : Nat} {p : Nat × Nat} {kvs : List (Key × V)} (hp : ps[k]? = some p) (h : ∀ x : Int, (valV kvs (Sum.inl x : Key)).getD .non = lefN ps L x k) (x : Int) :
    (valV (putK kvs (Sum.inl ((steps (ps.take k) L).1.getD p.1 0) : Key) (.int (p.2 : Nat))) (Sum.inl x : Key)).getD .non = lefN ps L x (k + 1) := by
  have e1 : lefN ps L x (k + 1) = if x = (steps (ps.take k) L).1.getD p.1 0 then V.int (p.2 : Nat) else lefN ps L x k := by
    conv => lhs; unfold lefN
    rw [hp]
  rw [valV_put, e1]
  by_cases e : x = (steps (ps.take k) L).1.getD p.1 0
  · rw [if_pos (by rw [e]), if_pos e]
    rfl
  · rw [if_neg (fun z => e (Sum.inl.inj z)), if_neg e]
    exact h x
theorem exN_full (ps : List (Nat × Nat)) (L : Lay Int) : ∀ m, m ≤ ps.length → (exN ps L m).length = m
  | 0, _ => rfl
  | m + 1, h => by
    rw [exN_succ (List.getElem?_eq_getElem (by omega : m < ps.length)), List.length_append, exN_full ps L m (by omega)]
    rfl
theorem exN_at {ps : List (Nat × Nat)} {L : Lay Int} {k : Nat} {p : Nat × Nat} (hp : ps[k]? = some p) : ∀ m, m ≤ ps.length → k < m → (exN ps L m)[k]? = some (exch (steps (ps.take k) L) p)
  | 0, _, h => absurd h (by omega)
  | m + 1, hm, h => by
    have fl := exN_full ps L m (by omega)
    by_cases e : k = m
    · subst e
      rw [exN_succ hp, List.getElem?_append_right (by omega), fl, Nat.sub_self]
      rfl
    · rw [exN_succ (List.getElem?_eq_getElem (by omega : m < ps.length)), List.getElem?_append_left (by omega)]
      exact exN_at hp m (by omega) (by omega)
theorem exL_at {ps : List (Nat × Nat)} {L : Lay Int} {k : Nat} {e : List V} (h : (exL ps L)[k]? = some e) : ∃ p, ps[k]? = some p ∧ e = exch (steps (ps.take k) L) p := by
  unfold exL at h
  have hk : k < ps.length := by
    have := (List.getElem?_eq_some_iff.mp h).1
    rwa [exN_full ps L _ (Nat.le_refl _)] at this
  have hp := List.getElem?_eq_getElem hk
  rw [exN_at hp _ (Nat.le_refl _) hk] at h
  exact ⟨_, hp, (Option.some.inj h).symm⟩
def RI (H3 H' : Hp) (D : Addr) (ss : List (List V)) : Prop := Same H3 H' ∧ ∃ rw : List Addr, H' D = some (.lst (rw.map V.ref)) ∧ RowV H' rw ss ∧ rw.Nodup ∧ ∀ q ∈ rw, H3 q = none ∧ q ≠ D
theorem RI.start {H3 : Hp} {D : Addr} (hD : H3 D = none) : RI H3 (upd H3 D (.lst [])) D [] := ⟨same_upd hD, [], upd_same, .nil, List.nodup_nil, fun q hq => (List.not_mem_nil hq).elim⟩
theorem RI.turn {H3 H' : Hp} {D l : Addr} {ss : List (List V)} {s : List V} (h : RI H3 H' D ss) (hD : H3 D = none) (hl : H' l = none) (hs : ss.length ≤ 1000) :
    ∃ acc, (upd H' l (.lst s)) D = some (.lst acc) ∧ acc.length < sizeLine ∧ RI H3 (upd (upd H' l (.lst s)) D (.lst (acc ++ [.ref l]))) D (ss ++ [s]) := by
  obtain ⟨sm, rw, kD, rl, nd, hrw⟩ := h
  have n0 : H3 l = none := Same.free sm hl
  have nD : D ≠ l := ne_of_none kD hl
  have hrl := rowV_len rl
  have hl2 : l ∉ rw := rowV_free rl hl
  refine ⟨rw.map V.ref, by rw [upd_ne nD]; exact kD, ?_, same_of (same_of sm n0) hD, rw ++ [l], ?_, ?_, ?_, ?_⟩
  · rw [List.length_map, hrl]
    exact small1000 hs
  · rw [upd_same, List.map_append]
    rfl
  · refine rowV_snoc (by rw [upd_ne (Ne.symm nD), upd_same]) (rowV_imp (fun q hq o ho => ?_) rl)
    rw [upd_ne (hrw q hq).2, upd_ne (fun z : q = l => hl2 (by rw [← z]; exact hq))]
    exact ho
  · refine List.nodup_append.mpr ⟨nd, (by simp), fun x hx y hy z => ?_⟩
    rw [List.mem_singleton.mp hy] at z
    exact hl2 (by rw [← z]; exact hx)
  · intro q hq
    rcases List.mem_append.mp hq with hq | hq
    · exact hrw q hq
    · rw [List.mem_singleton.mp hq]
      exact ⟨n0, Ne.symm nD⟩
theorem plan_sq {K : PySem.W.Frag} {H H' : Hp} {p : Addr} {zs : List Int} {rs : List Ro} (x : PlanAt K H p zs rs) (e : ∀ a xs, SqT K H a xs → SqT K H' a xs) : PlanAt K H' p zs rs := by
  obtain ⟨a, b, h1, h2, h3⟩ := x.ex
  obtain ⟨qs, h4, h5⟩ := h3.ex
  exact ⟨a, b, e _ _ h1, e _ _ h2, qs, e _ _ h4, paired_imp (K := K) e h5⟩
structure LapAt (H : Hp) (C a : Addr) (zs : List Int) (rs : List Ro) (t : Int) : Prop where
  ex : ∃ (dx st le ef : Addr) (fs : List (Str × V)) (srw lrw : List Addr), H a = some (.ins C dx fs) ∧ fs.lookup ("length" : Str) = some (.int (lc rs : Nat)) ∧ fs.lookup ("stops" : Str) = some (.ref st) ∧ fs.lookup ("lefts" : Str) = some (.ref le) ∧ fs.lookup ("effect" : Str) = some (.ref ef) ∧
    H st = some (.lst (srw.map V.ref)) ∧ RowV H srw (stopsV rs.length zs rs t (lc rs)) ∧ H le = some (.lst (lrw.map V.ref)) ∧ RowV H lrw (leftsV rs.length zs rs t (lc rs)) ∧ H ef = some (.tup (vN (wh rs.length zs rs t)))
theorem LapAt.same {H H' : Hp} {C a : Addr} {zs : List Int} {rs : List Ro} {t : Int} (h : LapAt H C a zs rs t) (e : Same H H') : LapAt H' C a zs rs t := by
  obtain ⟨dx, st, le, ef, fs, srw, lrw, h1, h2, h3, h4, h5, h6, h7, h8, h9, h10⟩ := h.ex
  exact ⟨dx, st, le, ef, fs, srw, lrw, e _ _ h1, h2, h3, h4, h5, e _ _ h6, rowV_imp (fun q _ o => e q o) h7, e _ _ h8, rowV_imp (fun q _ o => e q o) h9, e _ _ h10⟩
/-- a lap that is being made -/
structure LB (H H' : Hp) (x dx C st le : Addr) (fs : List (Str × V)) (srw lrw : List Addr) (ss ls : List (List V)) : Prop where
  o : Ox x H H'
  x : H' x = some (.ins C dx fs)
  s : H' st = some (.lst (srw.map V.ref))
  l : H' le = some (.lst (lrw.map V.ref))
  sr : RowV H' srw ss
  lr : RowV H' lrw ls
/-- what is new in it, each object apart -/
structure LN (H : Hp) (st le : Addr) (srw lrw : List Addr) : Prop where
  n1 : srw.Nodup
  n2 : lrw.Nodup
  d : ∀ q ∈ srw, q ∉ lrw
  s1 : st ∉ srw
  s2 : st ∉ lrw
  l1 : le ∉ srw
  l2 : le ∉ lrw
  f1 : ∀ q ∈ srw, H q = none
  f2 : ∀ q ∈ lrw, H q = none
section
variable {H H' H2 : Hp} {x dx C st le q : Addr} {fs : List (Str × V)} {srw lrw : List Addr} {ss ls : List (List V)}
theorem LB.same (b : LB H H' x dx C st le fs srw lrw ss ls) (e : Same H' H2) : LB H H2 x dx C st le fs srw lrw ss ls :=
  ⟨b.o.then e, e _ _ b.x, e _ _ b.s, e _ _ b.l, rowV_imp (fun q _ o => e q o) b.sr, rowV_imp (fun q _ o => e q o) b.lr⟩
theorem LB.put1 (b : LB H H' x dx C st le fs srw lrw ss ls) (n : LN H st le srw lrw) {i : Nat} (hi : srw[i]? = some q) (s : List V) : LB H (upd H' q (.lst s)) x dx C st le fs srw lrw (ss.set i s) ls := by
  have m := List.mem_of_getElem? hi
  obtain ⟨xs, hq⟩ := rowV_mem b.sr m
  have qx : x ≠ q := fun z => by rw [← z, b.x] at hq; cases hq
  refine ⟨b.o.at (n.f1 q m) _, by rw [upd_ne qx]; exact b.x, by rw [upd_ne (fun z => n.s1 (by rw [z]; exact m))]; exact b.s, by rw [upd_ne (fun z => n.l1 (by rw [z]; exact m))]; exact b.l, rowV_set n.n1 b.sr hi, rowV_imp (fun r hr o ho => ?_) b.lr⟩
  rw [upd_ne (fun z => n.d q m (by rw [← z]; exact hr))]
  exact ho
theorem LB.put2 (b : LB H H' x dx C st le fs srw lrw ss ls) (n : LN H st le srw lrw) {i : Nat} (hi : lrw[i]? = some q) (s : List V) : LB H (upd H' q (.lst s)) x dx C st le fs srw lrw ss (ls.set i s) := by
  have m := List.mem_of_getElem? hi
  obtain ⟨xs, hq⟩ := rowV_mem b.lr m
  have qx : x ≠ q := fun z => by rw [← z, b.x] at hq; cases hq
  refine ⟨b.o.at (n.f2 q m) _, by rw [upd_ne qx]; exact b.x, by rw [upd_ne (fun z => n.s2 (by rw [z]; exact m))]; exact b.s, by rw [upd_ne (fun z => n.l2 (by rw [z]; exact m))]; exact b.l, rowV_imp (fun r hr o ho => ?_) b.sr, rowV_set n.n2 b.lr hi⟩
  rw [upd_ne (fun z => n.d r hr (by rw [z]; exact m))]
  exact ho
end
end Sv
set_option maxHeartbeats 8000000
namespace Sv
open PySem PySem.Spec PyProof.Rows L2
section
variable {P : Program} {w : World} {K : PySem.W.Frag} {mg : Str → Option Value} {base : Heap}
def nLi : List Str := ["self", "plan", "time", "origins", "carried", "shelves", "step", "exchanges", "lefts", "place", "origin", "_", "shelf", "left", "row"]
theorem scLapInit : FnScope nLi ["self", "plan", "time"] (defScope sLapInit) := ⟨rfl, rfl, rfl, by decide +kernel, rfl, by decide +kernel, by decide +kernel⟩
def spLapInit (K : PySem.W.Frag) (C : Addr) : Sp := fun vs H Q _ => ∃ (x dx p : Addr) (t : Int) (zs : List Int) (rs : List Ro), vs = [.ref x, .ref p, .int t] ∧ H x = some (.ins C dx []) ∧ PlanAt K H p zs rs ∧ Val zs rs ∧
  ∀ H', Ox x H H' → LapAt H' C x zs rs t → Q .non H'
noncomputable abbrev fL1 (rs : List Ro) : List (Str × V) := putF "length" (.int (lc rs : Nat)) []
noncomputable abbrev fL2 (rs : List Ro) (st : Addr) : List (Str × V) := putF "stops" (.ref st) (fL1 rs)
noncomputable abbrev fL3 (rs : List Ro) (st le : Addr) : List (Str × V) := putF "lefts" (.ref le) (fL2 rs st)
noncomputable abbrev fL4 (rs : List Ro) (st le ef : Addr) : List (Str × V) := putF "effect" (.ref ef) (fL3 rs st le)
theorem fl2 (rs : List Ro) (st : Addr) : (fL2 rs st).length ≤ 2 := Nat.le_trans (length_putF _ _ _) (Nat.succ_le_succ (length_putF _ _ _))
theorem fl3 (rs : List Ro) (st le : Addr) : (fL3 rs st le).length ≤ 3 := Nat.le_trans (length_putF _ _ _) (Nat.succ_le_succ (fl2 rs st))
theorem lk3_length (rs : List Ro) (st le : Addr) : (fL3 rs st le).lookup ("length" : Str) = some (.int (lc rs : Nat)) := by
  rw [lk_ne (by decide), lk_ne (by decide), lk_same]
theorem lk3_stops (rs : List Ro) (st le : Addr) : (fL3 rs st le).lookup ("stops" : Str) = some (.ref st) := by
  rw [lk_ne (by decide), lk_same]
theorem lk3_lefts (rs : List Ro) (st le : Addr) : (fL3 rs st le).lookup ("lefts" : Str) = some (.ref le) := lk_same _ _ _
theorem ok_lapInit (T : Bd P K mg) : FnOk P w K mg base CX0 3 T.aLap T.dLap ["self", "plan", "time"] (spLapInit K T.CLap) := by
  have GM : FnOk P w K mg base CX0 2 T.aCommon T.dCommon ["routes"] (spCommon K) := ok_common T
  have GN : FnOk P w K mg base CX0 1 T.aNumPlaces T.dNumPlaces ["plan"] (spNum K) := ok_num T
  have GS : FnOk P w K mg base CX0 1 T.aSplit T.dSplit ["plan", "contents"] (spSplit K) := ok_split T
  have GA : FnOk P w K mg base CX0 2 T.aAfterTick T.dAfterTick ["plan", "number", "carried", "shelves"] (spAfterTick K) := ok_afterTick T
  have GJ : FnOk P w K mg base CX0 1 T.aJoin T.dJoin ["carried", "shelves"] (spJoin K) := ok_join T
  refine T.lap.F.ok scLapInit (fun vs H Q E h => ?_) (fun cdv A outer s H vs Q E hr h => ?_)
  · obtain ⟨x, dx, p, t, zs, rs, rfl, _⟩ := h
    rfl
  · obtain ⟨x, dx, p, t, zs, rs, rfl, hx, hp, hv, q⟩ := h
    have hu := hu_of hr
    refine ⟨_, (pss_cons (ps_fld (pv 0) (pe_call (E := E0) GM hr (by rfl) T.Common.g T.Common.F.kp T.Common.b .nil pass0 (pa_cons (pe_ix ix_tup (pv 1) pe_int (fun _ _ => rfl)) pa_nil)) rfl)
      (pss_cons (ps_set (i := 3) scLapInit.nd rfl (Or.inl rfl) (pe_listRg rfl (by rfl) T.bt.list (prg_1 (by rfl) T.bt.range (pe_call (E := E0) GN (hr.mono (by decide)) (by rfl) T.NumPlaces.g T.NumPlaces.F.kp T.NumPlaces.b .nil pass0 (pa_cons (pv 1) pa_nil)))))
      (pss_cons (ps_fld (pv 0) (pe_lc (own := [("place", 9)]) (g := gName 9) (tt := tYes) (te := tLst (tCons (tVar 9) tNil)) rfl scLapInit.nd (pi_list (pv 3)) (blkOk_by (N := nLi) (sc := defScope sLapInit) (by decide +kernel)) (fun _ _ _ _ _ => pg_name (i := 9) scLapInit.nd rfl (Or.inl rfl)) (fun _ _ _ _ _ => pts_nil) (fun _ _ _ _ _ => pe_lst (pa_cons (pv 9) pa_nil))) rfl)
      (pss_cons (ps_fld (pv 0) (pe_lc (own := [("_", 11)]) (g := gName 11) (tt := tYes) (te := tLst tNil) rfl scLapInit.nd (pi_list (pv 3)) (blkOk_by (N := nLi) (sc := defScope sLapInit) (by decide +kernel)) (fun _ _ _ _ _ => pg_name (i := 11) scLapInit.nd rfl (Or.inl rfl)) (fun _ _ _ _ _ => pts_nil) (fun _ _ _ _ _ => pe_lst pa_nil)) rfl)
      (pss_cons (ps_asg (pe_call (E := E0) GS (hr.mono (by decide)) (by rfl) T.Split.g T.Split.F.kp T.Split.b .nil pass0 (pa_cons (pv 1) (pa_cons (pv 3) pa_nil))) (pg_tup rfl (pgs_cons (pg_name (i := 4) scLapInit.nd rfl (.inl rfl)) (pgs_cons (pg_name (i := 5) scLapInit.nd rfl (.inl rfl)) pgs_nil))))
      (pss_cons (ps_for PassesOwn.never rfl (pi_range1 (by rfl) T.bt.range (pa_cons (pe_fld (pv 0) rfl) pa_nil)) (pg_name (i := 6) scLapInit.nd rfl (Or.inl rfl))
      (pss_cons (ps_asg (pe_call (E := E0) GA hr (by rfl) T.AfterTick.g T.AfterTick.F.kp T.AfterTick.b .nil pass0 (pa_cons (pv 1) (pa_cons (pe_op op_add (pe_op op_add (pv 2) (pv 6)) pe_int) (pa_cons (pv 4) (pa_cons (pv 5) pa_nil))))) (pg_tup rfl (pgs_cons (pg_name (i := 4) scLapInit.nd rfl (.inl rfl)) (pgs_cons (pg_name (i := 5) scLapInit.nd rfl (.inl rfl)) (pgs_cons (pg_name (i := 7) scLapInit.nd rfl (.inl rfl)) pgs_nil)))))
      (pss_cons (ps_setDc (j := 8) (own := [("_", 11), ("shelf", 12), ("left", 13)]) (g := gTup K 4 (gCons (gName 11) (gCons (gName 12) (gCons (gName 13) (gCons (gName 11) gNil))))) (tt := tYes) (tk := tVar 13) (tv := tVar 12) rfl scLapInit.nd rfl rfl (swD_yes rfl rfl rfl (by decide +kernel)) (pi_list (pv 7)) (blkOk_by (N := nLi) (sc := defScope sLapInit) (by decide +kernel)) (fun _ _ _ _ _ => (pg_tup rfl (pgs_cons (pg_name (i := 11) scLapInit.nd rfl (.inl rfl)) (pgs_cons (pg_name (i := 12) scLapInit.nd rfl (.inl rfl)) (pgs_cons (pg_name (i := 13) scLapInit.nd rfl (.inl rfl)) (pgs_cons (pg_name (i := 11) scLapInit.nd rfl (.inl rfl)) pgs_nil)))))) (fun _ _ _ _ _ => pts_nil) (fun _ _ _ _ _ => pv 13) (fun _ _ _ _ _ => pv 12))
      (pss_one (ps_for PassesOwn.never rfl (pi_enum (by rfl) T.bt.enumerate (pa_cons (pe_call (E := E0) GJ (hr.mono (by decide)) (by rfl) T.Join.g T.Join.F.kp T.Join.b .nil pass0 (pa_cons (pv 4) (pa_cons (pv 5) pa_nil))) pa_nil)) (pg_tup rfl (pgs_cons (pg_name (i := 9) scLapInit.nd rfl (.inl rfl)) (pgs_cons (pg_name (i := 10) scLapInit.nd rfl (.inl rfl)) pgs_nil)))
      (pss_cons (ps_expr (pe_bm PySem.F.plainAttrs_list PySem.F.slot_list_append PySem.F.type_list_append mt_append (pe_ix ix_list (pe_fld (pv 0) rfl) (pv 10) (fun _ _ => rfl)) (pa_cons (pv 9) pa_nil)))
      (pss_one (ps_expr (pe_bm PySem.F.plainAttrs_list PySem.F.slot_list_append PySem.F.type_list_append mt_append (pe_ix ix_list (pe_fld (pv 0) rfl) (pv 10) (fun _ _ => rfl)) (pa_cons (pe_dget1 hu (pv 8) (pv 10) ⟨rfl, rfl, rfl, rfl⟩) pa_nil))))))))))
      (pss_one (ps_fld (pv 0) (pe_callTy call_tuple_of (by rfl) T.bt.tuple b_tuple (pa_cons (pe_lc (own := [("row", 14)]) (g := gName 14) (tt := tYes) (te := tOp (rIxL K) (tVar 14) (tUn (rU fun i => .int (-i)) (tC (.int 1)))) rfl scLapInit.nd (pi_list (pe_fld (pv 0) rfl)) (blkOk_by (N := nLi) (sc := defScope sLapInit) (by decide +kernel)) (fun _ _ _ _ _ => pg_name (i := 14) scLapInit.nd rfl (Or.inl rfl)) (fun _ _ _ _ _ => pts_nil) (fun _ _ _ _ _ => pe_ix ix_list (pv 14) (pe_un un_neg pe_int) (fun _ _ => rfl))) pa_nil)) rfl)))))))), ?_⟩
    have hN := hv.num
    have hz12 := hv.z1
    have hr6 := hv.r1
    have b62 : (1000 : Int) < 2 ^ 62 := by decide
    obtain ⟨l1, l60⟩ := lc_le hv.r2
    obtain ⟨a, b, hpt, ha, hb⟩ := hp.ex
    -- length
    refine ⟨.ref p, rfl, p, _, 1, .ref b, rfl, rfl, hpt, rfl, b, rs, rfl, hb, hv.r2, fun H1 sm1 => ?_⟩
    refine ⟨.ref x, rfl, x, T.CLap, dx, _, rfl, sm1 _ _ hx, T.lap.c, T.lap.n1, (by show 0 < 1000; decide), ?_⟩
    have o2 : Ox x H (upd H1 x (.ins T.CLap dx (fL1 rs))) := ((Ox.refl x H).then sm1).put _
    have x2 : (upd H1 x (.ins T.CLap dx (fL1 rs))) x = some (.ins T.CLap dx (fL1 rs)) := upd_same
    generalize upd H1 x (.ins T.CLap dx (fL1 rs)) = H2 at o2 x2 ⊢
    clear sm1
    -- origins
    refine ⟨.ref p, rfl, p, zs, rs, rfl, plan_sq hp (sqT_ox hx o2), fun z hz => (hv.z2 z hz).1, (rs.length + sumN zs : Nat), rfl, ⟨by omega, by omega, by omega, by omega, by omega⟩, fun oc hoc => ?_⟩
    rw [rgV_iN]
    have ocx : oc ≠ x := fun z => by rw [z, x2] at hoc; cases hoc
    have o3 : Ox x H (upd H2 oc (.lst ((iN (List.range (rs.length + sumN zs))).map V.int))) := o2.then (same_upd hoc)
    have x3 : (upd H2 oc (.lst ((iN (List.range (rs.length + sumN zs))).map V.int))) x = some (.ins T.CLap dx (fL1 rs)) := by rw [upd_ne (Ne.symm ocx)]; exact x2
    have k3 : (upd H2 oc (.lst ((iN (List.range (rs.length + sumN zs))).map V.int))) oc = some (.lst ((iN (List.range (rs.length + sumN zs))).map V.int)) := upd_same
    generalize upd H2 oc (.lst ((iN (List.range (rs.length + sumN zs))).map V.int)) = H3 at o3 x3 k3 ⊢
    have il : (iN (List.range (rs.length + sumN zs))).length = rs.length + sumN zs := by unfold iN; rw [List.length_map, List.length_range]
    -- stops
    refine ⟨.ref oc, rfl, oc, rfl, ⟨_, .inl (.inl k3)⟩, fun st hst => lc_list (xs := (iN (List.range (rs.length + sumN zs))).map V.int) (fun i H' => RI H3 H' st ((List.range i).map fun j => [V.int (j : Nat)])) (RI.start hst)
      (fun i H' _ h => .inl (.inl (h.1 _ _ k3))) (fun i y H' hy h => ?_) (fun H4 ⟨sm4, srw, ks, sr, nd1, hsr⟩ => ?_)⟩
    · rw [iN_V] at hy
      obtain ⟨hi, rfl⟩ := vN_lt hy
      rw [List.length_range] at hi
      rw [range_ap hi]
      refine ⟨rfl, yes_go ⟨.int (i : Nat), rfl, (by show 1 ≤ sizeLine; decide), fun l hl => ?_⟩⟩
      obtain ⟨acc, q1, q2, q3⟩ := h.turn (s := [V.int (i : Nat)]) hst hl (by rw [List.length_map, List.length_range]; omega)
      exact ⟨acc, q1, q2, by rw [List.range_succ (n := i), List.map_append]; exact q3⟩
    rw [List.length_map, il] at sr
    have x4 := sm4 _ _ x3
    have k4 := sm4 _ _ k3
    refine ⟨.ref x, rfl, x, T.CLap, dx, _, rfl, x4, T.lap.c, T.lap.n2, (Nat.lt_of_le_of_lt (length_putF _ _ _) (by show 0 + 1 < 1000; decide)), ?_⟩
    have srx : ∀ q ∈ srw, q ≠ x := fun q hq z => by
      have := (hsr q hq).1
      rw [z, x3] at this
      cases this
    have stx : st ≠ x := fun z => by rw [z, x3] at hst; cases hst
    have o5 : Ox x H (upd H4 x (.ins T.CLap dx (fL2 rs st))) := (o3.then sm4).put _
    have x5 : (upd H4 x (.ins T.CLap dx (fL2 rs st))) x = some (.ins T.CLap dx (fL2 rs st)) := upd_same
    have k5 : (upd H4 x (.ins T.CLap dx (fL2 rs st))) oc = some (.lst ((iN (List.range (rs.length + sumN zs))).map V.int)) := by rw [upd_ne ocx]; exact k4
    have s5 : (upd H4 x (.ins T.CLap dx (fL2 rs st))) st = some (.lst (srw.map V.ref)) := by rw [upd_ne stx]; exact ks
    have r5 : RowV (upd H4 x (.ins T.CLap dx (fL2 rs st))) srw ((List.range (rs.length + sumN zs)).map fun j => [V.int (j : Nat)]) := rowV_imp (fun q hq o ho => by rw [upd_ne (srx q hq)]; exact ho) sr
    generalize upd H4 x (.ins T.CLap dx (fL2 rs st)) = H5 at o5 x5 k5 s5 r5 ⊢
    have f1 : ∀ q ∈ srw, H q = none := fun q hq => o3.free x3 (hsr q hq).1
    -- lefts
    refine ⟨.ref oc, rfl, oc, rfl, ⟨_, .inl (.inl k5)⟩, fun le hle => lc_list (xs := (iN (List.range (rs.length + sumN zs))).map V.int) (fun i H' => RI H5 H' le ((List.range i).map fun _ => [])) (RI.start hle)
      (fun i H' _ h => .inl (.inl (h.1 _ _ k5))) (fun i y H' hy h => ?_) (fun H6 ⟨sm6, lrw, kl, lr, nd2, hlr⟩ => ?_)⟩
    · have hi := (List.getElem?_eq_some_iff.mp hy).1
      rw [List.length_map, il] at hi
      refine ⟨rfl, yes_go ⟨Nat.zero_le _, fun l hl => ?_⟩⟩
      obtain ⟨acc, q1, q2, q3⟩ := h.turn (s := []) hle hl (by rw [List.length_map, List.length_range]; omega)
      exact ⟨acc, q1, q2, by rw [List.range_succ (n := i), List.map_append]; exact q3⟩
    rw [List.length_map, il] at lr
    have x6 := sm6 _ _ x5
    refine ⟨.ref x, rfl, x, T.CLap, dx, _, rfl, x6, T.lap.c, T.lap.n3, Nat.lt_of_le_of_lt (fl2 rs st) (by decide), ?_⟩
    have lrx : ∀ q ∈ lrw, q ≠ x := fun q hq z => by
      have := (hlr q hq).1
      rw [z, x5] at this
      cases this
    have lex : le ≠ x := fun z => by rw [z, x5] at hle; cases hle
    have o7 : Ox x H (upd H6 x (.ins T.CLap dx (fL3 rs st le))) := (o5.then sm6).put _
    have b7 : LB H (upd H6 x (.ins T.CLap dx (fL3 rs st le))) x dx T.CLap st le (fL3 rs st le) srw lrw (stopsV rs.length zs rs t 0) (leftsV rs.length zs rs t 0) := by
      refine ⟨o7, upd_same, by rw [upd_ne stx]; exact sm6 _ _ s5, by rw [upd_ne lex]; exact kl, ?_, ?_⟩
      · have e : stopsV rs.length zs rs t 0 = (List.range (rs.length + sumN zs)).map fun j => [V.int (j : Nat)] := by
          unfold stopsV
          refine List.map_congr_left fun o ho => ?_
          show [V.int (ap (fwd rs.length zs rs t 0) o : Nat)] = _
          rw [fwd_zero, range_ap (List.mem_range.mp ho)]
        rw [e]
        exact rowV_imp (fun q hq o ho => by rw [upd_ne (srx q hq)]; exact sm6 _ _ ho) r5
      · exact rowV_imp (fun q hq o ho => by rw [upd_ne (lrx q hq)]; exact ho) lr
    have n7 : LN H st le srw lrw := by
      refine ⟨nd1, nd2, fun q hq hq2 => ?_, fun m => (hsr _ m).2 rfl, fun m => ?_, fun m => ?_, fun m => (hlr _ m).2 rfl, f1, fun q hq => o5.free x5 (hlr q hq).1⟩
      · obtain ⟨xs, e⟩ := rowV_mem r5 hq
        rw [(hlr q hq2).1] at e
        cases e
      · have := (hlr _ m).1
        rw [s5] at this
        cases this
      · obtain ⟨xs, e⟩ := rowV_mem r5 m
        rw [hle] at e
        cases e
    have k7 : (upd H6 x (.ins T.CLap dx (fL3 rs st le))) oc = some (.lst ((iN (List.range (rs.length + sumN zs))).map V.int)) := by rw [upd_ne ocx]; exact sm6 _ _ k5
    generalize upd H6 x (.ins T.CLap dx (fL3 rs st le)) = H7 at b7 k7 o7 ⊢
    -- the layout
    refine ⟨.ref p, rfl, .ref oc, rfl, p, oc, zs, rs, iN (List.range (rs.length + sumN zs)), rfl, plan_sq hp (sqT_ox hx o7), .inl (.inl k7), hv.z2, hv.z1.2, hv.r1.2, by omega, fun H8 tp ca sh sm8 ht lay => ?_⟩
    have el : spl rs.length zs (iN (List.range (rs.length + sumN zs))) = iL (run rs t 0 (idx rs.length zs)) := spl_iN _ _ _
    have lay0 : LayT K H8 ca sh (iL (run rs t 0 (idx rs.length zs))).1 (iL (run rs t 0 (idx rs.length zs))).2 := by
      rw [← el]
      exact lay.t
    refine ⟨tp, [.ref ca, .ref sh], rfl, .inl (.inl ht), rfl, _, _, rfl, _, _, rfl, rfl, ?_⟩
    have b8 := b7.same sm8
    refine ⟨.ref x, rfl, x, T.CLap, dx, _, _, rfl, b8.x, T.lap.c, T.lap.n1, lk3_length rs st le, (lc rs : Nat), rfl, by omega, by omega, ?_⟩
    rw [Int.toNat_natCast]
    refine for_range (lo := 0) (n := lc rs) (fun i σ H' => (∃ ca' sh' y6 y7 y8 y9 y10 y11 y12 y13 y14, σ = [some (.ref x), some (.ref p), some (.int t), some (.ref oc), some (.ref ca'), some (.ref sh'), y6, y7, y8, y9, y10, y11, y12, y13, y14] ∧ LayT K H' ca' sh' (iL (run rs t i (idx rs.length zs))).1 (iL (run rs t i (idx rs.length zs))).2) ∧
        LB H H' x dx T.CLap st le (fL3 rs st le) srw lrw (stopsV rs.length zs rs t i) (leftsV rs.length zs rs t i))
      ⟨⟨_, _, _, _, _, _, _, _, _, _, _, rfl, lay0⟩, b8⟩ (fun i σ H' hi ⟨⟨ca', sh', y6, y7, y8, y9, y10, y11, y12, y13, y14, es, hl⟩, bi⟩ => ?_) (fun σ H9 ⟨⟨ca', sh', y6, y7, y8, y9, y10, y11, y12, y13, y14, es, hl⟩, b9⟩ => ?_)
    · subst es
      have hfi : Fits rs.length zs (iL (run rs t i (idx rs.length zs))) := by
        rw [← run_iL]
        have e0 : iL (idx rs.length zs) = spl rs.length zs (iN (List.range (rs.length + sumN zs))) := (spl_iN _ _ _).symm
        rw [e0]
        exact run_fits _ _ _ (spl_fits il)
      refine ⟨.ref p, rfl, .int t, rfl, .int (0 + (i : Nat)), rfl, t, _, rfl, rfl, _, 1, rfl, rfl, .ref ca', rfl, .ref sh', rfl, p, ca', sh', _, zs, rs, iL (run rs t i (idx rs.length zs)), rfl, plan_sq hp (sqT_ox hx bi.o), hv, hl, hfi, fun H4 tq c' s' xe sm4 ht4 lay4 tl4 hx4 => ?_⟩
      have en : t + (0 + (i : Int)) + 1 - 1 = t + (i : Nat) := by omega
      rw [en] at lay4 tl4
      have es : tickL rs (t + (i : Nat)) (iL (run rs t i (idx rs.length zs))) = iL (run rs t (i + 1) (idx rs.length zs)) := by
        rw [← run_iL, ← run_iL]
        rfl
      rw [es] at lay4
      refine ⟨tq, _, rfl, .inl (.inl ht4), rfl, _, _, rfl, _, _, rfl, _, _, rfl, rfl, ?_⟩
      have b4 := bi.same sm4
      clear bi sm4
      -- who is left where
      obtain ⟨ps, kx, tv⟩ := tl4.ex
      have hpl := tupsV_len tv
      refine ⟨.ref xe, rfl, xe, rfl, ⟨_, .inl (.inl kx)⟩, fun D hD => dc_list (xs := ps.map V.ref) (fun k H' => Same H4 H' ∧ ∃ kvs : List (Key × V), H' D = some (.dK kvs) ∧ kvs.length ≤ k ∧ ∀ z : Int, (valV kvs (Sum.inl z : Key)).getD .non = lefN (vis rs (t + (i : Nat))) (iL (run rs t i (idx rs.length zs))) z k)
        ⟨same_upd hD, [], upd_same, Nat.le_refl _, fun z => rfl⟩ (fun k H' _ h => .inl (.inl (h.1 _ _ kx))) (fun k y H' hy ⟨sm, kvs, kd, kl, kv⟩ => ?_) (fun H5 ⟨sm5, kvs, kd, kl, kv⟩ => ?_)⟩
      · obtain ⟨U, hU, rfl⟩ := refs_lt hy
        obtain ⟨t0, ht0, hUt⟩ := tupsV_at (tupsV_same sm tv) hU
        obtain ⟨pr, hpr, rfl⟩ := exL_at ht0
        have hk := (List.getElem?_eq_some_iff.mp hpr).1
        have hvl := vis_len rs (t + (i : Nat))
        refine ⟨U, _, rfl, .inl (.inl hUt), rfl, _, _, rfl, _, _, rfl, _, _, rfl, _, _, rfl, rfl, ?_⟩
        exact ⟨rfl, yes_go ⟨_, rfl, _, rfl, kvs, Sum.inl _, rfl, kd, small1000 (by omega), same_of sm hD, _, upd_same, Nat.le_trans (length_putK _ _ _) (Nat.succ_le_succ kl), fun z => valV_lefN hpr kv z⟩⟩
      have b5 := b4.same sm5
      have lay5 := lay4.same sm5
      have kv5 : ∀ z : Int, (valV kvs (Sum.inl z : Key)).getD .non = lefV (vis rs (t + (i : Nat))) (iL (run rs t i (idx rs.length zs))) z := fun z => by
        rw [kv z, List.length_map, hpl]
        unfold lefV exL
        rw [exN_full _ _ _ (Nat.le_refl _)]
      clear b4 lay4 kv
      -- the places
      have ol := org_len rs.length zs rs t (i + 1)
      have oe := org_eff rs.length zs rs t (i + 1)
      have ej : (iL (run rs t (i + 1) (idx rs.length zs))).1 ++ (iL (run rs t (i + 1) (idx rs.length zs))).2.flatten = iN (org rs.length zs rs t (i + 1)) := join_map _ _
      refine ⟨.ref c', rfl, .ref s', rfl, c', s', _, _, rfl, lay5, ?_, fun H6 f sm6 hf6 kf6 => ?_⟩
      · rw [← List.length_append, ej]
        unfold iN
        rw [List.length_map, ol]
        omega
      rw [ej, iN_V] at kf6
      have b6 := b5.same sm6
      have lay6 := lay5.same sm6
      have kd6 := sm6 _ _ kd
      have f1' : f ∉ srw := rowV_free b5.sr hf6
      have f2' : f ∉ lrw := rowV_free b5.lr hf6
      generalize hom : org rs.length zs rs t (i + 1) = om at ol oe kf6
      have hfw : fwd rs.length zs rs t (i + 1) = inv om := by
        unfold fwd
        rw [hom]
      clear b5 lay5 kd
      refine ⟨f, vN om, rfl, .inl (.inl kf6), for_enumL (xs := vN om) (fun m σ H' => (∃ y9 y10 y11 y12 y13 y14, σ = [some (.ref x), some (.ref p), some (.int t), some (.ref oc), some (.ref c'), some (.ref s'), some (.int (0 + (i : Nat))), some (.ref xe), some (.ref D), y9, y10, y11, y12, y13, y14]) ∧
          LayT K H' c' s' (iL (run rs t (i + 1) (idx rs.length zs))).1 (iL (run rs t (i + 1) (idx rs.length zs))).2 ∧ H' f = some (.lst (vN om)) ∧ H' D = some (.dK kvs) ∧
          LB H H' x dx T.CLap st le (fL3 rs st le) srw lrw (midV (rs.length + sumN zs) (stopV rs.length zs rs t i) (stopV rs.length zs rs t (i + 1)) (om.take m)) (midV (rs.length + sumN zs) (leftV rs.length zs rs t i) (leftV rs.length zs rs t (i + 1)) (om.take m)))
        ⟨⟨_, _, _, _, _, _, rfl⟩, lay6, kf6, kd6, by rw [List.take_zero, midV_nil, midV_nil]; exact b6⟩ (fun m σ H' _ h => .inl (.inl h.2.2.1)) (fun m y σ H' U hy ⟨⟨y9, y10, y11, y12, y13, y14, es⟩, la, kf, kd, bm⟩ hU => ?_) (fun σ H' ⟨⟨y9, y10, y11, y12, y13, y14, es⟩, la, kf, kd, bm⟩ => ?_)⟩
      · subst es
        obtain ⟨hm, rfl⟩ := vN_lt hy
        have smU : Same H' (upd H' U (.tup [.int (m : Nat), .int (ap om m : Nat)])) := same_upd hU
        refine ⟨U, [.int (m : Nat), .int (ap om m : Nat)], rfl, .inl (.inl upd_same), rfl, _, _, rfl, _, _, rfl, rfl, ?_⟩
        have bu := bm.same smU
        have lu := la.same smU
        have ku := smU _ _ kf
        have du := smU _ _ kd
        generalize upd H' U (.tup [.int (m : Nat), .int (ap om m : Nat)]) = H7 at bu lu ku du ⊢
        clear bm la kf kd smU
        have hsl := rowV_len bu.sr
        have hll := rowV_len bu.lr
        rw [midV_len] at hsl hll
        have ho : ap om m < rs.length + sumN zs := by
          have := ap_lt oe hm
          omega
        have onot : ap om m ∉ om.take m := fun z => by
          obtain ⟨j, hj⟩ := List.mem_iff_getElem?.mp z
          have hjm : j < m := by
            have := (List.getElem?_eq_some_iff.mp hj).1
            rw [List.length_take] at this
            omega
          rw [List.getElem?_take, if_pos hjm, ap_at (by omega)] at hj
          have := ap_inj oe (by omega) hm (Option.some.inj hj)
          omega
        have etk : om.take (m + 1) = om.take m ++ [ap om m] := by
          rw [List.take_add_one, ap_at hm]
          rfl
        have eback : ap (fwd rs.length zs rs t (i + 1)) (ap om m) = m := by
          rw [hfw]
          exact inv_ap oe hm
        have hvl := vis_len rs (t + (i : Nat))
        generalize hoo : ap om m = o at ho onot etk eback ⊢
        -- stops
        obtain ⟨q1, hq1⟩ : ∃ q1, srw[o]? = some q1 := ⟨_, List.getElem?_eq_getElem (by omega)⟩
        obtain ⟨q2, hq2⟩ : ∃ q2, lrw[o]? = some q2 := ⟨_, List.getElem?_eq_getElem (by omega)⟩
        obtain ⟨s1, es1, kq1⟩ := rowV_at bu.sr hq1
        rw [midV_at ho, if_neg onot] at es1
        obtain rfl := Option.some.inj es1
        have hV1 : (srw.map V.ref)[o]? = some (.ref q1) := by rw [List.getElem?_map, hq1]; rfl
        have hV2 : (lrw.map V.ref)[o]? = some (.ref q2) := by rw [List.getElem?_map, hq2]; rfl
        refine ⟨.ref x, rfl, x, T.CLap, dx, _, .ref st, rfl, bu.x, T.lap.c, T.lap.n2, lk3_stops rs st le, .int (o : Nat), rfl, st, _, _, .ref q1, rfl, rfl, .inl (.inl bu.s), atI_nat hV1, .inl ⟨rfl, _, .inl (.inl kq1)⟩, .int (m : Nat), rfl, q1, _, _, rfl, rfl, kq1, small1000 (by rw [stopV_len]; omega), ?_⟩
        have e1 : stopV rs.length zs rs t i o ++ [V.int (m : Nat)] = stopV rs.length zs rs t (i + 1) o := by rw [stopV_succ, eback]
        rw [e1]
        have b8 := bu.put1 n7 hq1 (stopV rs.length zs rs t (i + 1) o)
        rw [midV_set ho, ← etk] at b8
        have l8 := lu.imp (sqT_ul kq1 (.lst (stopV rs.length zs rs t (i + 1) o)))
        have k8 : (upd H7 q1 (.lst (stopV rs.length zs rs t (i + 1) o))) f = some (.lst (vN om)) := by
          rw [upd_ne (fun z => f1' (by rw [z]; exact List.mem_of_getElem? hq1))]
          exact ku
        have d8 : (upd H7 q1 (.lst (stopV rs.length zs rs t (i + 1) o))) D = some (.dK kvs) := by
          rw [upd_ne (fun z => by rw [z, kq1] at du; cases du)]
          exact du
        generalize upd H7 q1 (.lst (stopV rs.length zs rs t (i + 1) o)) = H8 at b8 l8 k8 d8 ⊢
        -- lefts
        obtain ⟨s2, es2, kq2⟩ := rowV_at b8.lr hq2
        rw [midV_at ho, if_neg onot] at es2
        obtain rfl := Option.some.inj es2
        refine ⟨.ref x, rfl, x, T.CLap, dx, _, .ref le, rfl, b8.x, T.lap.c, T.lap.n3, lk3_lefts rs st le, .int (o : Nat), rfl, le, _, _, .ref q2, rfl, rfl, .inl (.inl b8.l), atI_nat hV2, .inl ⟨rfl, _, .inl (.inl kq2)⟩,
          .ref D, rfl, D, rfl, .inl ⟨kvs, .inl d8⟩, .int (o : Nat), rfl, _, DGet.k (k := Sum.inl (o : Int)) d8, q2, _, _, rfl, rfl, kq2, small1000 (by rw [leftV_len]; omega), ?_⟩
        have e2 : leftV rs.length zs rs t i o ++ [(valV kvs (Sum.inl (o : Int) : Key)).getD .non] = leftV rs.length zs rs t (i + 1) o := by rw [leftV_succ, kv5]
        rw [e2]
        have b9 := b8.put2 n7 hq2 (leftV rs.length zs rs t (i + 1) o)
        rw [midV_set ho, ← etk] at b9
        refine ⟨⟨_, _, _, _, _, _, rfl⟩, l8.imp (sqT_ul kq2 _), ?_, ?_, b9⟩
        · rw [upd_ne (fun z => f2' (by rw [z]; exact List.mem_of_getElem? hq2))]
          exact k8
        · rw [upd_ne (fun z => by rw [z, kq2] at d8; cases d8)]
          exact d8
      · subst es
        rw [vN_len, List.take_length, midV_all (fun o ho => eff_all oe (by omega)), midV_all (fun o ho => eff_all oe (by omega))] at bm
        exact ⟨⟨_, _, _, _, _, _, _, _, _, _, _, rfl, la⟩, bm⟩
    · subst es
      have wl := wh_len rs.length zs rs t
      obtain ⟨l', hl'⟩ : ∃ l', lc rs = l' + 1 := ⟨lc rs - 1, by omega⟩
      have hsl := rowV_len b9.sr
      have esl : (stopsV rs.length zs rs t (lc rs)).length = rs.length + sumN zs := by unfold stopsV; rw [List.length_map, List.length_range]
      rw [esl] at hsl
      refine ⟨.ref x, rfl, x, T.CLap, dx, _, .ref st, rfl, b9.x, T.lap.c, T.lap.n2, lk3_stops rs st le, st, rfl, ⟨_, .inl (.inl b9.s)⟩, fun D hD => lc_list (xs := srw.map V.ref) (fun k H' => Same H9 H' ∧ H' D = some (.lst (vN ((wh rs.length zs rs t).take k)))) ⟨same_upd hD, upd_same⟩
        (fun k H' _ h => .inl (.inl (h.1 _ _ b9.s))) (fun k y H' hy ⟨sm, kD⟩ => ?_) (fun H' ⟨sm, kD⟩ => ?_)⟩
      · obtain ⟨q1, hq1, rfl⟩ := refs_lt hy
        obtain ⟨s1, es1, kq1⟩ := rowV_at (rowV_imp (fun q _ o ho => sm _ _ ho) b9.sr) hq1
        have hk := (List.getElem?_eq_some_iff.mp hq1).1
        unfold stopsV at es1
        rw [List.getElem?_map, List.getElem?_range (by omega)] at es1
        obtain rfl := Option.some.inj es1
        have e1 : stopV rs.length zs rs t (lc rs) k = stopV rs.length zs rs t l' k ++ [.int (ap (wh rs.length zs rs t) k : Nat)] := by
          unfold wh
          rw [hl', stopV_succ]
        rw [e1] at kq1
        refine ⟨rfl, yes_go ⟨.ref q1, rfl, 1, rfl, q1, _, _, _, rfl, rfl, .inl (.inl kq1), atI_last _ _, _, kD, ?_, same_of sm hD, ?_⟩⟩
        · rw [vN_len, List.length_take]
          exact small1000 (by omega)
        · rw [upd_same, vN_snoc (by omega)]
      · rw [List.length_map, hsl, ← wl, List.take_length] at kD
        refine ⟨D, _, rfl, .inl ⟨.inl (.inl kD), fun ef hef => ?_⟩⟩
        have bA := b9.same (sm.trans (same_upd (o := .tup (vN (wh rs.length zs rs t))) hef))
        have kE : (upd H' ef (.tup (vN (wh rs.length zs rs t)))) ef = some (.tup (vN (wh rs.length zs rs t))) := upd_same
        generalize upd H' ef (.tup (vN (wh rs.length zs rs t))) = HA at bA kE ⊢
        refine ⟨.ref x, rfl, x, T.CLap, dx, _, rfl, bA.x, T.lap.c, T.lap.n4, Nat.lt_of_le_of_lt (fl3 rs st le) (by decide), ?_⟩
        have nx : ∀ q, (∃ xs, HA q = some (.lst xs)) → q ≠ x := fun q ⟨xs, h⟩ z => by
          rw [z, bA.x] at h
          cases h
        refine q _ (bA.o.put _) ⟨dx, st, le, ef, fL4 rs st le ef, srw, lrw, upd_same, ?_, ?_, ?_, lk_same _ _ _, ?_, ?_, ?_, ?_, ?_⟩
        · rw [lk_ne (by decide)]
          exact lk3_length rs st le
        · rw [lk_ne (by decide)]
          exact lk3_stops rs st le
        · rw [lk_ne (by decide)]
          exact lk3_lefts rs st le
        · rw [upd_ne (nx st ⟨_, bA.s⟩)]
          exact bA.s
        · exact rowV_imp (fun r hr o ho => by rw [upd_ne (nx r (rowV_mem bA.sr hr))]; exact ho) bA.sr
        · rw [upd_ne (nx le ⟨_, bA.l⟩)]
          exact bA.l
        · exact rowV_imp (fun r hr o ho => by rw [upd_ne (nx r (rowV_mem bA.lr hr))]; exact ho) bA.lr
        · rw [upd_ne (fun z => by rw [z, bA.x] at kE; cases kE)]
          exact kE
end
end Sv
set_option maxHeartbeats 4000000
namespace Sv
open PySem PySem.Spec PyProof.Rows L2
section
variable {P : Program} {w : World} {K : PySem.W.Frag} {mg : Str → Option Value} {base : Heap}
def nEt : List Str := ["plan", "time", "count", "lap", "laps", "rest", "place"]
theorem scEffectTicks : FnScope nEt ["plan", "time", "count"] (defScope sEffectTicks) := ⟨rfl, rfl, rfl, by decide +kernel, rfl, by decide +kernel, by decide +kernel⟩
theorem NewT.imp {H H1 : Hp} {g : List Nat} {Q : VK} (h : NewT H g Q) (e : Same H H1) : NewT H1 g Q := fun H' p sm hp hq => h H' p (e.trans sm) (Same.free e hp) hq
theorem same_make {H H' : Hp} {x dx C : Addr} {fs : List (Str × V)} (n1 : H x = none) (n2 : H dx = none) (o : Ox x (upd (upd H dx (.own x)) x (.ins C dx fs)) H') : Same H H' := fun b u e => by
  have h1 := ne_of_none e n1
  have h2 := ne_of_none e n2
  exact o b u h1 (by rw [upd_ne h1, upd_ne h2]; exact e)
/-- a new effect that is known to have no attributes of its own -/
def NewF (H : Hp) (g : List Nat) (Q : VK) : Prop := ∀ H' p o, Same H H' → H p = none → H' p = some (.frz o (.tup (vN g))) → o.dict = none → Q (.ref p) H'
theorem NewF.imp {H H1 : Hp} {g : List Nat} {Q : VK} (h : NewF H g Q) (e : Same H H1) : NewF H1 g Q := fun H' p o sm hp hq hd => h H' p o (e.trans sm) (Same.free e hp) hq hd
def spEffectTicks (K : PySem.W.Frag) : Sp := fun vs H Q _ => ∃ (p : Addr) (t c : Int) (zs : List Int) (rs : List Ro), vs = [.ref p, .int t, .int c] ∧ PlanAt K H p zs rs ∧ Val zs rs ∧ (NewT H (effT rs.length zs rs t c) Q ∨ NewF H (effT rs.length zs rs t c) Q)
theorem ok_effectTicks (T : Bd P K mg) : FnOk P w K mg base CX0 5 T.aEffectTicks T.dEffectTicks ["plan", "time", "count"] (spEffectTicks K) := by
  have GI : FnOk P w K mg base CX0 3 T.aLap T.dLap ["self", "plan", "time"] (spLapInit K T.CLap) := ok_lapInit T
  have GR : FnOk P w K mg base CX0 3 T.aRepeated T.dRepeated ["effect", "count"] (spRepeated K) := ok_repeated T
  refine T.EffectTicks.F.ok scEffectTicks (fun vs H Q E h => ?_) (fun cdv A outer s H vs Q E hr h => ?_)
  · obtain ⟨p, t, c, zs, rs, rfl, _⟩ := h
    rfl
  · obtain ⟨p, t, c, zs, rs, rfl, hp, hv, q⟩ := h
    refine ⟨_, (pss_cons (ps_set (i := 3) scEffectTicks.nd rfl (Or.inr rfl) (pe_make T.lap.m GI hr (by rfl) T.lap.g T.lap.b .nil pass0 (pa_cons (pv 0) (pa_cons (pv 1) pa_nil))))
      (pss_cons (ps_asg (pe_callB call_divmod (by rfl) T.bt.divmod (by decide +kernel) (pa_cons (pv 2) (pa_cons (pe_fld (pv 3) rfl) pa_nil))) (pg_tup rfl (pgs_cons (pg_name (i := 4) scEffectTicks.nd rfl (.inl rfl)) (pgs_cons (pg_name (i := 5) scEffectTicks.nd rfl (.inr rfl)) pgs_nil))))
      (pss_one (ps_ret (pe_callTy mk_tupF (by rfl) T.bt.tuple b_tuple (pa_cons (pe_lc (own := [("place", 6)]) (g := gName 6) (tt := tYes) (te := tOp (rIxL K) (tOp (rIxL K) (tFld K (tVar 3) "stops") (tVar 6)) (tVar 5)) rfl scEffectTicks.nd (pi_tup (pe_call (E := E0) GR (hr.mono (by decide)) (by rfl) T.Repeated.g T.Repeated.F.kp T.Repeated.b .nil pass0 (pa_cons (pe_fld (pv 3) rfl) (pa_cons (pv 4) pa_nil)))) (blkOk_by (N := nEt) (sc := defScope sEffectTicks) (by decide +kernel)) (fun _ _ _ _ _ => pg_name (i := 6) scEffectTicks.nd rfl (Or.inl rfl)) (fun _ _ _ _ _ => pts_nil) (fun _ _ _ _ _ => pe_ix ix_list (pe_ix ix_list (pe_fld (pv 3) rfl) (pv 6) (fun _ _ => rfl)) (pv 5) (fun _ _ => rfl))) pa_nil)))))), ?_⟩
    have hN := hv.num
    obtain ⟨l1, l60⟩ := lc_le hv.r2
    refine ⟨.ref p, rfl, .int t, rfl, fun la dl n1 n2 ne => ⟨la, dl, p, t, zs, rs, rfl, upd_same, hp.same (same_of (same_upd n2) n1), hv, fun H1 o lap => ⟨rfl, ?_⟩⟩⟩
    have sm1 := same_make n1 n2 o
    obtain ⟨dx, st, le, ef, fs, srw, lrw, h1, h2, h3, h4, h5, h6, h7, h8, h9, h10⟩ := lap.ex
    refine ⟨.int c, rfl, .ref la, rfl, la, T.CLap, dx, fs, _, rfl, h1, T.lap.c, T.lap.n1, h2, c, (lc rs : Nat), rfl, ⟨by omega, by omega⟩, fun tp htp => ?_⟩
    have sm2 : Same H1 (upd H1 tp (.tup [.int (c / (lc rs : Nat)), .int (c % (lc rs : Nat))])) := same_upd htp
    have k3 : (upd H1 tp (.tup [.int (c / (lc rs : Nat)), .int (c % (lc rs : Nat))])) tp = some (.tup [.int (c / (lc rs : Nat)), .int (c % (lc rs : Nat))]) := upd_same
    generalize upd H1 tp (.tup [.int (c / (lc rs : Nat)), .int (c % (lc rs : Nat))]) = H3 at sm2 k3 ⊢
    refine ⟨tp, _, rfl, .inl (.inl k3), rfl, _, _, rfl, _, _, rfl, rfl, ?_⟩
    have wl := wh_len rs.length zs rs t
    have m0 := Int.emod_nonneg c (show ((lc rs : Nat) : Int) ≠ 0 by omega)
    have m1 := Int.emod_lt_of_pos c (show (0 : Int) < ((lc rs : Nat) : Int) by omega)
    obtain ⟨r, hr1⟩ : ∃ r : Nat, c % ((lc rs : Nat) : Int) = (r : Int) := ⟨_, (Int.toNat_of_nonneg m0).symm⟩
    refine ⟨.ref la, rfl, la, T.CLap, dx, fs, _, rfl, sm2 _ _ h1, T.lap.c, T.lap.n4, h5, .int (c / (lc rs : Nat)), rfl, ef, wh rs.length zs rs t, c / (lc rs : Nat), rfl, .inl (.inl (sm2 _ _ h10)), wh_eff .., by omega, fun H4 w1 sm4 nw1 kw1 => ?_⟩
    have smA := sm2.trans sm4
    have ee : effT rs.length zs rs t c = comp (rep (wh rs.length zs rs t) (c / (lc rs : Nat))) (fwd rs.length zs rs t r) := by
      unfold effT
      rw [hr1, Int.toNat_natCast]
    have rl := rep_len (wh rs.length zs rs t) (c / (lc rs : Nat))
    have re := rep_eff (wh_eff rs.length zs rs t) (c / (lc rs : Nat))
    have hsl := rowV_len h7
    have esl : (stopsV rs.length zs rs t (lc rs)).length = rs.length + sumN zs := by unfold stopsV; rw [List.length_map, List.length_range]
    have eln := effT_len rs.length zs rs t c
    rw [hr1]
    refine ⟨w1, rfl, ⟨_, .inl (.inl kw1)⟩, fun D hD => lc_tup (xs := vN (rep (wh rs.length zs rs t) (c / (lc rs : Nat)))) (fun k H' => Same H4 H' ∧ H' D = some (.lst (vN ((effT rs.length zs rs t c).take k)))) ⟨same_upd hD, upd_same⟩
      (fun k H' _ h => .inl (.inl (h.1 _ _ kw1))) (fun k y H' hy ⟨sm, kD⟩ => ?_) (fun H' ⟨sm, kD⟩ => ?_)⟩
    · obtain ⟨hk, rfl⟩ := vN_lt hy
      have ho := ap_lt re hk
      have smB := smA.trans sm
      generalize hoo : ap (rep (wh rs.length zs rs t) (c / (lc rs : Nat))) k = o at ho ⊢
      obtain ⟨q1, hq1⟩ : ∃ q1, srw[o]? = some q1 := ⟨_, List.getElem?_eq_getElem (by omega)⟩
      obtain ⟨s1, es1, kq1⟩ := rowV_at (rowV_imp (fun q _ o ho => smB _ _ ho) h7) hq1
      unfold stopsV at es1
      rw [List.getElem?_map, List.getElem?_range (by omega)] at es1
      obtain rfl := Option.some.inj es1
      have hV : (srw.map V.ref)[o]? = some (.ref q1) := by rw [List.getElem?_map, hq1]; rfl
      have hS : (stopV rs.length zs rs t (lc rs) o)[r]? = some (.int (ap (fwd rs.length zs rs t r) o : Nat)) := by
        unfold stopV
        rw [List.getElem?_map, List.getElem?_range (by omega)]
        rfl
      refine ⟨rfl, yes_go ⟨.ref la, rfl, la, T.CLap, dx, fs, _, rfl, smB _ _ h1, T.lap.c, T.lap.n2, h3, .int (o : Nat), rfl, st, _, _, .ref q1, rfl, rfl, .inl (.inl (smB _ _ h6)), atI_nat hV, .int (r : Nat), rfl, q1, _, _, _, rfl, rfl, .inl (.inl kq1), atI_nat hS, _, kD, ?_, same_of sm hD, ?_⟩⟩
      · rw [vN_len, List.length_take]
        exact small1000 (by omega)
      · have e1 : ap (effT rs.length zs rs t c) k = ap (fwd rs.length zs rs t r) o := by
          rw [ee, comp_ap hk, hoo]
        rw [upd_same, vN_snoc (by omega), e1]
    · rw [vN_len, rl, wl, ← eln, List.take_length] at kD
      refine ⟨D, _, rfl, .inl (.inl kD), ?_⟩
      have smZ := (sm1.trans smA).trans sm
      rcases q with q | q
      · exact .inl fun l hl => q _ l (smZ.trans (same_upd hl)) (Same.free smZ hl) upd_same
      · exact .inr fun l o hl hd => q _ l o (smZ.trans (same_upd hl)) (Same.free smZ hl) upd_same hd
theorem scEffectOf : FnScope ["plan", "time", "count"] ["plan", "time", "count"] (defScope sEffectOf) := ⟨rfl, rfl, rfl, by decide +kernel, rfl, by decide +kernel, by decide +kernel⟩
def spEffectOf (K : PySem.W.Frag) (C CC : Addr) : Sp := fun vs H Q E => ∃ (p : Addr) (t c : Int) (zs : List Int) (rs : List Ro), vs = [.ref p, .int t, .int c] ∧ PlanAt K H p zs rs ∧ Small zs rs ∧ (bad zs rs = none → CtOk c → NewT H (effT rs.length zs rs t c) Q) ∧
  BadE C zs rs H E ∧ (bad zs rs = none → ¬ CtOk c → ∀ H', Same H H' → E (.ref CC) none H')
theorem ok_effectOf (T : Bd P K mg) : FnOk P w K mg base (L2.CX P w) 6 T.aEffectOf T.dEffectOf ["plan", "time", "count"] (spEffectOf K T.C T.CC) := by
  have GP : FnOk P w K mg base (L2.CX P w) 4 T.aCheckPlan T.dCheckPlan ["plan"] (spCheckPlan K T.C) := ok_checkPlan T
  have GC : FnOk P w K mg base (L2.CX P w) 3 T.aCheckCount T.dCheckCount ["count"] (spCheckCount T.CC) := ok_checkCount T
  have GF : FnOk P w K mg base CX0 5 T.aEffectTicks T.dEffectTicks ["plan", "time", "count"] (spEffectTicks K) := ok_effectTicks T
  refine T.EffectOf.F.okX scEffectOf (fun vs H Q E h => ?_) (fun cdv A outer s H vs Q E hr h => ?_)
  · obtain ⟨p, t, c, zs, rs, rfl, _⟩ := h
    rfl
  · obtain ⟨p, t, c, zs, rs, rfl, hp, hs, q1, q2, q3⟩ := h
    refine ⟨_, (pss_cons (ps_expr (pe_call (E := E) GP (hr.mono (by decide)) (by rfl) T.CheckPlan.g T.CheckPlan.F.kp T.CheckPlan.b .nil (passes_call (takes_of rfl rfl rfl rfl) fun _ _ _ _ h => h) (pa_cons (pv 0) pa_nil)))
      (pss_cons (ps_expr (pe_call (E := E) GC (hr.mono (by decide)) (by rfl) T.CheckCount.g T.CheckCount.F.kp T.CheckCount.b .nil (passes_call (takes_of rfl rfl rfl rfl) fun _ _ _ _ h => h) (pa_cons (pv 2) pa_nil)))
      (pss_one (ps_ret (pe_call (E := E0) GF hr (by rfl) T.EffectTicks.g T.EffectTicks.F.kp T.EffectTicks.b .nil pass0 (pa_cons (pv 0) (pa_cons (pv 1) (pa_cons (pv 2) pa_nil)))))))), ?_⟩
    refine ⟨.ref p, rfl, p, zs, rs, rfl, hp, hs, fun e1 H1 sm1 => ?_, q2⟩
    refine ⟨.int c, rfl, c, rfl, fun hc => ?_, fun hc => q3 e1 hc H1 sm1⟩
    exact ⟨.ref p, rfl, .int t, rfl, .int c, rfl, p, t, c, zs, rs, rfl, hp.same sm1, val_of e1, .inl ((q1 e1 hc).imp sm1)⟩
end
end Sv
set_option maxHeartbeats 4000000
set_option maxHeartbeats 4000000
set_option maxHeartbeats 4000000
namespace Sv
open PySem PySem.Spec PyProof.Rows L2
abbrev TimeOk (t : Int) : Prop := -1000000000000000000000000000000 ≤ t ∧ t ≤ 1000000000000000000000000000000
def OkP (ns : List Int) : Prop := (∀ x ∈ ns, 1 ≤ x ∧ x ≤ 999) ∧ ns.Nodup
instance (ns : List Int) : Decidable (OkP ns) := by unfold OkP; infer_instance
instance (n : Nat) (zs : List Int) (L : Lay Int) : Decidable (Fits n zs L) := by unfold Fits; infer_instance
structure StOk (zs : List Int) (rs : List Ro) (t : Int) (L : Lay Int) : Prop where
  t : TimeOk t
  f : Fits rs.length zs L
  p : OkP (join L)
instance (zs : List Int) (rs : List Ro) (t : Int) (L : Lay Int) : Decidable (StOk zs rs t L) :=
  if h : TimeOk t ∧ Fits rs.length zs L ∧ OkP (join L) then isTrue ⟨h.1, h.2.1, h.2.2⟩ else isFalse fun z => h ⟨z.t, z.f, z.p⟩
/-- a state in its place -/
structure StateAt (K : PySem.W.Frag) (H : Hp) (s : Addr) (t : Int) (L : Lay Int) : Prop where
  ex : ∃ ca sh : Addr, SqT K H s [.int t, .ref ca, .ref sh] ∧ LayT K H ca sh L.1 L.2
theorem StateAt.imp {K : PySem.W.Frag} {H H' : Hp} {s : Addr} {t : Int} {L : Lay Int} (x : StateAt K H s t L) (e : ∀ a xs, SqT K H a xs → SqT K H' a xs) : StateAt K H' s t L := by
  obtain ⟨ca, sh, h1, h2⟩ := x.ex
  exact ⟨ca, sh, e _ _ h1, h2.imp e⟩
theorem StateAt.same {K : PySem.W.Frag} {H H' : Hp} {s : Addr} {t : Int} {L : Lay Int} (x : StateAt K H s t L) (e : Same H H') : StateAt K H' s t L := x.imp fun _ _ => sqT_same e
/-- not too long to be looked at -/
def LSm (L : Lay Int) : Prop := L.1.length ≤ 1000 ∧ L.2.length ≤ 1000 ∧ ∀ s ∈ L.2, s.length ≤ 1000
section
variable {P : Program} {w : World} {K : PySem.W.Frag} {mg : Str → Option Value} {base : Heap}
theorem int_eqV (a b : Int) : decide (V.int a = V.int b) = decide (a = b) := by
  by_cases h : a = b
  · rw [decide_eq_true h, decide_eq_true (by rw [h])]
  · rw [decide_eq_false h, decide_eq_false fun z => h (V.int.inj z)]
end
end Sv
set_option maxHeartbeats 4000000
set_option maxHeartbeats 4000000
namespace Sv
open PySem PySem.Spec PyProof.Rows L2
section
variable {P : Program} {w : World} {K : PySem.W.Frag} {mg : Str → Option Value} {base : Heap}
theorem NewL.imp {H H1 : Hp} {l : List Int} {Q : VK} (h : NewL H l Q) (e : Same H H1) : NewL H1 l Q := fun H' f sm hf => h H' f (e.trans sm) (Same.free e hf)
/-- a new state -/
def NewSt (K : PySem.W.Frag) (H : Hp) (t : Int) (L : Lay Int) (Q : VK) : Prop := ∀ H' s, Same H H' → H s = none → StateAt K H' s t L → Q (.ref s) H'
theorem NewSt.imp {K : PySem.W.Frag} {H H1 : Hp} {t : Int} {L : Lay Int} {Q : VK} (h : NewSt K H t L Q) (e : Same H H1) : NewSt K H1 t L Q := fun H' s sm hs => h H' s (e.trans sm) (Same.free e hs)
end
end Sv
set_option maxHeartbeats 4000000
namespace Sv
open PySem PySem.Spec PyProof.Rows L2
section
variable {P : Program} {w : World} {K : PySem.W.Frag} {mg : Str → Option Value} {base : Heap}
def spPlanG (K : PySem.W.Frag) : Sp := fun vs H Q _ => ∃ (h l : Addr) (ns nc : Int), vs = [.ref h, .int ns, .int nc] ∧ LawH H h l ∧ (1 ≤ ns ∧ ns ≤ 12) ∧ (1 ≤ nc ∧ nc ≤ 6) ∧ ∀ H' p zs rs, St h l H H' → PlanAt K H' p zs rs → Val zs rs → (zs.length : Int) ≤ ns → (rs.length : Int) ≤ nc → Q (.ref p) H'
theorem ok_planG (T : Bd P K mg) : FnOk P w K mg base CX0 2 T.aLPlan T.dLPlan ["_law_h", "_law_shelves", "_law_carriers"] (spPlanG K) := by
  have GN : FnOk P w K mg base CX0 1 T.aLNext T.dLNext ["_law_h", "_law_limit"] qNext := by unfold qNext; exact ok_next T.LNext.F T.bt
  refine T.LPlan.F.ok scPlan (fun vs H Q E h => ?_) (fun cdv A outer s H vs Q E hr h => ?_)
  · obtain ⟨h, l, ns, nc, rfl, _⟩ := h
    rfl
  · obtain ⟨h, l, ns, nc, rfl, LH, hns, hnc, q⟩ := h
    have p64 : (1000 : Int) < 2 ^ 64 := by decide
    have p62 : (1000 : Int) < 2 ^ 62 := by decide
    refine ⟨_, pss_cons (ps_set (i := 3) scPlan.nd rfl (Or.inl rfl) (pe_lst pa_nil))
      (pss_cons (ps_for PassesOwn.never rfl (pi_range1 (by rfl) T.bt.range (pa_cons (pe_op op_add pe_int (pe_call (E := E0) GN hr (by rfl) T.LNext.g T.LNext.F.kp T.LNext.b .nil pass0 (pa_cons (pv 0) (pa_cons (pv 1) pa_nil)))) pa_nil)) (pg_name (i := 4) scPlan.nd rfl (Or.inl rfl))
        (pss_one (ps_expr (pe_bm PySem.F.plainAttrs_list PySem.F.slot_list_append PySem.F.type_list_append mt_append (pv 3) (pa_cons (pe_ix ix_list (pe_lst (pa_cons (pe_call (E := E0) GN hr (by rfl) T.LNext.g T.LNext.F.kp T.LNext.b .nil pass0 (pa_cons (pv 0) (pa_cons pe_int pa_nil))) (pa_cons (pe_call (E := E0) GN hr (by rfl) T.LNext.g T.LNext.F.kp T.LNext.b .nil pass0 (pa_cons (pv 0) (pa_cons pe_int pa_nil))) pa_nil)))
          (pe_op op_fdiv (pe_call (E := E0) GN hr (by rfl) T.LNext.g T.LNext.F.kp T.LNext.b .nil pass0 (pa_cons (pv 0) (pa_cons pe_int pa_nil))) pe_int) (fun _ _ => rfl)) pa_nil)))))
      (pss_cons (ps_set (i := 5) scPlan.nd rfl (Or.inl rfl) (pe_lst pa_nil))
      (pss_cons (ps_for PassesOwn.never rfl (pi_range1 (by rfl) T.bt.range (pa_cons (pe_op op_add pe_int (pe_call (E := E0) GN hr (by rfl) T.LNext.g T.LNext.F.kp T.LNext.b .nil pass0 (pa_cons (pv 0) (pa_cons (pv 2) pa_nil)))) pa_nil)) (pg_name (i := 6) scPlan.nd rfl (Or.inl rfl))
        (pss_cons (ps_set (i := 7) scPlan.nd rfl (Or.inl rfl) (pe_lst pa_nil))
        (pss_cons (ps_for PassesOwn.never rfl (pi_range1 (by rfl) T.bt.range (pa_cons (pe_op op_add pe_int (pe_call (E := E0) GN hr (by rfl) T.LNext.g T.LNext.F.kp T.LNext.b .nil pass0 (pa_cons (pv 0) (pa_cons (pe_ix ix_list (pe_lst (pa_cons pe_int (pa_cons pe_int pa_nil))) (pe_call (E := E0) GN hr (by rfl) T.LNext.g T.LNext.F.kp T.LNext.b .nil pass0 (pa_cons (pv 0) (pa_cons pe_int pa_nil))) (fun _ _ => rfl)) pa_nil)))) pa_nil)) (pg_name (i := 8) scPlan.nd rfl (Or.inl rfl))
          (pss_one (ps_expr (pe_bm PySem.F.plainAttrs_list PySem.F.slot_list_append PySem.F.type_list_append mt_append (pv 7) (pa_cons (pe_ifExp (pt_cmpR op_eq (pe_call (E := E0) GN hr (by rfl) T.LNext.g T.LNext.F.kp T.LNext.b .nil pass0 (pa_cons (pv 0) (pa_cons pe_int pa_nil))) pe_int (nomark _)) pe_non
            (pe_call (E := E0) GN hr (by rfl) T.LNext.g T.LNext.F.kp T.LNext.b .nil pass0 (pa_cons (pv 0) (pa_cons (pe_callB call_len_seq (by rfl) T.bt.len b_len (pa_cons (pv 3) pa_nil)) pa_nil)))) pa_nil)))))
        (pss_one (ps_expr (pe_bm PySem.F.plainAttrs_list PySem.F.slot_list_append PySem.F.type_list_append mt_append (pv 5) (pa_cons (pe_callTy call_tuple_of (by rfl) T.bt.tuple b_tuple (pa_cons (pv 7) pa_nil)) pa_nil)))))))
      (pss_one (ps_ret (pe_tup (pa_cons (pe_callTy call_tuple_of (by rfl) T.bt.tuple b_tuple (pa_cons (pv 3) pa_nil)) (pa_cons (pe_callTy call_tuple_of (by rfl) T.bt.tuple b_tuple (pa_cons (pv 5) pa_nil)) pa_nil)))))))), ?_⟩
    refine ⟨Nat.zero_le _, fun fs hfs => ?_⟩
    obtain ⟨fh, fl⟩ := LH.nh hfs
    have S1 := (St.refl LH).upd (o := .lst []) hfs fh fl
    have k1 : (upd H fs (.lst [])) fs = some (.lst []) := upd_same
    generalize upd H fs (.lst []) = H1 at S1 k1 ⊢
    -- the sizes
    refine ⟨.ref h, rfl, .int ns, rfl, ?_⟩
    show qNext _ _ _ _
    refine go_next S1.law (by omega) (by omega) fun n1 H2 hn1 L2 x2 => ⟨1, n1, rfl, rfl, _, rfl, by omega, by omega, ?_⟩
    refine for_range (lo := 0) (n := ((1 : Int) + (n1 : Nat)).toNat) (fun i σ H' => (∃ y4, σ = [some (.ref h), some (.int ns), some (.int nc), some (.ref fs), y4, none, none, none, none]) ∧ St h l H H' ∧ ∃ zs : List Int, zs.length = i ∧ (∀ z ∈ zs, 0 ≤ z ∧ z ≤ 9) ∧ H' fs = some (.lst (zs.map V.int)))
      ⟨⟨none, rfl⟩, S1.next L2 x2, [], rfl, fun z hz => (List.not_mem_nil hz).elim, x2 _ _ fh fl k1⟩ (fun i σ H' hi ⟨⟨y4, es⟩, S, zs, zl, hz, kf⟩ => ?_) (fun σ H' ⟨⟨y4, es⟩, S, zs, zl, hz, kf⟩ => ?_)
    · subst es
      have hi12 : i < 12 := by omega
      refine ⟨.ref fs, rfl, .inl ⟨rfl, _, .inl (.inl kf)⟩, .ref h, rfl, ?_⟩
      show qNext _ _ _ _
      refine go_next S.law (by decide) (by decide) fun a H3 ha L3 x3 => ⟨.ref h, rfl, ?_⟩
      have S3 := S.next L3 x3
      show qNext _ _ _ _
      refine go_next S3.law (by decide) (by decide) fun b H4 hb L4 x4 => ⟨(by show 2 ≤ sizeLine; decide), fun D hD => ⟨.ref h, rfl, ?_⟩⟩
      have S4 := S3.next L4 x4
      obtain ⟨Dh, Dl⟩ := L4.nh hD
      have S5 := S4.same (same_upd (o := .lst [.int (a : Nat), .int (b : Nat)]) hD)
      have kD : (upd H4 D (.lst [.int (a : Nat), .int (b : Nat)])) D = some (.lst [.int (a : Nat), .int (b : Nat)]) := upd_same
      have kf5 := (same_upd (o := .lst [.int (a : Nat), .int (b : Nat)]) hD) _ _ (x4 _ _ fh fl (x3 _ _ fh fl kf))
      generalize upd H4 D (.lst [.int (a : Nat), .int (b : Nat)]) = H5 at S5 kD kf5 ⊢
      show qNext _ _ _ _
      refine go_next S5.law (by decide) (by decide) fun c H6 hc L6 x6 => ⟨c, 4, rfl, rfl, ⟨by decide, by decide⟩, ?_⟩
      have S6 := S5.next L6 x6
      have kD6 := x6 _ _ Dh Dl kD
      have kf6 := x6 _ _ fh fl kf5
      obtain ⟨z, hz0, hat⟩ : ∃ z : Int, (0 ≤ z ∧ z ≤ 9) ∧ atI [V.int (a : Nat), V.int (b : Nat)] ((c : Int) / 4) = some (.int z) := by
        have : c = 0 ∨ c = 1 ∨ c = 2 ∨ c = 3 ∨ c = 4 := by omega
        rcases this with rfl | rfl | rfl | rfl | rfl
        · exact ⟨a, ⟨by omega, by omega⟩, rfl⟩
        · exact ⟨a, ⟨by omega, by omega⟩, rfl⟩
        · exact ⟨a, ⟨by omega, by omega⟩, rfl⟩
        · exact ⟨a, ⟨by omega, by omega⟩, rfl⟩
        · exact ⟨b, ⟨by omega, by omega⟩, rfl⟩
      refine ⟨D, _, _, _, rfl, rfl, .inl (.inl kD6), hat, fs, _, _, rfl, rfl, kf6, ?_, ⟨_, rfl⟩, S6.upd hfs fh fl, zs ++ [z], by rw [List.length_append, zl]; rfl, fun y hy => ?_, ?_⟩
      · rw [List.length_map]
        exact small1000 (by omega)
      · rcases List.mem_append.mp hy with hy | hy
        · exact hz y hy
        · rw [List.mem_singleton.mp hy]
          exact hz0
      · rw [upd_same, List.map_append]
        rfl
    subst es
    have zl12 : 1 ≤ zs.length ∧ zs.length ≤ 12 := by rw [zl]; omega
    -- the routes
    refine ⟨Nat.zero_le _, fun fr hfr => ?_⟩
    obtain ⟨rh, rl⟩ := S.law.nh hfr
    have nfr := S.none hfr
    have S7 := S.same (same_upd (o := .lst []) hfr)
    have kr : (upd H' fr (.lst [])) fr = some (.lst []) := upd_same
    have kf7 := (same_upd (o := .lst []) hfr) _ _ kf
    generalize upd H' fr (.lst []) = H7 at S7 kr kf7 ⊢
    refine ⟨.ref h, rfl, .int nc, rfl, ?_⟩
    show qNext _ _ _ _
    refine go_next S7.law (by omega) (by omega) fun n2 H8 hn2 L8 x8 => ⟨1, n2, rfl, rfl, _, rfl, by omega, by omega, ?_⟩
    refine for_range (lo := 0) (n := ((1 : Int) + (n2 : Nat)).toNat) (fun i σ H' => (∃ y4 y6 y7 y8, σ = [some (.ref h), some (.int ns), some (.int nc), some (.ref fs), y4, some (.ref fr), y6, y7, y8]) ∧ St h l H H' ∧ H' fs = some (.lst (zs.map V.int)) ∧
        ∃ (qs : List Addr) (rs : List Ro), rs.length = i ∧ H' fr = some (.lst (qs.map V.ref)) ∧ Paired (fun q r => SqT K H' q (rV r)) qs rs ∧ ∀ r ∈ rs, (1 ≤ r.length ∧ r.length ≤ 6) ∧ ∀ e ∈ r, okE zs.length e = true)
      ⟨⟨_, _, _, _, rfl⟩, S7.next L8 x8, x8 _ _ fh fl kf7, [], [], rfl, x8 _ _ rh rl kr, .nil, fun r hr => (List.not_mem_nil hr).elim⟩ (fun i σ H9 hi ⟨⟨y4, y6, y7, y8, es⟩, S9, kf9, qs, rs, rl9, kr9, hP, hR⟩ => ?_) (fun σ H9 ⟨⟨y4, y6, y7, y8, es⟩, S9, kf9, qs, rs, rl9, kr9, hP, hR⟩ => ?_)
    · subst es
      have hi6 : i < 6 := by omega
      refine ⟨Nat.zero_le _, fun fe hfe => ?_⟩
      obtain ⟨eh, el⟩ := S9.law.nh hfe
      have ef : fe ≠ fs := (ne_of_none kf9 hfe).symm
      have er : fe ≠ fr := (ne_of_none kr9 hfe).symm
      have T10 := (St.refl S9.law).upd (o := .lst []) hfe eh el
      have ke : (upd H9 fe (.lst [])) fe = some (.lst []) := upd_same
      generalize upd H9 fe (.lst []) = H10 at T10 ke ⊢
      refine ⟨.ref h, rfl, (by show 2 ≤ sizeLine; decide), fun D hD => ⟨.ref h, rfl, ?_⟩⟩
      obtain ⟨Dh, Dl⟩ := T10.law.nh hD
      have T11 := T10.same (same_upd (o := .lst [.int 3, .int 6]) hD)
      have kD : (upd H10 D (.lst [.int 3, .int 6])) D = some (.lst [.int 3, .int 6]) := upd_same
      have ke11 := (same_upd (o := .lst [.int 3, .int 6]) hD) _ _ ke
      generalize upd H10 D (.lst [.int 3, .int 6]) = H11 at T11 kD ke11 ⊢
      show qNext _ _ _ _
      refine go_next T11.law (by decide) (by decide) fun u H12 hu L12 x12 => ?_
      have T12 := T11.next L12 x12
      obtain ⟨lim, l1, l2, hat⟩ : ∃ lim : Int, 0 < lim ∧ lim ≤ 6 ∧ atI [V.int 3, V.int 6] (u : Nat) = some (.int lim) := by
        have : u = 0 ∨ u = 1 := by omega
        rcases this with rfl | rfl
        · exact ⟨3, by decide, by decide, rfl⟩
        · exact ⟨6, by decide, by decide, rfl⟩
      refine ⟨D, _, _, _, rfl, rfl, .inl (.inl (x12 _ _ Dh Dl kD)), hat, ?_⟩
      show qNext _ _ _ _
      have p64 : (1000 : Int) < 2 ^ 64 := by decide
      refine go_next T12.law l1 (by omega) fun n3 H13 hn3 L13 x13 => ⟨1, n3, rfl, rfl, _, rfl, by omega, by omega, ?_⟩
      have T13 := T12.next L13 x13
      have ke13 := x13 _ _ eh el (x12 _ _ eh el ke11)
      refine for_range (lo := 0) (n := ((1 : Int) + (n3 : Nat)).toNat) (fun j σ H' => (∃ y8, σ = [some (.ref h), some (.int ns), some (.int nc), some (.ref fs), y4, some (.ref fr), some (.int (0 + (i : Nat))), some (.ref fe), y8]) ∧ St h l H9 H' ∧ ∃ r : Ro, r.length = j ∧ H' fe = some (.lst (rV r)) ∧ ∀ e ∈ r, okE zs.length e = true)
        ⟨⟨_, rfl⟩, T13, [], rfl, ke13, fun e he => (List.not_mem_nil he).elim⟩ (fun j σ H14 hj ⟨⟨y8, es⟩, T14, r, rlen, ke14, hre⟩ => ?_) (fun σ H14 ⟨⟨y8, es⟩, T14, r, rlen, ke14, hre⟩ => ?_)
      · subst es
        have hj6 : j < 6 := by omega
        refine ⟨.ref fe, rfl, .inl ⟨rfl, _, .inl (.inl ke14)⟩, .ref h, rfl, ?_⟩
        show qNext _ _ _ _
        refine go_next T14.law (by decide) (by decide) fun v H15 hv L15 x15 => ⟨rfl, _, rfl, ?_⟩
        have T15 := T14.next L15 x15
        have ke15 := x15 _ _ eh el ke14
        by_cases hv0 : v = 0
        · rw [decide_eq_true (by rw [hv0]; rfl)]
          refine iteT ⟨fe, _, _, rfl, rfl, ke15, ?_, ⟨_, rfl⟩, T15.upd hfe eh el, r ++ [none], by rw [List.length_append, rlen]; rfl, ?_, fun x hx => ?_⟩
          · rw [rV_len]
            exact small1000 (by omega)
          · rw [upd_same]
            unfold rV
            rw [List.map_append]
            rfl
          · rcases List.mem_append.mp hx with hx | hx
            · exact hre x hx
            · rw [List.mem_singleton.mp hx]
              rfl
        · rw [decide_eq_false fun z => hv0 (by have := V.int.inj z; omega)]
          have kf15 := T15.k _ _ fh fl kf9
          refine iteF ⟨.ref h, rfl, .ref fs, rfl, fs, _, rfl, .inl (.inl (.inl kf15)), ?_⟩
          rw [List.length_map]
          show qNext _ _ _ _
          refine go_next T15.law (by omega) (by omega) fun e H16 he L16 x16 => ?_
          have T16 := T15.next L16 x16
          refine ⟨fe, _, _, rfl, rfl, x16 _ _ eh el ke15, ?_, ⟨_, rfl⟩, T16.upd hfe eh el, r ++ [some (e : Int)], by rw [List.length_append, rlen]; rfl, ?_, fun x hx => ?_⟩
          · rw [rV_len]
            exact small1000 (by omega)
          · rw [upd_same]
            unfold rV
            rw [List.map_append]
            rfl
          · rcases List.mem_append.mp hx with hx | hx
            · exact hre x hx
            · rw [List.mem_singleton.mp hx]
              exact decide_eq_true ⟨by omega, by omega⟩
      · subst es
        have kr14 := T14.k _ _ rh rl kr9
        refine ⟨.ref fr, rfl, .inl ⟨rfl, _, .inl (.inl kr14)⟩, .ref fe, rfl, fe, _, rfl, .inl ⟨.inl (.inl ke14), fun t ht => ?_⟩⟩
        have U15 := T14.same (same_upd (o := .tup (rV r)) ht)
        have kt : (upd H14 t (.tup (rV r))) t = some (.tup (rV r)) := upd_same
        generalize upd H14 t (.tup (rV r)) = H15 at U15 kt ⊢
        have kr15 := U15.k _ _ rh rl kr9
        have kf15 := U15.k _ _ fh fl kf9
        have hql : qs.length = i := by rw [paired_len hP, rl9]
        refine ⟨fr, _, _, rfl, rfl, kr15, ?_, ⟨_, _, _, _, rfl⟩, (S9.trans U15).upd nfr rh rl, ?_, qs ++ [t], rs ++ [r], by rw [List.length_append, rl9]; rfl, ?_, ?_, fun x hx => ?_⟩
        · rw [List.length_map]
          exact small1000 (by omega)
        · rw [upd_ne (ne_of_none kf hfr)]
          exact kf15
        · rw [upd_same, List.map_append]
          rfl
        · exact paired_snoc (sqT_lst kr15 (.inl (.inl kt))) (paired_imp (fun a xs s => sqT_lst kr15 (sqT_x S9.law U15.k s)) hP)
        · rcases List.mem_append.mp hx with hx | hx
          · exact hR x hx
          · rw [List.mem_singleton.mp hx]
            exact ⟨by rw [rlen]; omega, hre⟩
    subst es
    refine ⟨.ref fs, rfl, fs, _, rfl, .inl ⟨.inl (.inl kf9), fun a ha => ?_⟩⟩
    have ma : Same H9 (upd H9 a (.tup (zs.map V.int))) := same_upd ha
    have ka : (upd H9 a (.tup (zs.map V.int))) a = some (.tup (zs.map V.int)) := upd_same
    generalize upd H9 a (.tup (zs.map V.int)) = Ha at ma ka ⊢
    refine ⟨.ref fr, rfl, fr, _, rfl, .inl ⟨.inl (.inl (ma _ _ kr9)), fun b hb => ?_⟩⟩
    have mb : Same Ha (upd Ha b (.tup (qs.map V.ref))) := same_upd hb
    have kb : (upd Ha b (.tup (qs.map V.ref))) b = some (.tup (qs.map V.ref)) := upd_same
    generalize upd Ha b (.tup (qs.map V.ref)) = Hb at mb kb ⊢
    refine ⟨(by show 2 ≤ sizeLine; decide), fun p hp => ?_⟩
    have mp : Same Hb (upd Hb p (.tup [.ref a, .ref b])) := same_upd hp
    refine q _ p zs rs (((S9.same ma).same mb).same mp) ⟨a, b, .inl (.inl upd_same), .inl (.inl (mp _ _ (mb _ _ ka))), qs, .inl (.inl (mp _ _ kb)), paired_same ((ma.trans mb).trans mp) hP⟩ ⟨⟨zl12, hz, ?_, fun r hr => (hR r hr).1⟩, fun r hr => (hR r hr).2⟩ ?_ ?_
    · rw [rl9]
      omega
    · rw [zl]
      omega
    · rw [rl9]
      omega
end
end Sv
set_option maxHeartbeats 4000000
namespace Sv
open PySem PySem.Spec PyProof.Rows L2
theorem cop997 : ∀ s : Fin 997, s = 0 ∨ Nat.gcd 997 s = 1 := by decide +kernel
theorem far997 {s d : Nat} (h1 : 1 ≤ s) (h2 : s ≤ 996) (d1 : 1 ≤ d) (d2 : d < 997) : (s * d) % 997 ≠ 0 := fun z => by
  have c : Nat.Coprime 997 s := by
    rcases cop997 ⟨s, by omega⟩ with q | q
    · have := congrArg Fin.val q
      simp at this
      omega
    · exact q
  have := Nat.le_of_dvd d1 (c.dvd_of_dvd_mul_left (Nat.dvd_of_mod_eq_zero z))
  omega
/-- the parcel with the number k -/
def prcl (a s : Nat) (k : Nat) : Int := 1 + (((a + s * k) % 997 : Nat) : Int)
def prcls (a s n : Nat) : List Int := (List.range n).map (prcl a s)
theorem prcls_len (a s n : Nat) : (prcls a s n).length = n := by unfold prcls; simp
theorem prcls_succ (a s n : Nat) : prcls a s (n + 1) = prcls a s n ++ [prcl a s n] := by
  unfold prcls
  rw [List.range_succ, List.map_append]
  rfl
theorem prcl_ne {a s i j : Nat} (h1 : 1 ≤ s) (h2 : s ≤ 996) (hij : i < j) (hj : j < 997) : prcl a s i ≠ prcl a s j := fun e => by
  unfold prcl at e
  have e2 : (a + s * i) % 997 = (a + s * j) % 997 := by omega
  have e3 : s * j = s * i + s * (j - i) := by rw [← Nat.mul_add]; congr 1; omega
  rw [e3] at e2
  exact far997 (s := s) (d := j - i) h1 h2 (by omega) (by omega) (by omega)
theorem prcls_le {a s n : Nat} : ∀ x ∈ prcls a s n, x ≤ 997 := fun x hx => by
  obtain ⟨k, _, rfl⟩ := List.mem_map.mp hx
  unfold prcl
  have := Nat.mod_lt (a + s * k) (show 997 > 0 by decide)
  omega
theorem prcls_ok {a s n : Nat} (h1 : 1 ≤ s) (h2 : s ≤ 996) (hn : n ≤ 997) : OkP (prcls a s n) := by
  refine ⟨fun x hx => ?_, ?_⟩
  · obtain ⟨k, _, rfl⟩ := List.mem_map.mp hx
    unfold prcl
    have := Nat.mod_lt (a + s * k) (by decide : 0 < 997)
    omega
  · refine List.pairwise_iff_getElem.mpr fun i j hi hj hij => ?_
    simp only [prcls, List.getElem_map, List.getElem_range]
    rw [prcls_len] at hj
    exact prcl_ne h1 h2 hij (by omega)
section
variable {P : Program} {w : World} {K : PySem.W.Frag} {mg : Str → Option Value} {base : Heap}
def nLs : List Str := ["_law_h", "_law_plan_here", "_law_start", "_law_step_here", "_law_parcels", "_law_time", "_law_carried", "_law_shelves", "_law_spot", "_law_size", "_law_k"]
theorem scState : FnScope nLs ["_law_h", "_law_plan_here"] (defScope sState) := ⟨rfl, rfl, rfl, by decide +kernel, rfl, by decide +kernel, by decide +kernel⟩
def spState (K : PySem.W.Frag) : Sp := fun vs H Q _ => ∃ (h l p : Addr) (zs : List Int) (rs : List Ro), vs = [.ref h, .ref p] ∧ LawH H h l ∧ PlanAt K H p zs rs ∧ Val zs rs ∧
  ∀ H' s t L, St h l H H' → StateAt K H' s t L → StOk zs rs t L → (-50 ≤ t ∧ t ≤ 1000000000000000) → (∀ x ∈ join L, x ≤ 997) → Q (.ref s) H'
theorem ok_state (T : Bd P K mg) : FnOk P w K mg base CX0 2 T.aLState T.dLState ["_law_h", "_law_plan_here"] (spState K) := by
  have GN : FnOk P w K mg base CX0 1 T.aLNext T.dLNext ["_law_h", "_law_limit"] qNext := by unfold qNext; exact ok_next T.LNext.F T.bt
  refine T.LState.F.ok scState (fun vs H Q E h => ?_) (fun cdv A outer s H vs Q E hr h => ?_)
  · obtain ⟨h, l, p, zs, rs, rfl, _⟩ := h
    rfl
  · obtain ⟨h, l, p, zs, rs, rfl, LH, hp, hv, q⟩ := h
    obtain ⟨a, b, hp1, ha, hb⟩ := hp.ex
    obtain ⟨qs, hA, hP⟩ := hb.ex
    have hql := paired_len hP
    refine ⟨_, pss_cons (ps_asg (pe_tup (pa_cons (pe_call (E := E0) GN hr (by rfl) T.LNext.g T.LNext.F.kp T.LNext.b .nil pass0 (pa_cons (pv 0) (pa_cons pe_int pa_nil))) (pa_cons (pe_op op_add pe_int (pe_call (E := E0) GN hr (by rfl) T.LNext.g T.LNext.F.kp T.LNext.b .nil pass0 (pa_cons (pv 0) (pa_cons pe_int pa_nil)))) pa_nil)))
        (pg_tup rfl (pgs_cons (pg_name (i := 2) scState.nd rfl (.inr rfl)) (pgs_cons (pg_name (i := 3) scState.nd rfl (.inr rfl)) pgs_nil))))
      (pss_cons (ps_setLc (i := 4) (own := [("_law_k", 10)]) (g := gName 10) rfl scState.nd rfl rfl (sw_true rfl rfl rfl (by decide +kernel)) (pi_range1 (by rfl) T.bt.range (pa_cons (pe_op op_add (pe_callB call_len_seq (by rfl) T.bt.len b_len (pa_cons (pe_ix ix_tup (pv 1) pe_int (fun _ _ => rfl)) pa_nil)) (pe_callB (cr_sumT rfl) (by rfl) T.bt.sum b_sum (pa_cons (pe_ix ix_tup (pv 1) pe_int (fun _ _ => rfl)) pa_nil))) pa_nil))
        (blkOk_by (N := nLs) (sc := defScope sState) (by decide +kernel))
        (fun _ _ _ _ _ => pg_name (i := 10) scState.nd rfl (Or.inl rfl)) (fun _ _ _ _ _ => pts_nil) (fun _ _ _ _ _ => pe_op op_add pe_int (pe_op op_mod (pe_callTy call_int1 (by rfl) T.bt.int b_int (pa_cons (pe_op op_add (pv 2) (pe_op op_mul (pv 3) (pv 10))) pa_nil)) pe_int)))
      (pss_cons (ps_set (i := 5) scState.nd rfl (Or.inl rfl) (pe_ix ix_list (pe_lst (pa_cons pe_int (pa_cons (pe_call (E := E0) GN hr (by rfl) T.LNext.g T.LNext.F.kp T.LNext.b .nil pass0 (pa_cons (pv 0) (pa_cons pe_int pa_nil)))
          (pa_cons (pe_op op_sub pe_int (pe_call (E := E0) GN hr (by rfl) T.LNext.g T.LNext.F.kp T.LNext.b .nil pass0 (pa_cons (pv 0) (pa_cons pe_int pa_nil))))
          (pa_cons (pe_op op_sub (pe_op op_pow pe_int pe_int) (pe_call (E := E0) GN hr (by rfl) T.LNext.g T.LNext.F.kp T.LNext.b .nil pass0 (pa_cons (pv 0) (pa_cons (pe_op op_pow pe_int pe_int) pa_nil)))) pa_nil)))))
          (pe_call (E := E0) GN hr (by rfl) T.LNext.g T.LNext.F.kp T.LNext.b .nil pass0 (pa_cons (pv 0) (pa_cons pe_int pa_nil))) (fun _ _ => rfl)))
      (pss_cons (ps_par3 (i := 6) (j := 7) (l := 8) rfl scState.nd rfl rfl rfl (by decide) (by decide) (by decide) rfl rfl rfl (pa_cons (pe_callTy call_tuple_of (by rfl) T.bt.tuple b_tuple (pa_cons (pe_slice sl_list (pv 4) po_none (po_some (pe_callB call_len_seq (by rfl) T.bt.len b_len (pa_cons (pe_ix ix_tup (pv 1) pe_int (fun _ _ => rfl)) pa_nil)))) pa_nil))
          (pa_cons (pe_lst pa_nil) (pa_cons (pe_callB call_len_seq (by rfl) T.bt.len b_len (pa_cons (pe_ix ix_tup (pv 1) pe_int (fun _ _ => rfl)) pa_nil)) pa_nil))) (by rfl))
      (pss_cons (ps_for PassesOwn.never rfl (pi_tup (pe_ix ix_tup (pv 1) pe_int (fun _ _ => rfl))) (pg_name (i := 9) scState.nd rfl (Or.inl rfl))
        (pss_cons (ps_expr (pe_bm PySem.F.plainAttrs_list PySem.F.slot_list_append PySem.F.type_list_append mt_append (pv 7) (pa_cons (pe_callTy call_tuple_of (by rfl) T.bt.tuple b_tuple (pa_cons (pe_slice sl_list (pv 4) (po_some (pv 8)) (po_some (pe_op op_add (pv 8) (pv 9)))) pa_nil)) pa_nil)))
        (pss_one (ps_set (i := 8) scState.nd rfl (Or.inl rfl) (pe_op op_add (pv 8) (pv 9))))))
      (pss_one (ps_ret (pe_tup (pa_cons (pv 5) (pa_cons (pv 6) (pa_cons (pe_callTy call_tuple_of (by rfl) T.bt.tuple b_tuple (pa_cons (pv 7) pa_nil)) pa_nil)))))))))), ?_⟩
    have hn := hv.num
    have p62 : (1000 : Int) < 2 ^ 62 := by decide
    have hr6 := hv.r1
    have hz12 := hv.z1
    -- two numbers
    refine ⟨.ref h, rfl, ?_⟩
    show qNext _ _ _ _
    refine go_next LH (by decide) (by decide) fun a0 H1 ha0 L1 x1 => ⟨.ref h, rfl, ?_⟩
    have S1 := (St.refl LH).next L1 x1
    show qNext _ _ _ _
    refine go_next S1.law (by decide) (by decide) fun s0 H2 hs0 L2 x2 => ⟨1, s0, rfl, rfl, (by show 2 ≤ sizeLine; decide), fun tp htp => ?_⟩
    have S2 := S1.next L2 x2
    have S3 := S2.same (same_upd (o := .tup [.int (a0 : Nat), .int (1 + (s0 : Nat))]) htp)
    have k3 : (upd H2 tp (.tup [.int (a0 : Nat), .int (1 + (s0 : Nat))])) tp = some (.tup [.int (a0 : Nat), .int (1 + (s0 : Nat))]) := upd_same
    generalize upd H2 tp (.tup [.int (a0 : Nat), .int (1 + (s0 : Nat))]) = H3 at S3 k3 ⊢
    refine ⟨tp, _, rfl, .inl (.inl k3), rfl, _, _, rfl, _, _, rfl, rfl, ?_⟩
    -- the parcels
    have hp3 := sqT_x LH S3.k hp1
    have ha3 := sqT_x LH S3.k ha
    have hA3 := sqT_x LH S3.k hA
    refine ⟨.ref p, rfl, p, _, 1, .ref b, rfl, rfl, hp3, rfl, b, _, rfl, .inr hA3, .ref p, rfl, p, _, 0, .ref a, rfl, rfl, hp3, rfl, a, zs, rfl, ha3, _, _, rfl, rfl, ?_⟩
    rw [List.length_map, hql, sum_int fun z hz => (hv.z2 z hz).1]
    refine ⟨_, rfl, by omega, by omega, fun c hc => ?_⟩
    obtain ⟨ch, cl⟩ := S3.law.nh hc
    have en : (((rs.length : Nat) : Int) + ((sumN zs : Nat) : Int)).toNat = rs.length + sumN zs := by omega
    rw [en]
    refine lc_range (lo := 0) (n := rs.length + sumN zs) (fun i H' => Same H3 H' ∧ H' c = some (.lst ((prcls a0 (1 + s0) i).map V.int))) ⟨same_upd hc, upd_same⟩ (fun i H' hi ⟨sm, kc⟩ => ?_) (fun H4 ⟨sm, kc⟩ => ?_)
    · refine ⟨rfl, yes_go ⟨.int (a0 : Nat), rfl, .int (1 + (s0 : Nat)), rfl, .int (0 + (i : Nat)), rfl, _, _, rfl, rfl, .inl ⟨by omega, by omega⟩, _, _, rfl, rfl, .inl ⟨_, rfl, _, _, rfl, rfl, (by show (0 : Int) < 997; decide), 1, _, rfl, rfl, _, kc, ?_, same_of sm hc, ?_⟩⟩⟩
      · rw [List.length_map, prcls_len]
        exact small1000 (by omega)
      · have ev : (1 : Int) + ((a0 : Nat) + (1 + (s0 : Nat)) * (0 + (i : Nat))) % 997 = prcl a0 (1 + s0) i := by
          unfold prcl
          rw [Int.natCast_emod, Int.natCast_add, Int.natCast_mul, Int.natCast_add, Int.zero_add]
          rfl
        rw [upd_same, prcls_succ, List.map_append]
        show some (HO.lst (_ ++ [V.int ((1 : Int) + ((a0 : Nat) + (1 + (s0 : Nat)) * (0 + (i : Nat))) % 997)])) = _
        rw [ev]
        rfl
    have S4 := S3.same sm
    have po : OkP (prcls a0 (1 + s0) (rs.length + sumN zs)) := prcls_ok (by omega) (by omega) (by omega)
    have pl := prcls_len a0 (1 + s0) (rs.length + sumN zs)
    have p97 : ∀ x ∈ prcls a0 (1 + s0) (rs.length + sumN zs), x ≤ 997 := prcls_le
    generalize prcls a0 (1 + s0) (rs.length + sumN zs) = cs at kc po pl p97
    -- the time
    refine ⟨.ref h, rfl, ?_⟩
    show qNext _ _ _ _
    refine go_next S4.law (by decide) (by decide) fun u1 H5 hu1 L5 x5 => ⟨.ref h, rfl, ?_⟩
    have S5 := S4.next L5 x5
    show qNext _ _ _ _
    refine go_next S5.law (by decide) (by decide) fun u2 H6 hu2 L6 x6 => ⟨0, u2, rfl, rfl, 10, 15, rfl, rfl, ⟨by decide, by decide, by decide⟩, .ref h, rfl, 10, 15, rfl, rfl, ⟨by decide, by decide, by decide⟩, ?_⟩
    have S6 := S5.next L6 x6
    show qNext _ _ _ _
    refine go_next S6.law (by decide) (by decide) fun u3 H7 hu3 L7 x7 => ⟨_, u3, rfl, rfl, (by show 4 ≤ sizeLine; decide), fun D hD => ⟨.ref h, rfl, ?_⟩⟩
    have S7 := S6.next L7 x7
    obtain ⟨Dh, Dl⟩ := L7.nh hD
    have e15 : (10 : Int) ^ (15 : Int).toNat = 1000000000000000 := by decide
    have hu3' : (u3 : Int) < 1000000000000000 := by rw [← e15]; exact hu3
    rw [e15]
    have S8 := S7.same (same_upd (o := .lst [.int 0, .int (u1 : Nat), .int (0 - (u2 : Nat)), .int (1000000000000000 - (u3 : Nat))]) hD)
    have kD : (upd H7 D (.lst [.int 0, .int (u1 : Nat), .int (0 - (u2 : Nat)), .int (1000000000000000 - (u3 : Nat))])) D = some (.lst [.int 0, .int (u1 : Nat), .int (0 - (u2 : Nat)), .int (1000000000000000 - (u3 : Nat))]) := upd_same
    have kc7 := x7 _ _ ch cl (x6 _ _ ch cl (x5 _ _ ch cl kc))
    have kc8 := (same_upd (o := .lst [.int 0, .int (u1 : Nat), .int (0 - (u2 : Nat)), .int (1000000000000000 - (u3 : Nat))]) hD) _ _ kc7
    generalize upd H7 D (.lst [.int 0, .int (u1 : Nat), .int (0 - (u2 : Nat)), .int (1000000000000000 - (u3 : Nat))]) = H8 at S8 kD kc8 ⊢
    show qNext _ _ _ _
    refine go_next S8.law (by decide) (by decide) fun u4 H9 hu4 L9 x9 => ?_
    have S9 := S8.next L9 x9
    have kD9 := x9 _ _ Dh Dl kD
    have kc9 := x9 _ _ ch cl kc8
    obtain ⟨t, ht, hat⟩ : ∃ t : Int, (-50 ≤ t ∧ t ≤ 1000000000000000) ∧ atI [V.int 0, V.int (u1 : Nat), V.int (0 - (u2 : Nat)), V.int (1000000000000000 - (u3 : Nat))] (u4 : Nat) = some (.int t) := by
      have : u4 = 0 ∨ u4 = 1 ∨ u4 = 2 ∨ u4 = 3 := by omega
      rcases this with rfl | rfl | rfl | rfl
      · exact ⟨0, ⟨by decide, by decide⟩, rfl⟩
      · exact ⟨u1, ⟨by omega, by omega⟩, rfl⟩
      · exact ⟨0 - (u2 : Nat), ⟨by omega, by omega⟩, rfl⟩
      · exact ⟨1000000000000000 - (u3 : Nat), ⟨by omega, by omega⟩, rfl⟩
    refine ⟨D, _, _, _, rfl, rfl, .inl (.inl kD9), hat, ?_⟩
    -- the carried ones
    have hp9 := sqT_x LH S9.k hp1
    have ha9 := sqT_x LH S9.k ha
    have hA9 := sqT_x LH S9.k hA
    refine ⟨.ref c, rfl, .ref p, rfl, p, _, 1, .ref b, rfl, rfl, hp9, rfl, b, _, rfl, .inr hA9, ?_⟩
    rw [List.length_map, hql]
    refine ⟨(rs.length : Nat), rfl, c, _, rfl, .inl (.inl kc9), fun p1 hp1' => ?_⟩
    rw [cut_to, ← List.map_take]
    have m1 : Same H9 (upd H9 p1 (.lst ((cs.take rs.length).map V.int))) := same_upd hp1'
    refine ⟨p1, _, rfl, .inl ⟨.inl (.inl upd_same), fun ca hca => ?_⟩⟩
    have m2 := m1.trans (same_upd (o := .tup ((cs.take rs.length).map V.int)) hca)
    have kca : (upd (upd H9 p1 (.lst ((cs.take rs.length).map V.int))) ca (.tup ((cs.take rs.length).map V.int))) ca = some (.tup ((cs.take rs.length).map V.int)) := upd_same
    generalize upd (upd H9 p1 (.lst ((cs.take rs.length).map V.int))) ca (.tup ((cs.take rs.length).map V.int)) = H10 at m2 kca ⊢
    refine ⟨Nat.zero_le _, fun f hf => ?_⟩
    have nf : H9 f = none := Same.free m2 hf
    have m3 : Same H9 (upd H10 f (.lst [])) := m2.trans (same_upd hf)
    have kca3 : (upd H10 f (.lst [])) ca = some (.tup ((cs.take rs.length).map V.int)) := by rw [upd_ne (ne_of_none kca hf)]; exact kca
    have kf3 : (upd H10 f (.lst [])) f = some (.lst []) := upd_same
    generalize upd H10 f (.lst []) = H11 at m3 kca3 kf3 ⊢
    refine ⟨.ref p, rfl, p, _, 1, .ref b, rfl, rfl, sqT_same m3 hp9, rfl, b, _, rfl, .inr (sqT_same m3 hA9), _, _, _, rfl, ?_⟩
    rw [List.length_map, hql]
    have cf : c ≠ f := ne_of_none kc9 nf
    refine ⟨.ref p, rfl, p, _, 0, .ref a, rfl, rfl, sqT_same m3 hp9, rfl, a, rfl, ⟨_, sqT_same m3 ha9⟩, for_tup (xs := zs.map V.int) (fun i σ H' => (∃ y9, σ = [some (.ref h), some (.ref p), some (.int (a0 : Nat)), some (.int (1 + (s0 : Nat))), some (.ref c), some (.int t), some (.ref ca), some (.ref f), some (.int (rs.length + sumN (zs.take i) : Nat)), y9, none]) ∧ Same H9 H' ∧ H' ca = some (.tup ((cs.take rs.length).map V.int)) ∧
        ∃ qs : List Addr, H' f = some (.lst (qs.map V.ref)) ∧ SegV H' qs (segs cs rs.length (zs.take i))) ⟨⟨none, rfl⟩, m3, kca3, [], kf3, .nil⟩ (fun i σ H' _ h => sqT_same h.2.1 ha9) (fun i x σ H' hx ⟨⟨y9, es⟩, sm, kc1, qs2, kf, sv⟩ => ?_) (fun σ H' ⟨⟨y9, es⟩, sm, kc1, qs2, kf, sv⟩ => ?_)⟩
    · subst es
      obtain ⟨z, hz1, rfl⟩ := iV_lt hx
      have hzz := hv.z2 z (List.mem_of_getElem? hz1)
      have il : i < zs.length := (List.getElem?_eq_some_iff.mp hz1).1
      have kc2 := sm _ _ kc9
      refine ⟨.ref f, rfl, .inl ⟨rfl, _, .inl (.inl kf)⟩, .ref c, rfl, .int (rs.length + sumN (zs.take i) : Nat), rfl, (rs.length + sumN (zs.take i) : Nat), rfl, .int (rs.length + sumN (zs.take i) : Nat), rfl, .int z, rfl, (rs.length + sumN (zs.take i) : Nat), z, rfl, rfl, _, rfl, c, _, rfl, .inl (.inl kc2), fun p4 hp4 => ?_⟩
      have ecut : cutV (cs.map V.int) (some ((rs.length + sumN (zs.take i) : Nat) : Int)) (some (((rs.length + sumN (zs.take i) : Nat) : Int) + z)) = ((cs.drop (rs.length + sumN (zs.take i))).take z.toNat).map V.int := by
        rw [show (((rs.length + sumN (zs.take i) : Nat) : Int) + z) = ((rs.length + sumN (zs.take i) : Nat) : Int) + (z.toNat : Nat) by omega, cut_seg, ← List.map_drop, ← List.map_take]
      rw [ecut]
      have m4 : Same H' (upd H' p4 (.lst (((cs.drop (rs.length + sumN (zs.take i))).take z.toNat).map V.int))) := same_upd hp4
      refine ⟨p4, _, rfl, .inl ⟨.inl (.inl upd_same), fun p5 hp5 => ?_⟩⟩
      have m5 := m4.trans (same_upd (o := .tup (((cs.drop (rs.length + sumN (zs.take i))).take z.toNat).map V.int)) hp5)
      have k5 : (upd (upd H' p4 (.lst (((cs.drop (rs.length + sumN (zs.take i))).take z.toNat).map V.int))) p5 (.tup (((cs.drop (rs.length + sumN (zs.take i))).take z.toNat).map V.int))) p5 = some (.tup (((cs.drop (rs.length + sumN (zs.take i))).take z.toNat).map V.int)) := upd_same
      generalize upd (upd H' p4 (.lst (((cs.drop (rs.length + sumN (zs.take i))).take z.toNat).map V.int))) p5 (.tup (((cs.drop (rs.length + sumN (zs.take i))).take z.toNat).map V.int)) = H12 at m5 k5 ⊢
      have kf5 := m5 _ _ kf
      have hql2 : qs2.length = i := by
        rw [segV_len sv, segs_len, List.length_take]
        omega
      have ek : zs.take (i + 1) = zs.take i ++ [z] := by rw [List.take_add_one, hz1]; rfl
      refine ⟨f, _, _, rfl, rfl, kf5, ?_, .int (rs.length + sumN (zs.take i) : Nat), rfl, .int z, rfl, (rs.length + sumN (zs.take i) : Nat), z, rfl, rfl, ⟨some (.int z), ?_⟩, same_of (sm.trans m5) nf, ?_, qs2 ++ [p5], ?_, ?_⟩
      · rw [List.length_map]
        exact small1000 (by omega)
      · rw [ek, sumN_snoc]
        have : (((rs.length + sumN (zs.take i) : Nat) : Int) + z) = ((rs.length + (sumN (zs.take i) + z.toNat) : Nat) : Int) := by omega
        show [_, _, _, _, _, _, _, _, some (V.int (((rs.length + sumN (zs.take i) : Nat) : Int) + z)), _, _] = _
        rw [this]
      · rw [upd_ne (fun e => by rw [e, kf] at kc1; cases kc1)]
        exact m5 _ _ kc1
      · rw [upd_same, List.map_append]
        rfl
      · rw [ek, segs_snoc]
        refine segV_imp (fun b xs hb => ?_) (segV_snoc k5 (segV_imp (fun b xs hb => m5 _ _ hb) sv))
        rw [upd_ne (fun e => by rw [e, kf5] at hb; cases hb)]
        exact hb
    · subst es
      rw [List.length_map, List.take_length] at sv
      refine ⟨.int t, rfl, .ref ca, rfl, .ref f, rfl, f, _, rfl, .inl ⟨.inl (.inl kf), fun sh hsh => ⟨(by show 3 ≤ sizeLine; decide), fun t2 ht2 => ?_⟩⟩⟩
      have ksh : (upd H' sh (.tup (qs2.map V.ref))) sh = some (.tup (qs2.map V.ref)) := upd_same
      have m6 : Same H' (upd (upd H' sh (.tup (qs2.map V.ref))) t2 (.tup [.int t, .ref ca, .ref sh])) := (same_upd hsh).trans (same_upd ht2)
      have lay : LayAt (upd (upd H' sh (.tup (qs2.map V.ref))) t2 (.tup [.int t, .ref ca, .ref sh])) ca sh (cs.take rs.length) (segs cs rs.length zs) :=
        ⟨m6 _ _ kc1, qs2, by rw [upd_ne (ne_of_none ksh ht2)]; exact ksh, segV_imp (fun b xs hb => m6 _ _ hb) sv⟩
      have hcl : cs.length = rs.length + sumN zs := pl
      refine q _ t2 t (spl rs.length zs cs) (S9.same (sm.trans m6)) ⟨ca, sh, .inl (.inl upd_same), lay.t⟩ ⟨⟨by omega, by omega⟩, spl_fits hcl, by rw [join_spl hcl]; exact po⟩ ht (by rw [join_spl hcl]; exact p97)
end
end Sv
set_option maxHeartbeats 4000000
namespace Sv
open PySem PySem.Spec PyProof.Rows L2
def spKV (ks : List Int) (ps : List Addr) : List (Key × V) := (ks.zip ps).map fun x => (Sum.inl x.1, V.ref x.2)
theorem spKV_snoc {ks : List Int} {ps : List Addr} (h : ks.length = ps.length) (k : Int) (p : Addr) : spKV (ks ++ [k]) (ps ++ [p]) = spKV ks ps ++ [(Sum.inl k, V.ref p)] := by
  unfold spKV
  rw [List.zip_append h, List.map_append]
  rfl
theorem spKV_new {ks : List Int} {ps : List Addr} {k : Int} {v : V} (h : k ∉ ks) : putK (spKV ks ps) (Sum.inl k) v = spKV ks ps ++ [(Sum.inl k, v)] := by
  unfold putK
  rw [if_neg]
  intro z
  obtain ⟨kv, hkv, e⟩ := List.any_eq_true.mp z
  unfold spKV at hkv
  obtain ⟨⟨a, b⟩, hab, rfl⟩ := List.mem_map.mp hkv
  have e1 : (Sum.inl a : Key) = Sum.inl k := of_decide_eq_true e
  have e2 : a = k := Sum.inl.inj e1
  exact h (by rw [← e2]; exact (List.of_mem_zip hab).1)
/-- at d the places ts by the parcels ks -/
structure SpotsAt (H : Hp) (d : Addr) (ks : List Int) (ts : List (List V)) : Prop where
  ex : ∃ ps : List Addr, H d = some (.dK (spKV ks ps)) ∧ TupsV H ps ts ∧ ks.length = ps.length
theorem SpotsAt.same {H H' : Hp} {d : Addr} {ks : List Int} {ts : List (List V)} (x : SpotsAt H d ks ts) (e : Same H H') : SpotsAt H' d ks ts := by
  obtain ⟨ps, h1, h2, h3⟩ := x.ex
  exact ⟨ps, e _ _ h1, tupsV_same e h2, h3⟩
theorem SpotsAt.push {H : Hp} {d p : Addr} {ks : List Int} {ts : List (List V)} {k : Int} {t : List V} {kvs : List (Key × V)} (x : SpotsAt H d ks ts) (hd : H d = some (.dK kvs)) (hp : H p = some (.tup t)) (hk : k ∉ ks) :
    SpotsAt (upd H d (.dK (putK kvs (Sum.inl k) (.ref p)))) d (ks ++ [k]) (ts ++ [t]) := by
  obtain ⟨ps, h1, h2, h3⟩ := x.ex
  rw [hd] at h1
  obtain rfl : kvs = spKV ks ps := by injection Option.some.inj h1
  refine ⟨ps ++ [p], by rw [upd_same, spKV_new hk, spKV_snoc h3], tupsV_imp (fun b xs q => ?_) (tupsV_snoc h2 hp), by rw [List.length_append, List.length_append, h3]; rfl⟩
  rw [upd_ne (fun z => by rw [z, hd] at q; cases q)]
  exact q
end Sv
set_option maxHeartbeats 4000000
namespace Sv
open PySem PySem.Spec PyProof.Rows L2
def wKV (t : Int) (hc hs : Addr) : List (Key × V) := [(Sum.inr "time", .int t), (Sum.inr "carried", .ref hc), (Sum.inr "shelves", .ref hs)]
theorem wKV_put (t u : Int) (hc hs : Addr) : putK (wKV t hc hs) (Sum.inr ("time" : Str)) (.int u) = wKV u hc hs := rfl
/-- at w time, carried and shelves as they are now -/
structure W3 (H : Hp) (wa hc hs : Addr) (rw : List Addr) (t : Int) (L : Lay Int) : Prop where
  w : H wa = some (.dK (wKV t hc hs))
  c : H hc = some (.lst (L.1.map V.int))
  s : H hs = some (.lst (rw.map V.ref))
  r : RowL H rw L.2
  nd : rw.Nodup
  hcr : hc ∉ rw
  hsr : hs ∉ rw
  hcs : hc ≠ hs
theorem W3.wc {H : Hp} {wa hc hs : Addr} {rw : List Addr} {t : Int} {L : Lay Int} (x : W3 H wa hc hs rw t L) : wa ≠ hc ∧ wa ≠ hs ∧ wa ∉ rw := by
  refine ⟨fun z => ?_, fun z => ?_, fun m => ?_⟩
  · have := x.c
    rw [← z, x.w] at this
    cases this
  · have := x.s
    rw [← z, x.w] at this
    cases this
  · obtain ⟨xs, e⟩ := rowL_mem x.r m
    rw [x.w] at e
    cases e
theorem W3.same {H H' : Hp} {wa hc hs : Addr} {rw : List Addr} {t : Int} {L : Lay Int} (x : W3 H wa hc hs rw t L) (e : Same H H') : W3 H' wa hc hs rw t L :=
  ⟨e _ _ x.w, e _ _ x.c, e _ _ x.s, rowL_imp (fun q _ o ho => e _ _ ho) x.r, x.nd, x.hcr, x.hsr, x.hcs⟩
/-- all but F stays -/
def Off (F : List Addr) (H H' : Hp) : Prop := ∀ b o, b ∉ F → H b = some o → H' b = some o
theorem Off.refl (F : List Addr) (H : Hp) : Off F H H := fun _ _ _ h => h
theorem Off.trans {F : List Addr} {H H1 H2 : Hp} (a : Off F H H1) (b : Off F H1 H2) : Off F H H2 := fun c o n h => b c o n (a c o n h)
theorem Off.of {F : List Addr} {H H' : Hp} (e : Same H H') : Off F H H' := fun b o _ h => e b o h
theorem Off.upd {F : List Addr} {H : Hp} {p : Addr} {o : HO} (h : p ∈ F) : Off F H (L2.upd H p o) := fun b u n e => by
  rw [upd_ne (fun z : b = p => n (by rw [z]; exact h))]
  exact e
abbrev foot (wa hc : Addr) (rw : List Addr) : List Addr := wa :: hc :: rw
theorem W3.not_tup {H : Hp} {wa hc hs : Addr} {rw : List Addr} {t : Int} {L : Lay Int} (x : W3 H wa hc hs rw t L) {b : Addr} {o : HO} (h : H b = some o) (hl : ∀ xs, o ≠ .lst xs) (hd : ∀ kvs, o ≠ .dK kvs) : b ∉ foot wa hc rw := fun m => by
  rcases List.mem_cons.mp m with z | m
  · rw [z, x.w] at h
    exact hd _ (Option.some.inj h).symm
  rcases List.mem_cons.mp m with z | m
  · rw [z, x.c] at h
    exact hl _ (Option.some.inj h).symm
  · obtain ⟨xs, e⟩ := rowL_mem x.r m
    rw [e] at h
    exact hl _ (Option.some.inj h).symm
theorem sqT_off {K : PySem.W.Frag} {H H' : Hp} {wa hc hs a : Addr} {rw : List Addr} {t : Int} {L : Lay Int} {xs : List V} (x : W3 H wa hc hs rw t L) (e : Off (foot wa hc rw) H H') (s : SqT K H a xs) : SqT K H' a xs := by
  rcases s with (s | ⟨o, s⟩) | s
  · exact .inl (.inl (e _ _ (x.not_tup s (fun _ z => by cases z) (fun _ z => by cases z)) s))
  · exact .inl (.inr ⟨o, e _ _ (x.not_tup s (fun _ z => by cases z) (fun _ z => by cases z)) s⟩)
  · exact .inr s
def visN (rs : List Ro) (t : Int) (i : Nat) : List (Nat × Nat) := (prs rs t i).map fun p => (p.1, p.2.toNat)
theorem visN_none {rs : List Ro} {t : Int} {i : Nat} {r : Ro} (h : rs[i]? = some r) (e : ent r t = none) : visN rs t (i + 1) = visN rs t i := by
  unfold visN
  conv => lhs; unfold prs
  rw [h]
  simp only [e, List.append_nil]
theorem visN_some {rs : List Ro} {t : Int} {i : Nat} {r : Ro} {z : Int} (h : rs[i]? = some r) (e : ent r t = some z) : visN rs t (i + 1) = visN rs t i ++ [(i, z.toNat)] := by
  unfold visN
  conv => lhs; unfold prs
  rw [h]
  simp only [e, List.map_append]
  rfl
theorem exN_app (ps : List (Nat × Nat)) (p : Nat × Nat) (L : Lay Int) : ∀ k, k ≤ ps.length → exN (ps ++ [p]) L k = exN ps L k
  | 0, _ => rfl
  | k + 1, hk => by
    unfold exN
    rw [exN_app ps p L k (by omega), List.getElem?_append_left (by omega), List.take_append_of_le_length (by omega)]
theorem exL_snoc (ps : List (Nat × Nat)) (p : Nat × Nat) (L : Lay Int) : exL (ps ++ [p]) L = exL ps L ++ [exch (steps ps L) p] := by
  unfold exL
  rw [List.length_append]
  show exN (ps ++ [p]) L (ps.length + 1) = _
  rw [exN_succ (p := p) (by rw [List.getElem?_append_right (Nat.le_refl _), Nat.sub_self]; rfl), exN_app _ _ _ _ (Nat.le_refl _), List.take_append_of_le_length (Nat.le_refl _), List.take_length]
theorem exL_len (ps : List (Nat × Nat)) (L : Lay Int) : (exL ps L).length ≤ ps.length := exN_len _ _ _
theorem visN_len (rs : List Ro) (t : Int) (i : Nat) : (visN rs t i).length ≤ i := by
  unfold visN
  rw [List.length_map]
  have := meetN_len rs t i
  rw [prs_meet, List.length_map] at this
  exact this
section
variable {P : Program} {w : World} {K : PySem.W.Frag} {mg : Str → Option Value} {base : Heap}
def nBe : List Str := ["_law_state_here", "_law_shelf"]
theorem scBegun : FnScope nBe ["_law_state_here"] (defScope sBegun) := ⟨rfl, rfl, rfl, by decide +kernel, rfl, by decide +kernel, by decide +kernel⟩
def spBegun (K : PySem.W.Frag) : Sp := fun vs H Q _ => ∃ (s : Addr) (t : Int) (L : Lay Int), vs = [.ref s] ∧ StateAt K H s t L ∧ L.2.length ≤ 1000 ∧
  ∀ H' wa hc hs rw, Same H H' → W3 H' wa hc hs rw t L → (∀ b ∈ wa :: hc :: hs :: rw, H b = none) → Q (.ref wa) H'
theorem ok_begun (T : Bd P K mg) : FnOk P w K mg base CX0 1 T.aLBegun T.dLBegun ["_law_state_here"] (spBegun K) := by
  refine T.LBegun.F.ok scBegun (fun vs H Q E h => ?_) (fun cdv A outer s H vs Q E hr h => ?_)
  · obtain ⟨s, t, L, rfl, _⟩ := h
    rfl
  · obtain ⟨s, t, L, rfl, hs, hl, q⟩ := h
    obtain ⟨ca, sh, hs1, hL⟩ := hs.ex
    obtain ⟨qs, hS1, hS2⟩ := hL.s
    have hql := segT_len hS2
    refine ⟨_, pss_one (ps_ret (pe_disp (pps_cons pe_str (pe_ix ix_tup (pv 0) pe_int (fun _ _ => rfl)) (pps_cons pe_str (pe_callTy call_list_of (by rfl) T.bt.list b_list (pa_cons (pe_ix ix_tup (pv 0) pe_int (fun _ _ => rfl)) pa_nil))
      (pps_cons pe_str (pe_lc (own := [("_law_shelf", 1)]) (g := gName 1) (tt := tYes) (te := tCB (rLo K) (tCons (tVar 1) tNil)) rfl scBegun.nd (pi_tup (pe_ix ix_tup (pv 0) pe_int (fun _ _ => rfl))) (blkOk_by (N := nBe) (sc := defScope sBegun) (by decide +kernel))
        (fun _ _ _ _ _ => pg_name (i := 1) scBegun.nd rfl (Or.inl rfl)) (fun _ _ _ _ _ => pts_nil) (fun _ _ _ _ _ => pe_callTy call_list_of (by rfl) T.bt.list b_list (pa_cons (pv 1) pa_nil))) pps_nil))) (by rfl) (by rfl) (fun z => by cases z) (by decide))), ?_⟩
    refine fun wa hwa => ?_
    have sm0 : Same H (upd H wa (.dK [])) := same_upd hwa
    have kw : (upd H wa (.dK [])) wa = some (.dK []) := upd_same
    generalize upd H wa (.dK []) = H0 at sm0 kw ⊢
    refine ⟨.ref s, rfl, s, _, 0, .int t, rfl, rfl, sqT_same sm0 hs1, rfl, .ref s, rfl, s, _, 1, .ref ca, rfl, rfl, sqT_same sm0 hs1, rfl, ca, _, rfl, .inr (sqT_same sm0 hL.c), fun hc hhc => ?_⟩
    have sm1 : Same H0 (upd H0 hc (.lst (L.1.map V.int))) := same_upd hhc
    have kc : (upd H0 hc (.lst (L.1.map V.int))) hc = some (.lst (L.1.map V.int)) := upd_same
    generalize upd H0 hc (.lst (L.1.map V.int)) = H1 at sm1 kc ⊢
    have smA := sm0.trans sm1
    refine ⟨.ref s, rfl, s, _, 2, .ref sh, rfl, rfl, sqT_same smA hs1, rfl, sh, rfl, ⟨_, sqT_same smA hS1⟩, fun R hR => lc_tup (xs := qs.map V.ref) (fun i H' => Same H1 H' ∧ ∃ rw : List Addr, H' R = some (.lst (rw.map V.ref)) ∧ RowL H' rw (L.2.take i) ∧ rw.Nodup ∧ ∀ q ∈ rw, H1 q = none ∧ q ≠ R)
      ⟨same_upd hR, [], upd_same, .nil, List.nodup_nil, fun q hq => (List.not_mem_nil hq).elim⟩ (fun i H' _ h => sqT_same (smA.trans h.1) hS1) (fun i x H' hx ⟨sm, rw, kR, rl, nd, hrw⟩ => ?_) (fun H2 ⟨sm2, rw, kR, rl, nd, hrw⟩ => ?_)⟩
    · obtain ⟨q1, hq1, rfl⟩ := refs_lt hx
      obtain ⟨s1, hs3, hq2⟩ := segT_at hS2 hq1
      refine ⟨rfl, yes_go ⟨.ref q1, rfl, q1, _, rfl, .inr (sqT_same (smA.trans sm) hq2), fun l hl => ?_⟩⟩
      have n0 : H1 l = none := Same.free sm hl
      have nR : R ≠ l := ne_of_none kR hl
      have hrl := rowL_len rl
      refine ⟨_, by rw [upd_ne nR]; exact kR, ?_, same_of (same_of sm n0) hR, rw ++ [l], ?_, ?_, ?_, ?_⟩
      · rw [List.length_map, hrl, List.length_take]
        exact small1000 (by omega)
      · rw [upd_same, List.map_append]
        rfl
      · rw [List.take_add_one, hs3]
        have hl2 : l ∉ rw := rowL_free rl hl
        refine rowL_snoc (by rw [upd_ne (Ne.symm nR), upd_same]) (rowL_imp (fun q hq o ho => ?_) rl)
        rw [upd_ne (hrw q hq).2, upd_ne (fun z : q = l => hl2 (by rw [← z]; exact hq))]
        exact ho
      · refine List.nodup_append.mpr ⟨nd, by simp, fun x hx y hy z => ?_⟩
        rw [List.mem_singleton.mp hy] at z
        exact rowL_free rl hl (by rw [← z]; exact hx)
      · intro q hq
        rcases List.mem_append.mp hq with hq | hq
        · exact hrw q hq
        · rw [List.mem_singleton.mp hq]
          exact ⟨n0, Ne.symm nR⟩
    rw [List.length_map, hql, List.take_length] at rl
    have kw2 := sm2 _ _ (sm1 _ _ kw)
    have kc2 := sm2 _ _ kc
    refine ⟨kw2, wKV t hc R, rfl, (by show 3 ≤ 15; decide), ?_⟩
    have wc : wa ≠ hc := ne_of_none kw hhc
    have nw : ∀ q ∈ rw, q ≠ wa := fun q hq z => by
      have := (hrw q hq).1
      rw [z, sm1 _ _ kw] at this
      cases this
    have nc : hc ∉ rw := fun m => by
      have := (hrw _ m).1
      rw [kc] at this
      cases this
    have wR : wa ≠ R := fun z => by rw [z, kR] at kw2; cases kw2
    have nH : H wa = none := hwa
    refine q _ wa hc R rw (same_of ((sm0.trans sm1).trans sm2) nH) ⟨upd_same, by rw [upd_ne (Ne.symm wc)]; exact kc2, by rw [upd_ne (Ne.symm wR)]; exact kR, rowL_imp (fun q hq o ho => by rw [upd_ne (nw q hq)]; exact ho) rl, nd, nc, fun m => (hrw _ m).2 rfl, ne_of_none kc hR⟩ (fun b hb => ?_)
    rcases List.mem_cons.mp hb with z | hb
    · rw [z]; exact nH
    rcases List.mem_cons.mp hb with z | hb
    · rw [z]; exact Same.free sm0 hhc
    rcases List.mem_cons.mp hb with z | hb
    · rw [z]; exact Same.free smA hR
    · exact Same.free smA (hrw b hb).1
def nSe : List Str := ["_law_w", "_law_shelf"]
theorem scSeen : FnScope nSe ["_law_w"] (defScope sSeen) := ⟨rfl, rfl, rfl, by decide +kernel, rfl, by decide +kernel, by decide +kernel⟩
def spSeen (K : PySem.W.Frag) : Sp := fun vs H Q _ => ∃ (wa hc hs : Addr) (rw : List Addr) (t : Int) (L : Lay Int), vs = [.ref wa] ∧ W3 H wa hc hs rw t L ∧ L.2.length ≤ 1000 ∧ NewSt K H t L Q
theorem ok_seen (T : Bd P K mg) : FnOk P w K mg base CX0 1 T.aLSeen T.dLSeen ["_law_w"] (spSeen K) := by
  refine T.LSeen.F.ok scSeen (fun vs H Q E h => ?_) (fun cdv A outer s H vs Q E hr h => ?_)
  · obtain ⟨wa, hc, hs, rw, t, L, rfl, _⟩ := h
    rfl
  · obtain ⟨wa, hc, hs, rw, t, L, rfl, W, hl, q⟩ := h
    have hrl := rowL_len W.r
    refine ⟨_, pss_one (ps_ret (pe_tup (pa_cons (pe_dget (hu_of hr) (pv 0) pe_str (fun _ _ => rfl)) (pa_cons (pe_callTy call_tuple_of (by rfl) T.bt.tuple b_tuple (pa_cons (pe_dget (hu_of hr) (pv 0) pe_str (fun _ _ => rfl)) pa_nil))
      (pa_cons (pe_callTy call_tuple_of (by rfl) T.bt.tuple b_tuple (pa_cons (pe_lc (own := [("_law_shelf", 1)]) (g := gName 1) (tt := tYes) (te := tCB (rTo K) (tCons (tVar 1) tNil)) rfl scSeen.nd (pi_list (pe_dget (hu_of hr) (pv 0) pe_str (fun _ _ => rfl))) (blkOk_by (N := nSe) (sc := defScope sSeen) (by decide +kernel))
        (fun _ _ _ _ _ => pg_name (i := 1) scSeen.nd rfl (Or.inl rfl)) (fun _ _ _ _ _ => pts_nil) (fun _ _ _ _ _ => pe_callTy call_tuple_of (by rfl) T.bt.tuple b_tuple (pa_cons (pv 1) pa_nil))) pa_nil)) pa_nil))))), ?_⟩
    refine ⟨.ref wa, rfl, wa, _, rfl, DGet.k (k := Sum.inr "time") W.w, .ref wa, rfl, wa, _, rfl, DGet.k (k := Sum.inr "carried") W.w, hc, _, rfl, .inl ⟨.inl (.inl W.c), fun ca hca => ?_⟩⟩
    have s1 : Same H (upd H ca (.tup (L.1.map V.int))) := same_upd hca
    have k1 : (upd H ca (.tup (L.1.map V.int))) ca = some (.tup (L.1.map V.int)) := upd_same
    generalize upd H ca (.tup (L.1.map V.int)) = H1 at s1 k1 ⊢
    have W1 := W.same s1
    refine ⟨.ref wa, rfl, wa, _, rfl, DGet.k (k := Sum.inr "shelves") W1.w, hs, rfl, ⟨_, .inl (.inl W1.s)⟩, fun D hD => lc_list (xs := rw.map V.ref) (fun i H' => Same H1 H' ∧ ∃ qs : List Addr, H' D = some (.lst (qs.map V.ref)) ∧ SegV H' qs (L.2.take i))
      ⟨same_upd hD, [], upd_same, .nil⟩ (fun i H' _ h => .inl (.inl (h.1 _ _ W1.s))) (fun i x H' hx ⟨sm, qs, kD, sv⟩ => ?_) (fun H2 ⟨sm, qs, kD, sv⟩ => ?_)⟩
    · obtain ⟨q1, hq1, rfl⟩ := refs_lt hx
      obtain ⟨row, hrow, kq⟩ := rowL_at W1.r hq1
      have kq2 := sm _ _ kq
      refine ⟨rfl, yes_go ⟨.ref q1, rfl, q1, _, rfl, .inl ⟨.inl (.inl kq2), fun l hl => ?_⟩⟩⟩
      have nD : D ≠ l := ne_of_none kD hl
      refine ⟨_, by rw [upd_ne nD]; exact kD, ?_, same_of (same_of sm (Same.free sm hl)) hD, qs ++ [l], ?_, ?_⟩
      · rw [List.length_map, segV_len sv, List.length_take]
        exact small1000 (by omega)
      · rw [upd_same, List.map_append]
        rfl
      · rw [List.take_add_one, hrow]
        refine segV_imp (fun b xs hb => ?_) (segV_snoc (show (upd H' l (.tup (row.map V.int))) l = some (.tup (row.map V.int)) from upd_same) (segV_imp (fun b xs hb => same_upd hl _ _ hb) sv))
        rw [upd_ne (fun z : b = D => by rw [z, upd_ne nD, kD] at hb; cases hb)]
        exact hb
    rw [List.length_map, hrl, List.take_length] at sv
    refine ⟨D, _, rfl, .inl ⟨.inl (.inl kD), fun sh hsh => ⟨(by show 3 ≤ sizeLine; decide), fun p hp => ?_⟩⟩⟩
    have ksh : (upd H2 sh (.tup (qs.map V.ref))) sh = some (.tup (qs.map V.ref)) := upd_same
    have s3 : Same H2 (upd (upd H2 sh (.tup (qs.map V.ref))) p (.tup [.int t, .ref ca, .ref sh])) := (same_upd hsh).trans (same_upd hp)
    have lay : LayAt (upd (upd H2 sh (.tup (qs.map V.ref))) p (.tup [.int t, .ref ca, .ref sh])) ca sh L.1 L.2 :=
      ⟨s3 _ _ (sm _ _ k1), qs, by rw [upd_ne (ne_of_none ksh hp)]; exact ksh, segV_imp (fun b xs hb => s3 _ _ hb) sv⟩
    have smH := (s1.trans sm).trans s3
    exact q _ p smH (Same.free ((s1.trans sm).trans (same_upd hsh)) hp) ⟨ca, sh, .inl (.inl upd_same), lay.t⟩
end
end Sv
set_option maxHeartbeats 4000000
namespace Sv
open PySem PySem.Spec PyProof.Rows L2
section
variable {P : Program} {w : World} {K : PySem.W.Frag} {mg : Str → Option Value} {base : Heap}
def nSt : List Str := ["_law_plan_here", "_law_w", "_law_found", "_law_carrier", "_law_route", "_law_shelf", "_law_parcel"]
theorem scStep : FnScope nSt ["_law_plan_here", "_law_w"] (defScope sStep) := ⟨rfl, rfl, rfl, by decide +kernel, rfl, by decide +kernel, by decide +kernel⟩
def spStep (K : PySem.W.Frag) : Sp := fun vs H Q _ => ∃ (p wa hc hs : Addr) (rw : List Addr) (zs : List Int) (rs : List Ro) (t : Int) (L : Lay Int), vs = [.ref p, .ref wa] ∧ PlanAt K H p zs rs ∧ Val zs rs ∧ W3 H wa hc hs rw t L ∧ Fits rs.length zs L ∧
  ∀ H' x, Off (foot wa hc rw) H H' → W3 H' wa hc hs rw (t + 1) (tickL rs t L) → H x = none → TL H' x (exL (vis rs t) L) → Q (.ref x) H'
theorem ok_step (T : Bd P K mg) : FnOk P w K mg base CX0 1 T.aLStep T.dLStep ["_law_plan_here", "_law_w"] (spStep K) := by
  refine T.LStep.F.ok scStep (fun vs H Q E h => ?_) (fun cdv A outer s H vs Q E hr h => ?_)
  · obtain ⟨p, wa, hc, hs, rw, zs, rs, t, L, rfl, _⟩ := h
    rfl
  · obtain ⟨p, wa, hc, hs, rw, zs, rs, t, L, rfl, hp, hv, W, hf, q⟩ := h
    obtain ⟨a, b, hp1, ha, hb⟩ := hp.ex
    obtain ⟨qs, hA, hP⟩ := hb.ex
    have hql := paired_len hP
    have hz12 := hv.z1
    have hr6 := hv.r1
    have p62 : (1000 : Int) < 2 ^ 62 := by decide
    refine ⟨_, pss_cons (ps_dput (hu_of hr) (pv 1) pe_str (pe_op op_add (pe_dget (hu_of hr) (pv 1) pe_str (fun _ _ => rfl)) pe_int) rfl)
      (pss_cons (ps_set (i := 2) scStep.nd rfl (Or.inl rfl) (pe_lst pa_nil))
      (pss_cons (ps_for PassesOwn.never rfl (pi_range1 (by rfl) T.bt.range (pa_cons (pe_callB call_len_seq (by rfl) T.bt.len b_len (pa_cons (pe_ix ix_tup (pv 0) pe_int (fun _ _ => rfl)) pa_nil)) pa_nil)) (pg_name (i := 3) scStep.nd rfl (Or.inl rfl))
        (pss_cons (ps_set (i := 4) scStep.nd rfl (Or.inl rfl) (pe_ix ix_tup (pe_ix ix_tup (pv 0) pe_int (fun _ _ => rfl)) (pv 3) (fun _ _ => rfl)))
        (pss_cons (ps_set (i := 5) scStep.nd rfl (Or.inl rfl) (pe_ix ix_tup (pv 4) (pe_op op_mod (pe_op op_sub (pe_dget (hu_of hr) (pv 1) pe_str (fun _ _ => rfl)) pe_int) (pe_callB call_len_seq (by rfl) T.bt.len b_len (pa_cons (pv 4) pa_nil))) (fun _ _ => rfl)))
        (pss_one (ps_if (pt_cmpR op_notN (pv 5) pe_non (nomark _))
          (pss_cons (ps_set (i := 6) scStep.nd rfl (Or.inl rfl) (pe_ix ix_list (pe_dget (hu_of hr) (pv 1) pe_str (fun _ _ => rfl)) (pv 3) (fun _ _ => rfl)))
          (pss_cons (ps_expr (pe_bm PySem.F.plainAttrs_list PySem.F.slot_list_append PySem.F.type_list_append mt_append (pe_ix ix_list (pe_dget (hu_of hr) (pv 1) pe_str (fun _ _ => rfl)) (pv 5) (fun _ _ => rfl)) (pa_cons (pv 6) pa_nil)))
          (pss_cons (ps_asg (pe_bm PySem.F.plainAttrs_list PySem.F.slot_list_pop PySem.F.type_list_pop mt_popAt (pe_ix ix_list (pe_dget (hu_of hr) (pv 1) pe_str (fun _ _ => rfl)) (pv 5) (fun _ _ => rfl)) (pa_cons pe_int pa_nil)) (pg_sub (pe_dget (hu_of hr) (pv 1) pe_str (fun _ _ => rfl)) (pv 3) set_list))
          (pss_one (ps_expr (pe_bm PySem.F.plainAttrs_list PySem.F.slot_list_append PySem.F.type_list_append mt_append (pv 2) (pa_cons (pe_tup (pa_cons (pv 3) (pa_cons (pv 5) (pa_cons (pv 6) (pa_cons (pe_ix ix_list (pe_dget (hu_of hr) (pv 1) pe_str (fun _ _ => rfl)) (pv 3) (fun _ _ => rfl)) pa_nil))))) pa_nil)))))))
          pss_nil)))))
      (pss_one (ps_ret (pv 2))))), ?_⟩
    -- the time
    refine ⟨.ref wa, rfl, wa, _, rfl, DGet.k (k := Sum.inr "time") W.w, t, 1, rfl, rfl, .ref wa, rfl, wa, _, rfl, DPut.k (k := Sum.inr "time") W.w (by show 3 < sizeLine; decide), ?_⟩
    obtain ⟨wc, ws, wr⟩ := W.wc
    have W1 : W3 (upd H wa (.dK (putK (wKV t hc hs) (Sum.inr "time") (.int (t + 1))))) wa hc hs rw (t + 1) L :=
      ⟨by rw [upd_same, wKV_put], by rw [upd_ne (Ne.symm wc)]; exact W.c, by rw [upd_ne (Ne.symm ws)]; exact W.s, rowL_imp (fun q hq o ho => by rw [upd_ne (fun z : q = wa => wr (by rw [← z]; exact hq))]; exact ho) W.r, W.nd, W.hcr, W.hsr, W.hcs⟩
    have O1 : Off (foot wa hc rw) H (upd H wa (.dK (putK (wKV t hc hs) (Sum.inr "time") (.int (t + 1))))) := Off.upd (List.mem_cons_self ..)
    have nn1 : ∀ b, (upd H wa (.dK (putK (wKV t hc hs) (Sum.inr "time") (.int (t + 1))))) b = none → H b = none := fun b h => by
      rw [upd_ne (fun z : b = wa => by rw [z, upd_same] at h; cases h)] at h
      exact h
    generalize upd H wa (.dK (putK (wKV t hc hs) (Sum.inr "time") (.int (t + 1)))) = H1 at W1 O1 nn1 ⊢
    -- what is found
    refine ⟨Nat.zero_le _, fun x hx => ?_⟩
    have nx := nn1 x hx
    have smx : Same H1 (upd H1 x (.lst [])) := same_upd hx
    have kx : (upd H1 x (.lst [])) x = some (.lst []) := upd_same
    have W2 := W1.same smx
    have O2 : Off (foot wa hc rw) H (upd H1 x (.lst [])) := O1.trans (Off.of smx)
    have xw : x ≠ wa := fun z => by rw [z, W1.w] at hx; cases hx
    have xc : x ≠ hc := fun z => by rw [z, W1.c] at hx; cases hx
    have xs : x ≠ hs := fun z => by rw [z, W1.s] at hx; cases hx
    have xr : x ∉ rw := rowL_free W1.r hx
    generalize upd H1 x (.lst []) = H2 at smx kx W2 O2 ⊢
    have tu : ∀ {H' : Hp} {c : Addr} {ys : List V}, Off (foot wa hc rw) H H' → SqT K H c ys → SqT K H' c ys := fun e s => sqT_off W e s
    refine ⟨.ref p, rfl, p, _, 1, .ref b, rfl, rfl, tu O2 hp1, rfl, b, _, rfl, .inr (tu O2 hA), ?_⟩
    rw [List.length_map, hql]
    refine ⟨(rs.length : Nat), rfl, by omega, by omega, ?_⟩
    rw [Int.toNat_natCast]
    refine for_range (lo := 0) (n := rs.length) (fun i σ H' => (∃ y3 y4 y5 y6, σ = [some (.ref p), some (.ref wa), some (.ref x), y3, y4, y5, y6]) ∧ Off (foot wa hc rw) H H' ∧ W3 H' wa hc hs rw (t + 1) (steps (visN rs t i) L) ∧ TL H' x (exL (visN rs t i) L))
      ⟨⟨_, _, _, _, rfl⟩, O2, W2, [], kx, .nil⟩ (fun i σ H' hi ⟨⟨y3, y4, y5, y6, es⟩, O, Wi, tl⟩ => ?_) (fun σ H' ⟨⟨y3, y4, y5, y6, es⟩, O, Wi, tl⟩ => ?_)
    · subst es
      have e0 : (0 + (i : Int)) = (i : Nat) := by omega
      rw [e0]
      obtain ⟨qa, hqa⟩ : ∃ qa, qs[i]? = some qa := ⟨_, List.getElem?_eq_getElem (by omega)⟩
      obtain ⟨r, hr1, hqr⟩ := paired_at hP hqa
      have hVq : (qs.map V.ref)[i]? = some (.ref qa) := by rw [List.getElem?_map, hqa]; rfl
      obtain ⟨rne, rl⟩ := hv.ne r (List.mem_of_getElem? hr1)
      obtain ⟨eg, em⟩ := ent_get rne t
      have hrl : 0 < r.length := List.length_pos_iff.mpr rne
      refine ⟨.ref p, rfl, p, _, 1, .ref b, rfl, rfl, tu O hp1, rfl, .int (i : Nat), rfl, b, _, _, .ref qa, rfl, rfl, tu O hA, atI_nat hVq, ?_⟩
      have eg2 : (rV r)[(t % (r.length : Int)).toNat]? = some (eV (ent r t)) := rV_get eg
      have et : t + 1 - 1 = t := by omega
      have hmod : (t + 1 - 1) % (((rV r).length : Nat) : Int) = ((t % (r.length : Int)).toNat : Nat) := by rw [rV_len, et]; exact em
      have hpos : (0 : Int) < (((rV r).length : Nat) : Int) := by rw [rV_len]; omega
      refine ⟨.ref qa, rfl, .ref wa, rfl, wa, _, rfl, DGet.k (k := Sum.inr "time") Wi.w, t + 1, 1, rfl, rfl, .ref qa, rfl, qa, rV r, rfl, .inr (tu O hqr), t + 1 - 1, _, rfl, rfl, hpos, qa, rV r, _, eV (ent r t), rfl, rfl, tu O hqr, ?_, ?_⟩
      · show atI (rV r) ((t + 1 - 1) % (((rV r).length : Nat) : Int)) = _
        rw [hmod]
        exact atI_nat eg2
      cases he : ent r t with
      | none =>
        refine ⟨.non, rfl, rfl, false, rfl, iteF ⟨⟨_, _, _, _, rfl⟩, O, ?_, ?_⟩⟩
        · rw [visN_none hr1 he]
          exact Wi
        · rw [visN_none hr1 he]
          exact tl
      | some z =>
        have hz : 0 ≤ z ∧ z ≤ (zs.length : Int) - 1 := by
          have h1 := hv.e r (List.mem_of_getElem? hr1) (ent r t) (List.mem_of_getElem? eg)
          rw [he] at h1
          exact of_decide_eq_true h1
        obtain ⟨sn, rfl⟩ := Int.eq_ofNat_of_zero_le hz.1
        have hsn : sn < zs.length := by omega
        have ev := visN_some hr1 he
        rw [Int.toNat_natCast] at ev
        have est : steps (visN rs t (i + 1)) L = step1 (steps (visN rs t i) L) (i, sn) := by rw [ev, steps_snoc]
        have eex : exL (visN rs t (i + 1)) L = exL (visN rs t i) L ++ [exch (steps (visN rs t i) L) (i, sn)] := by rw [ev, exL_snoc]
        have hfi := steps_fits (visN rs t i) hf
        have xl := exL_len (visN rs t i) L
        have vl := visN_len rs t i
        generalize hLi : steps (visN rs t i) L = Li at Wi est eex hfi
        obtain ⟨g1, g2⟩ := fit_at hfi
        obtain ⟨y, hy1⟩ : ∃ y, Li.1[i]? = some y := ⟨_, List.getElem?_eq_getElem (by omega)⟩
        obtain ⟨row, hrow⟩ : ∃ row, Li.2[sn]? = some row := ⟨_, List.getElem?_eq_getElem (by omega)⟩
        have hrwl := rowL_len Wi.r
        obtain ⟨q1, hq1⟩ : ∃ q1, rw[sn]? = some q1 := ⟨_, List.getElem?_eq_getElem (by omega)⟩
        have hq1m := List.mem_of_getElem? hq1
        obtain ⟨row', hrow', kq⟩ := rowL_at Wi.r hq1
        obtain rfl : row = row' := Option.some.inj (hrow.symm.trans hrow')
        have hr9 := fit_row hfi hv.z2 hrow
        have hV1 : (Li.1.map V.int)[i]? = some (.int y) := by rw [List.getElem?_map, hy1]; rfl
        have hV2 : (rw.map V.ref)[sn]? = some (.ref q1) := by rw [List.getElem?_map, hq1]; rfl
        have qw : q1 ≠ wa := fun z => wr (by rw [← z]; exact hq1m)
        have qc : q1 ≠ hc := fun z => W.hcr (by rw [← z]; exact hq1m)
        have qs' : q1 ≠ hs := fun z => W.hsr (by rw [← z]; exact hq1m)
        have qx : q1 ≠ x := fun z => xr (by rw [← z]; exact hq1m)
        have qF : q1 ∈ foot wa hc rw := List.mem_cons_of_mem _ (List.mem_cons_of_mem _ hq1m)
        have cF : hc ∈ foot wa hc rw := List.mem_cons_of_mem _ (List.mem_cons_self ..)
        refine ⟨.int (sn : Nat), rfl, rfl, true, rfl, iteT ?_⟩
        refine ⟨.ref wa, rfl, wa, _, rfl, DGet.k (k := Sum.inr "carried") Wi.w, .int (i : Nat), rfl, hc, _, _, .int y, rfl, rfl, .inl (.inl Wi.c), atI_nat hV1, ?_⟩
        refine ⟨.ref wa, rfl, wa, _, rfl, DGet.k (k := Sum.inr "shelves") Wi.w, .int (sn : Nat), rfl, hs, _, _, .ref q1, rfl, rfl, .inl (.inl Wi.s), atI_nat hV2, .inl ⟨rfl, _, .inl (.inl kq)⟩, .int y, rfl, q1, _, _, rfl, rfl, kq, ?_, ?_⟩
        · rw [List.length_map]
          exact small1000 (by omega)
        have kq2 : (upd H' q1 (.lst (row.map V.int ++ [.int y]))) q1 = some (.lst (row.map V.int ++ [.int y])) := upd_same
        have up5 : ∀ b o, b ≠ q1 → H' b = some o → (upd H' q1 (.lst (row.map V.int ++ [.int y]))) b = some o := fun b o hb ho => by rw [upd_ne hb]; exact ho
        have O5 : Off (foot wa hc rw) H (upd H' q1 (.lst (row.map V.int ++ [.int y]))) := O.trans (Off.upd qF)
        generalize upd H' q1 (.lst (row.map V.int ++ [.int y])) = H5 at kq2 up5 O5 ⊢
        have hhead : (row.map V.int ++ [V.int y])[0]? = some (.int (row.headD y)) := by cases row <;> rfl
        have htail : (row.map V.int ++ [V.int y]).eraseIdx 0 = ((row ++ [y]).tail).map V.int := by
          rw [List.eraseIdx_zero, List.map_tail, List.map_append]
          rfl
        refine ⟨.ref wa, rfl, wa, _, rfl, DGet.k (k := Sum.inr "shelves") (up5 _ _ (Ne.symm qw) Wi.w), .int (sn : Nat), rfl, hs, _, _, .ref q1, rfl, rfl, .inl (.inl (up5 _ _ (Ne.symm qs') Wi.s)), atI_nat hV2, .inl ⟨rfl, _, .inl (.inl kq2)⟩, q1, _, 0, 0, _, rfl, rfl, kq2, by decide, by decide, ?_, hhead, ?_⟩
        · simp [seqIndex?]
        rw [htail]
        have up6 : ∀ b o, b ≠ q1 → H' b = some o → (upd H5 q1 (.lst (((row ++ [y]).tail).map V.int))) b = some o := fun b o hb ho => by rw [upd_ne hb]; exact up5 _ _ hb ho
        have k6 : (upd H5 q1 (.lst (((row ++ [y]).tail).map V.int))) q1 = some (.lst (((row ++ [y]).tail).map V.int)) := upd_same
        have O6 : Off (foot wa hc rw) H (upd H5 q1 (.lst (((row ++ [y]).tail).map V.int))) := O5.trans (Off.upd qF)
        generalize upd H5 q1 (.lst (((row ++ [y]).tail).map V.int)) = H6 at up6 k6 O6 ⊢
        refine ⟨.ref wa, rfl, wa, _, rfl, DGet.k (k := Sum.inr "carried") (up6 _ _ (Ne.symm qw) Wi.w), .int (i : Nat), rfl, hc, _, _, i, rfl, rfl, up6 _ _ (Ne.symm qc) Wi.c, ?_, ?_⟩
        · rw [List.length_map]
          exact ixN_nat (by omega)
        have O7 : Off (foot wa hc rw) H (upd H6 hc (.lst ((Li.1.map V.int).set i (.int (row.headD y))))) := O6.trans (Off.upd cF)
        have W7 : W3 (upd H6 hc (.lst ((Li.1.map V.int).set i (.int (row.headD y))))) wa hc hs rw (t + 1) (step1 Li (i, sn)) := by
          rw [mtch_eq hy1 hrow]
          refine ⟨by rw [upd_ne wc]; exact up6 _ _ (Ne.symm qw) Wi.w, by rw [upd_same, List.map_set], by rw [upd_ne (Ne.symm W.hcs)]; exact up6 _ _ (Ne.symm qs') Wi.s, ?_, W.nd, W.hcr, W.hsr, W.hcs⟩
          refine rowL_imp (fun q hq o ho => ?_) (rowL_set W.nd Wi.r hq1)
          rw [upd_ne (fun z : q = hc => W.hcr (by rw [← z]; exact hq))]
          by_cases hqq : q = q1
          · subst hqq
            rw [upd_same] at ho
            rw [k6]
            exact ho
          · rw [upd_ne hqq] at ho
            exact up6 _ _ hqq ho
        have up7 : ∀ b o, b ≠ q1 → b ≠ hc → H' b = some o → (upd H6 hc (.lst ((Li.1.map V.int).set i (.int (row.headD y))))) b = some o := fun b o h1 h2 ho => by rw [upd_ne h2]; exact up6 _ _ h1 ho
        generalize upd H6 hc (.lst ((Li.1.map V.int).set i (.int (row.headD y)))) = H7 at O7 W7 up7 ⊢
        obtain ⟨ps, kx7, tv7⟩ := tl.ex
        have kx8 := up7 _ _ (Ne.symm qx) xc kx7
        have hV3 : ((step1 Li (i, sn)).1.map V.int)[i]? = some (.int (row.headD y)) := by
          rw [mtch_eq hy1 hrow, List.getElem?_map]
          show ((Li.1.set i (row.headD y))[i]?).map V.int = _
          rw [List.getElem?_set_self (by omega)]
          rfl
        refine ⟨.ref x, rfl, .inl ⟨rfl, _, .inl (.inl kx8)⟩, .int (i : Nat), rfl, .int (sn : Nat), rfl, .int y, rfl, .ref wa, rfl, wa, _, rfl, DGet.k (k := Sum.inr "carried") W7.w, .int (i : Nat), rfl, hc, _, _, .int (row.headD y), rfl, rfl, .inl (.inl W7.c), atI_nat hV3, (by show 4 ≤ sizeLine; decide), fun u hu => ?_⟩
        have smu := same_upd (o := .tup [.int (i : Nat), .int (sn : Nat), .int y, .int (row.headD y)]) hu
        have ku : (upd H7 u (.tup [.int (i : Nat), .int (sn : Nat), .int y, .int (row.headD y)])) u = some (.tup [.int (i : Nat), .int (sn : Nat), .int y, .int (row.headD y)]) := upd_same
        have kx9 := smu _ _ kx8
        have W8 := W7.same smu
        have O8 := O7.trans (Off.of smu)
        have tl9 : TL (upd H7 u (.tup [.int (i : Nat), .int (sn : Nat), .int y, .int (row.headD y)])) x (exL (visN rs t i) L) := by
          refine ⟨ps, kx9, tupsV_imp (fun b xs hb => smu _ _ (up7 _ _ (fun z => by rw [z, kq] at hb; cases hb) (fun z => by rw [z, Wi.c] at hb; cases hb) hb)) tv7⟩
        generalize upd H7 u (.tup [.int (i : Nat), .int (sn : Nat), .int y, .int (row.headD y)]) = H8 at smu ku kx9 W8 O8 tl9 ⊢
        have psl : ps.length ≤ i := by rw [tupsV_len tv7]; omega
        have nxF : ∀ {o : HO}, Off (foot wa hc rw) H (upd H8 x o) := fun {o} b v hb hv2 => by
          rw [upd_ne (fun z : b = x => by rw [z, nx] at hv2; cases hv2)]
          exact O8 b v hb hv2
        refine ⟨x, _, _, rfl, rfl, kx9, ?_, ⟨_, _, _, _, rfl⟩, nxF, ?_, ?_⟩
        · rw [List.length_map]
          exact small1000 (by omega)
        · rw [est]
          exact ⟨by rw [upd_ne (Ne.symm xw)]; exact W8.w, by rw [upd_ne (Ne.symm xc)]; exact W8.c, by rw [upd_ne (Ne.symm xs)]; exact W8.s, rowL_imp (fun q hq o ho => by rw [upd_ne (fun z : q = x => xr (by rw [← z]; exact hq))]; exact ho) W8.r, W.nd, W.hcr, W.hsr, W.hcs⟩
        · rw [eex, exch_eq hy1 hrow]
          exact tl9.push kx9 ku
    · subst es
      exact ⟨.ref x, rfl, q H' x O Wi nx tl⟩
end
end Sv
set_option maxHeartbeats 4000000
namespace Sv
open PySem PySem.Spec PyProof.Rows L2
def dTi (l : List Int) : PyData := .tuple (l.map PyData.int)
def dSt (t : Int) (L : Lay Int) : PyData := .tuple [.int t, dTi L.1, .tuple (L.2.map dTi)]
theorem dpAll_int {K : PySem.W.Frag} {H : Hp} : ∀ l : List Int, DpAll K H (l.map V.int) (l.map PyData.int)
  | [] => .nil
  | i :: l => .cons (.int i) (dpAll_int l)
theorem dp_ti {K : PySem.W.Frag} {H : Hp} {a : Addr} {l : List Int} (h : SqT K H a (l.map V.int)) : Dp K H (.ref a) (dTi l) := .tup h (dpAll_int l)
theorem dpAll_ti {K : PySem.W.Frag} {H : Hp} : ∀ {qs : List Addr} {ss : List (List Int)}, Paired (fun q s => SqT K H q (s.map V.int)) qs ss → DpAll K H (qs.map V.ref) (ss.map dTi)
  | _, _, .nil => .nil
  | _, _, .cons h t => .cons (dp_ti h) (dpAll_ti t)
theorem dp_state {K : PySem.W.Frag} {H : Hp} {s : Addr} {t : Int} {L : Lay Int} (x : StateAt K H s t L) : Dp K H (.ref s) (dSt t L) := by
  obtain ⟨ca, sh, h1, h2⟩ := x.ex
  obtain ⟨qs, h3, h4⟩ := h2.s
  exact .tup h1 (.cons (.int t) (.cons (dp_ti h2.c) (.cons (.tup h3 (dpAll_ti h4)) .nil)))
theorem okD_i (n : Nat) (i : Int) : okD n (.int i) = true := by cases n <;> rfl
theorem okDs_int (n : Nat) : ∀ l : List Int, okDs n (l.map PyData.int) = true
  | [] => by unfold okDs; rfl
  | i :: l => by
    rw [List.map_cons]
    unfold okDs
    rw [okDs_int n l, Bool.and_true]
    exact okD_i n i
theorem okD_ti {n : Nat} {l : List Int} (h : l.length ≤ 1000) : okD (n + 1) (dTi l) = true := by
  unfold dTi okD
  rw [okDs_int, List.length_map, decide_eq_true h]
  rfl
theorem okDs_ti {n : Nat} : ∀ {ss : List (List Int)}, (∀ s ∈ ss, s.length ≤ 1000) → okDs (n + 1) (ss.map dTi) = true
  | [], _ => by unfold okDs; rfl
  | s :: ss, h => by
    rw [List.map_cons]
    unfold okDs
    rw [okD_ti (h s (List.mem_cons_self ..)), okDs_ti fun x hx => h x (List.mem_cons_of_mem _ hx)]
    rfl
theorem okD_st {n : Nat} {t : Int} {L : Lay Int} (h1 : L.1.length ≤ 1000) (h2 : L.2.length ≤ 1000) (h3 : ∀ s ∈ L.2, s.length ≤ 1000) : okD (n + 3) (dSt t L) = true := by
  have e1 : okD (n + 2) (PyData.int t) = true := okD_i _ t
  have e2 : okD (n + 2) (dTi L.1) = true := okD_ti h1
  have e3 : okD (n + 2) (.tuple (L.2.map dTi)) = true := by
    unfold okD
    rw [okDs_ti h3, List.length_map, decide_eq_true h2]
    rfl
  unfold dSt okD
  have : okDs (n + 2) [PyData.int t, dTi L.1, .tuple (L.2.map dTi)] = true := by
    simp only [okDs, e1, e2, e3]
    rfl
  rw [this]
  rfl
end Sv
set_option maxHeartbeats 4000000
set_option maxHeartbeats 1000000
set_option maxHeartbeats 4000000
namespace Sv
open PySem PySem.Spec PyProof.Rows L2
/-- a valid plan, one of its states -/
structure PS0 (K : PySem.W.Frag) (H : Hp) (p s : Addr) (zs : List Int) (rs : List Ro) (t : Int) (L : Lay Int) : Prop where
  p : PlanAt K H p zs rs
  v : Val zs rs
  s : StateAt K H s t L
  o : StOk zs rs t L
theorem PS0.imp {K : PySem.W.Frag} {H H' : Hp} {p s : Addr} {zs : List Int} {rs : List Ro} {t : Int} {L : Lay Int} (x : PS0 K H p s zs rs t L) (e : ∀ a xs, SqT K H a xs → SqT K H' a xs) : PS0 K H' p s zs rs t L := by
  obtain ⟨a, b, h1, h2, h3⟩ := x.p.ex
  obtain ⟨qs, h4, h5⟩ := h3.ex
  exact ⟨⟨a, b, e _ _ h1, e _ _ h2, qs, e _ _ h4, paired_imp (K := K) e h5⟩, x.v, x.s.imp e, x.o⟩
theorem plan_imp {K : PySem.W.Frag} {H H' : Hp} {p : Addr} {zs : List Int} {rs : List Ro} (x : PlanAt K H p zs rs) (e : ∀ a xs, SqT K H a xs → SqT K H' a xs) : PlanAt K H' p zs rs := by
  obtain ⟨a, b, h1, h2, h3⟩ := x.ex
  obtain ⟨qs, h4, h5⟩ := h3.ex
  exact ⟨a, b, e _ _ h1, e _ _ h2, qs, e _ _ h4, paired_imp (K := K) e h5⟩
@[irreducible] def qPlanG (K : PySem.W.Frag) : Sp := spPlanG K
@[irreducible] def qState (K : PySem.W.Frag) : Sp := spState K
@[irreducible] def qBegun (K : PySem.W.Frag) : Sp := spBegun K
@[irreducible] def qSeen (K : PySem.W.Frag) : Sp := spSeen K
@[irreducible] def qStep (K : PySem.W.Frag) : Sp := spStep K
@[irreducible] def qAlike (K : PySem.W.Frag) : Sp := spAlike K 6
section
variable {K : PySem.W.Frag} {H : Hp} {Q : VK} {E : XK}
theorem go_planG {h l : Addr} {ns nc : Int} (L : LawH H h l) (h1 : 1 ≤ ns ∧ ns ≤ 12) (h2 : 1 ≤ nc ∧ nc ≤ 6) (q : ∀ H' p zs rs, St h l H H' → PlanAt K H' p zs rs → Val zs rs → (zs.length : Int) ≤ ns → (rs.length : Int) ≤ nc → Q (.ref p) H') : qPlanG K [.ref h, .int ns, .int nc] H Q E := by
  unfold qPlanG
  exact ⟨h, l, ns, nc, rfl, L, h1, h2, q⟩
theorem go_state {h l p : Addr} {zs : List Int} {rs : List Ro} (L : LawH H h l) (hp : PlanAt K H p zs rs) (hv : Val zs rs) (q : ∀ H' s t L, St h l H H' → StateAt K H' s t L → StOk zs rs t L → (-50 ≤ t ∧ t ≤ 1000000000000000) → Q (.ref s) H') : qState K [.ref h, .ref p] H Q E := by
  unfold qState
  exact ⟨h, l, p, zs, rs, rfl, L, hp, hv, fun H' s t L a b c d _ => q H' s t L a b c d⟩
theorem go_begun {s : Addr} {t : Int} {L : Lay Int} (hs : StateAt K H s t L) (hl : L.2.length ≤ 1000) (q : ∀ H' wa hc hs rw, Same H H' → W3 H' wa hc hs rw t L → (∀ b ∈ wa :: hc :: hs :: rw, H b = none) → Q (.ref wa) H') : qBegun K [.ref s] H Q E := by
  unfold qBegun
  exact ⟨s, t, L, rfl, hs, hl, q⟩
theorem go_seen {wa hc hs : Addr} {rw : List Addr} {t : Int} {L : Lay Int} (W : W3 H wa hc hs rw t L) (hl : L.2.length ≤ 1000) (q : NewSt K H t L Q) : qSeen K [.ref wa] H Q E := by
  unfold qSeen
  exact ⟨wa, hc, hs, rw, t, L, rfl, W, hl, q⟩
theorem go_step {p wa hc hs : Addr} {rw : List Addr} {zs : List Int} {rs : List Ro} {t : Int} {L : Lay Int} (hp : PlanAt K H p zs rs) (hv : Val zs rs) (W : W3 H wa hc hs rw t L) (hf : Fits rs.length zs L)
    (q : ∀ H' x, Off (foot wa hc rw) H H' → W3 H' wa hc hs rw (t + 1) (tickL rs t L) → H x = none → TL H' x (exL (vis rs t) L) → Q (.ref x) H') : qStep K [.ref p, .ref wa] H Q E := by
  unfold qStep
  exact ⟨p, wa, hc, hs, rw, zs, rs, t, L, rfl, hp, hv, W, hf, q⟩
theorem go_alike {x y : V} {d : PyData} (h1 : Dp K H x d) (h2 : Dp K H y d) (o : okD 6 d = true) (q : ∀ H', Same H H' → Q (.bl true) H') : qAlike K [x, y] H Q E := by
  unfold qAlike
  exact ⟨x, y, d, rfl, h1, h2, o, q⟩
end
theorem sqT_st {K : PySem.W.Frag} {h l : Addr} {H H' : Hp} (L : LawH H h l) (S : St h l H H') : ∀ a xs, SqT K H a xs → SqT K H' a xs := fun a xs s => sqT_x L S.k s
theorem Val.rne {zs : List Int} {rs : List Ro} (v : Val zs rs) : ∀ r ∈ rs, r ≠ [] := fun r hr => (v.ne r hr).1
theorem Val.lc1 {zs : List Int} {rs : List Ro} (v : Val zs rs) : 1 ≤ lc rs := (lc_le v.r2).1
end Sv
set_option maxHeartbeats 4000000
namespace Sv
open PySem PySem.Spec PyProof.Rows L2
theorem LawH.off {h l : Addr} {F : List Addr} {H H' : Hp} (L : LawH H h l) (hh : h ∉ F) (hl : l ∉ F) (e : Off F H H') : LawH H' h l := by
  obtain ⟨m, i, cs, e1, e2, e3⟩ := L.ex
  exact ⟨m, i, cs, e _ _ hh e1, e _ _ hl e2, e3⟩
theorem LawH.nn {h l b : Addr} {H : Hp} (L : LawH H h l) (hb : H b = none) : h ≠ b ∧ l ≠ b := by
  obtain ⟨m, i, cs, e1, e2, e3⟩ := L.ex
  exact ⟨ne_of_none e1 hb, ne_of_none e2 hb⟩
/-- another list of ours is changed -/
theorem W3.upd {H : Hp} {wa hc hs f : Addr} {rw : List Addr} {t : Int} {L : Lay Int} {o : HO} (x : W3 H wa hc hs rw t L) (h1 : f ∉ foot wa hc rw) (h2 : f ≠ hs) : W3 (L2.upd H f o) wa hc hs rw t L := by
  have n1 : wa ≠ f := fun z => h1 (by rw [← z]; exact List.mem_cons_self ..)
  have n2 : hc ≠ f := fun z => h1 (by rw [← z]; exact List.mem_cons_of_mem _ (List.mem_cons_self ..))
  have n3 : ∀ q ∈ rw, q ≠ f := fun q hq z => h1 (by rw [← z]; exact List.mem_cons_of_mem _ (List.mem_cons_of_mem _ hq))
  exact ⟨by rw [upd_ne n1]; exact x.w, by rw [upd_ne n2]; exact x.c, by rw [upd_ne (Ne.symm h2)]; exact x.s, rowL_imp (fun q hq o ho => by rw [upd_ne (n3 q hq)]; exact ho) x.r, x.nd, x.hcr, x.hsr, x.hcs⟩
theorem W3.new {H : Hp} {wa hc hs f : Addr} {rw : List Addr} {t : Int} {L : Lay Int} (x : W3 H wa hc hs rw t L) (h : H f = none) : f ∉ foot wa hc rw ∧ f ≠ hs := by
  refine ⟨fun m => ?_, fun z => by rw [z, x.s] at h; cases h⟩
  rcases List.mem_cons.mp m with z | m
  · rw [z, x.w] at h
    cases h
  rcases List.mem_cons.mp m with z | m
  · rw [z, x.c] at h
    cases h
  · exact rowL_free x.r h m
theorem okD_l {n : Nat} {ds : List PyData} (h : ds.length ≤ 1000) (o : okDs n ds = true) : okD (n + 1) (.list ds) = true := by
  unfold okD
  rw [o, decide_eq_true h]
  rfl
theorem okDs_2 {n : Nat} {a b : PyData} (h1 : okD n a = true) (h2 : okD n b = true) : okDs n [a, b] = true := by
  simp only [okDs, h1, h2]
  rfl
end Sv
set_option maxHeartbeats 4000000
namespace Sv
open PySem PySem.Spec PyProof.Rows L2
mutual
/-- no bools, no dicts; texts that can lie anywhere -/
def pld : PyData → Bool
  | .none => true
  | .int _ => true
  | .str x => PyData.canLay0 (.str x)
  | .list xs => pldAll xs
  | .tuple xs => pldAll xs
  | _ => false
def pldAll : List PyData → Bool
  | [] => true
  | d :: ds => pld d && pldAll ds
end
mutual
theorem eqv_pld : ∀ a b : PyData, pld a = true → pld b = true → (PyData.eqv a b = true ↔ a = b)
  | .none, .none, _, _ => by simp [PyData.eqv]
  | .none, .int _, _, _ => by simp [PyData.eqv]
  | .none, .str _, _, _ => by simp [PyData.eqv]
  | .none, .list _, _, _ => by simp [PyData.eqv]
  | .none, .tuple _, _, _ => by simp [PyData.eqv]
  | .int i, .none, _, _ => by simp [PyData.eqv]
  | .int i, .int j, _, _ => by simp [PyData.eqv]
  | .int i, .str _, _, _ => by simp [PyData.eqv]
  | .int i, .list _, _, _ => by simp [PyData.eqv]
  | .int i, .tuple _, _, _ => by simp [PyData.eqv]
  | .str x, .none, _, _ => by simp [PyData.eqv]
  | .str x, .int _, _, _ => by simp [PyData.eqv]
  | .str x, .str y, _, _ => by simp [PyData.eqv]
  | .str x, .list _, _, _ => by simp [PyData.eqv]
  | .str x, .tuple _, _, _ => by simp [PyData.eqv]
  | .list x, .none, _, _ => by simp [PyData.eqv]
  | .list x, .int _, _, _ => by simp [PyData.eqv]
  | .list x, .str _, _, _ => by simp [PyData.eqv]
  | .list x, .tuple _, _, _ => by simp [PyData.eqv]
  | .list x, .list y, h1, h2 => by
    unfold pld at h1 h2
    rw [PyData.eqv, eqv_pldAll x y h1 h2]
    exact ⟨fun e => by rw [e], fun e => by injection e⟩
  | .tuple x, .none, _, _ => by simp [PyData.eqv]
  | .tuple x, .int _, _, _ => by simp [PyData.eqv]
  | .tuple x, .str _, _, _ => by simp [PyData.eqv]
  | .tuple x, .list _, _, _ => by simp [PyData.eqv]
  | .tuple x, .tuple y, h1, h2 => by
    unfold pld at h1 h2
    rw [PyData.eqv, eqv_pldAll x y h1 h2]
    exact ⟨fun e => by rw [e], fun e => by injection e⟩
  | .bool _, _, h, _ => by simp [pld] at h
  | .dict _, _, h, _ => by simp [pld] at h
  | .none, .bool _, _, h => by simp [pld] at h
  | .none, .dict _, _, h => by simp [pld] at h
  | .int _, .bool _, _, h => by simp [pld] at h
  | .int _, .dict _, _, h => by simp [pld] at h
  | .str _, .bool _, _, h => by simp [pld] at h
  | .str _, .dict _, _, h => by simp [pld] at h
  | .list _, .bool _, _, h => by simp [pld] at h
  | .list _, .dict _, _, h => by simp [pld] at h
  | .tuple _, .bool _, _, h => by simp [pld] at h
  | .tuple _, .dict _, _, h => by simp [pld] at h
theorem eqv_pldAll : ∀ a b : List PyData, pldAll a = true → pldAll b = true → (PyData.eqvAll a b = true ↔ a = b)
  | [], [], _, _ => by simp [PyData.eqvAll]
  | [], _ :: _, _, _ => by simp [PyData.eqvAll]
  | _ :: _, [], _, _ => by simp [PyData.eqvAll]
  | x :: a, y :: b, h1, h2 => by
    unfold pldAll at h1 h2
    rw [Bool.and_eq_true] at h1 h2
    rw [PyData.eqvAll, Bool.and_eq_true, eqv_pld x y h1.1 h2.1, eqv_pldAll a b h1.2 h2.2, List.cons.injEq]
end
mutual
theorem can_pld : ∀ a : PyData, pld a = true → PyData.canLay0 a = true
  | .none, _ => by simp [PyData.canLay0]
  | .int _, _ => by simp [PyData.canLay0]
  | .str x, h => by unfold pld at h; exact h
  | .list x, h => by
    unfold pld at h
    rw [PyData.canLay0]
    exact can_pldAll x h
  | .tuple x, h => by
    unfold pld at h
    rw [PyData.canLay0]
    exact can_pldAll x h
  | .bool _, h => by simp [pld] at h
  | .dict _, h => by simp [pld] at h
theorem can_pldAll : ∀ a : List PyData, pldAll a = true → PyData.canLayAll0 a = true
  | [], _ => by simp [PyData.canLayAll0]
  | x :: a, h => by
    unfold pldAll at h
    rw [Bool.and_eq_true] at h
    rw [PyData.canLayAll0, can_pld x h.1, can_pldAll a h.2]
    rfl
end
mutual
theorem dep_okD : ∀ (n : Nat) (a : PyData), okD n a = true → PyData.depth a ≤ n
  | _, .none, _ => by simp [PyData.depth]
  | _, .int _, _ => by simp [PyData.depth]
  | _, .str _, _ => by simp [PyData.depth]
  | _, .bool _, _ => by simp [PyData.depth]
  | 0, .list _, h => by simp [okD] at h
  | 0, .tuple _, h => by simp [okD] at h
  | n + 1, .list x, h => by
    unfold okD at h
    rw [Bool.and_eq_true] at h
    rw [PyData.depth]
    have := dep_okDs n x h.2
    omega
  | n + 1, .tuple x, h => by
    unfold okD at h
    rw [Bool.and_eq_true] at h
    rw [PyData.depth]
    have := dep_okDs n x h.2
    omega
  | 0, .dict _, h => by simp [okD] at h
  | n + 1, .dict _, h => by simp [okD] at h
theorem dep_okDs : ∀ (n : Nat) (a : List PyData), okDs n a = true → PyData.depthAll a ≤ n
  | _, [], _ => by simp [PyData.depthAll]
  | n, x :: a, h => by
    unfold okDs at h
    rw [Bool.and_eq_true] at h
    rw [PyData.depthAll]
    have h1 := dep_okD n x h.1
    have h2 := dep_okDs n a h.2
    omega
end
theorem shaped_of {a : PyData} {n : Nat} (h : pld a = true) (o : okD n a = true) (hn : n ≤ 64) : SeqAt.shaped a = true := by
  unfold SeqAt.shaped
  rw [can_pld a h, decide_eq_true (Nat.le_trans (dep_okD n a o) hn)]
  rfl
open Classical in
theorem ne_go {K : PySem.W.Frag} {H : Hp} {x y : V} {a b : PyData} {Q : VK} {n m : Nat} (h1 : Dp K H x a) (h2 : Dp K H y b) (p1 : pld a = true) (p2 : pld b = true) (o1 : okD n a = true) (o2 : okD m b = true) (hn : n ≤ 64) (hm : m ≤ 64) (q : Q (.bl (!decide (a = b))) H) : qNe K x y H Q := by
  unfold qNe
  refine ⟨a, b, h1, h2, shaped_of p1 o1 hn, shaped_of p2 o2 hm, ?_⟩
  have e : PyData.eqv a b = decide (a = b) := by
    rw [Bool.eq_iff_iff, eqv_pld a b p1 p2, decide_eq_true_iff]
  rw [e]
  exact q
section
open Classical
variable {K : PySem.W.Frag} {H : Hp} {x y : V} {a b : PyData} {Q : VK} {n m : Nat}
theorem ne_same (h1 : Dp K H x a) (h2 : Dp K H y a) (p : pld a = true) (o : okD n a = true) (hn : n ≤ 64) (q : Q (.bl false) H) : qNe K x y H Q :=
  ne_go h1 h2 p p o o hn hn (by rw [decide_eq_true rfl]; exact q)
theorem ne_diff (h1 : Dp K H x a) (h2 : Dp K H y b) (p1 : pld a = true) (p2 : pld b = true) (o1 : okD n a = true) (o2 : okD m b = true) (hn : n ≤ 64) (hm : m ≤ 64) (d : a ≠ b) (q : Q (.bl true) H) : qNe K x y H Q :=
  ne_go h1 h2 p1 p2 o1 o2 hn hm (by rw [decide_eq_false d]; exact q)
end
theorem pldAll_int : ∀ l : List Int, pldAll (l.map PyData.int) = true
  | [] => by unfold pldAll; rfl
  | i :: l => by
    rw [List.map_cons]
    unfold pldAll
    rw [pldAll_int l, Bool.and_true]
    unfold pld
    rfl
theorem pld_ti (l : List Int) : pld (dTi l) = true := by
  unfold dTi pld
  exact pldAll_int l
theorem pldAll_ti : ∀ ss : List (List Int), pldAll (ss.map dTi) = true
  | [] => by unfold pldAll; rfl
  | s :: ss => by
    rw [List.map_cons]
    unfold pldAll
    rw [pld_ti, pldAll_ti ss]
    rfl
theorem map_int_inj {a b : List Int} (h : a.map PyData.int = b.map PyData.int) : a = b := by
  have := congrArg (List.map fun d => match d with | .int i => i | _ => (0 : Int)) h
  rwa [List.map_map, List.map_map, show ((fun d => match d with | .int i => i | _ => (0 : Int)) ∘ PyData.int) = id from rfl, List.map_id, List.map_id] at this
theorem dTi_inj {a b : List Int} (h : dTi a = dTi b) : a = b := by
  unfold dTi at h
  injection h with h
  exact map_int_inj h
theorem pld_int (i : Int) : pld (.int i) = true := by unfold pld; rfl
end Sv
set_option maxHeartbeats 1000000
set_option maxHeartbeats 1000000
namespace Sv
section
variable {n : Nat} {zs : List Int} {rs rs2 : List Ro} {t : Int}
/-- from where what is at each place has come, in the tick behind the time m -/
def o1 (n : Nat) (zs : List Int) (rs : List Ro) (m : Int) : List Nat := org n zs rs m 1
theorem o1_len (m : Int) : (o1 n zs rs m).length = n + sumN zs := org_len ..
theorem tick_o1 {α : Type} (d : α) {L : Lay α} (h : Fits n zs L) (m : Int) : join (tickL rs m L) = (o1 n zs rs m).map fun i => (join L).getD i d := by
  have := run_org d h rs m 1
  have e : run rs m 1 L = tickL rs m L := by
    show tickL rs (m + ((0 : Nat) : Int)) L = _
    rw [show m + ((0 : Nat) : Int) = m by omega]
  rw [e] at this
  exact this
theorem lay_eq {α : Type} {L M : Lay α} (h : Fits n zs L) (g : Fits n zs M) (e : join L = join M) : L = M := by
  rw [← spl_join h, ← spl_join g, e]
theorem tick_fits {α : Type} {L : Lay α} (h : Fits n zs L) (m : Int) : Fits n zs (tickL rs m L) := by
  have := run_fits rs m 1 h
  have e : run rs m 1 L = tickL rs m L := by
    show tickL rs (m + ((0 : Nat) : Int)) L = _
    rw [show m + ((0 : Nat) : Int) = m by omega]
  rw [e] at this
  exact this
theorem run_same {α : Type} (d : α) {L : Lay α} (h : Fits n zs L) : ∀ k : Nat, (∀ j : Nat, j < k → o1 n zs rs (t + (j : Nat)) = o1 n zs rs2 (t + (j : Nat))) → run rs t k L = run rs2 t k L
  | 0, _ => rfl
  | k + 1, hs => by
    show tickL rs (t + (k : Nat)) (run rs t k L) = tickL rs2 (t + (k : Nat)) (run rs2 t k L)
    rw [← run_same d h k fun j hj => hs j (by omega)]
    have f := run_fits rs t k h
    refine lay_eq (tick_fits f _) (tick_fits f _) ?_
    rw [tick_o1 d f, tick_o1 d f, hs k (by omega)]
theorem map_getD_inj {cs : List Int} (nd : cs.Nodup) : ∀ {a b : List Nat}, (∀ x ∈ a, x < cs.length) → (∀ x ∈ b, x < cs.length) → a.map (fun i => cs.getD i 0) = b.map (fun i => cs.getD i 0) → a = b
  | [], [], _, _, _ => rfl
  | [], _ :: _, _, _, h => by cases h
  | _ :: _, [], _, _, h => by cases h
  | x :: a, y :: b, ha, hb, h => by
    rw [List.map_cons, List.map_cons] at h
    injection h with h1 h2
    rw [map_getD_inj nd (fun z hz => ha z (List.mem_cons_of_mem _ hz)) (fun z hz => hb z (List.mem_cons_of_mem _ hz)) h2]
    congr 1
    have hx := ha x (List.mem_cons_self ..)
    have hy := hb y (List.mem_cons_self ..)
    rw [List.getD_eq_getElem?_getD, List.getD_eq_getElem?_getD, List.getElem?_eq_getElem hx, List.getElem?_eq_getElem hy] at h1
    exact (List.getElem_inj nd).mp h1
theorem run_diff {L : Lay Int} (h : Fits n zs L) (nd : (join L).Nodup) (k : Nat) (hs : ∀ j : Nat, j < k → o1 n zs rs (t + (j : Nat)) = o1 n zs rs2 (t + (j : Nat))) (hd : o1 n zs rs (t + (k : Nat)) ≠ o1 n zs rs2 (t + (k : Nat))) : run rs t (k + 1) L ≠ run rs2 t (k + 1) L := by
  intro e
  have e1 : tickL rs (t + (k : Nat)) (run rs t k L) = tickL rs2 (t + (k : Nat)) (run rs2 t k L) := e
  rw [← run_same (0 : Int) h k hs] at e1
  have f := run_fits rs t k h
  have e2 := congrArg join e1
  rw [tick_o1 0 f, tick_o1 0 f] at e2
  have p : (join (run rs t k L)).Perm (join L) := by
    have q := run_org (0 : Int) h rs t k
    have oe := org_eff n zs rs t k
    have ol := org_len n zs rs t k
    have pr : (org n zs rs t k).Perm (List.range (join L).length) := by
      refine (List.perm_ext_iff_of_nodup oe.2 List.nodup_range).mpr fun x => ⟨fun hx => ?_, fun hx => ?_⟩
      · have := oe.1 x hx
        rw [join_len h, ← ol]
        exact List.mem_range.mpr this
      · have hx' := List.mem_range.mp hx
        rw [join_len h, ← ol] at hx'
        have h1 := ap_at (e := org n zs rs t k) (x := ap (inv (org n zs rs t k)) x) (by
          have := ap_lt (inv_eff oe) (x := x) (by rw [inv_len]; exact hx')
          rwa [inv_len] at this)
        rw [ap_inv oe hx'] at h1
        exact List.mem_of_getElem? h1
    rw [q]
    have := pr.map fun i => (join L).getD i 0
    rwa [map_getD 0 (join L)] at this
  have nd2 := p.nodup_iff.mpr nd
  have jl := join_len f
  refine hd (map_getD_inj nd2 (fun x hx => ?_) (fun x hx => ?_) e2)
  · have h1 := (org_eff n zs rs (t + (k : Nat)) 1).1 x hx
    rw [org_len] at h1
    omega
  · have h1 := (org_eff n zs rs2 (t + (k : Nat)) 1).1 x hx
    rw [org_len] at h1
    omega
theorem org_same (k : Nat) (hs : ∀ j : Nat, j < k → o1 n zs rs (t + (j : Nat)) = o1 n zs rs2 (t + (j : Nat))) : org n zs rs t k = org n zs rs2 t k := by
  unfold org
  rw [run_same 0 (idx_fits n zs) k hs]
theorem eff_same (h : ∀ r ∈ rs, r ≠ []) (h2 : ∀ r ∈ rs2, r ≠ []) (p : 1 ≤ lc rs) (p2 : 1 ≤ lc rs2) (k : Nat) (hs : ∀ j : Nat, j < k → o1 n zs rs (t + (j : Nat)) = o1 n zs rs2 (t + (j : Nat))) : effT n zs rs t (k : Nat) = effT n zs rs2 t (k : Nat) := by
  rw [effT_nat n zs h p, effT_nat n zs h2 p2]
  unfold fwd
  rw [org_same k hs]
theorem all_same (h : ∀ r ∈ rs, r ≠ []) (h2 : ∀ r ∈ rs2, r ≠ []) {M : Nat} (hM : 1 ≤ M) (d : lc rs ∣ M) (d2 : lc rs2 ∣ M) (hs : ∀ j : Nat, j < M → o1 n zs rs (t + (j : Nat)) = o1 n zs rs2 (t + (j : Nat))) (c : Nat) : o1 n zs rs (t + (c : Nat)) = o1 n zs rs2 (t + (c : Nat)) := by
  have hlt := Nat.mod_lt c (show M > 0 by omega)
  have key : ∀ {x : Nat}, x ∣ M → ((x : Nat) : Int) ∣ (t + (c : Nat)) - (t + ((c % M : Nat) : Int)) := fun {x} hx => by
    obtain ⟨q, hq⟩ := hx
    refine ⟨(q * (c / M) : Nat), ?_⟩
    have e : c = M * (c / M) + c % M := (Nat.div_add_mod c M).symm
    have e2 : (t + (c : Nat)) - (t + ((c % M : Nat) : Int)) = ((M * (c / M) : Nat) : Int) := by omega
    rw [e2, ← Int.natCast_mul, ← Nat.mul_assoc, ← hq]
  have a := org_mod (n := n) (zs := zs) h (key d) 1
  have b := org_mod (n := n) (zs := zs) h2 (key d2) 1
  unfold o1 at hs ⊢
  rw [a, b]
  exact hs _ hlt
/-- the first tick whose effect differs, counted from 1; none: never -/
def FdV (n : Nat) (zs : List Int) (rs rs2 : List Ro) (t : Int) : Option Nat → Prop
  | none => ∀ c : Nat, o1 n zs rs (t + (c : Nat)) = o1 n zs rs2 (t + (c : Nat))
  | some m => 1 ≤ m ∧ m ≤ 60 ∧ o1 n zs rs (t + ((m - 1 : Nat) : Int)) ≠ o1 n zs rs2 (t + ((m - 1 : Nat) : Int)) ∧ ∀ j : Nat, j < m - 1 → o1 n zs rs (t + (j : Nat)) = o1 n zs rs2 (t + (j : Nat))
theorem FdV.one : ∀ {a b : Option Nat}, FdV n zs rs rs2 t a → FdV n zs rs rs2 t b → a = b
  | none, none, _, _ => rfl
  | none, some m, h, g => (g.2.2.1 (h _)).elim
  | some m, none, h, g => (h.2.2.1 (g _)).elim
  | some a, some b, h, g => by
    congr 1
    rcases Nat.lt_trichotomy a b with z | z | z
    · exact (h.2.2.1 (g.2.2.2 (a - 1) (by have := h.1; omega))).elim
    · exact z
    · exact (g.2.2.1 (h.2.2.2 (b - 1) (by have := g.1; omega))).elim
theorem FdV.comm : ∀ {a : Option Nat}, FdV n zs rs rs2 t a → FdV n zs rs2 rs t a
  | none, h => fun c => (h c).symm
  | some _, h => ⟨h.1, h.2.1, fun e => h.2.2.1 e.symm, fun j hj => (h.2.2.2 j hj).symm⟩
end
end Sv
set_option maxHeartbeats 4000000
namespace Sv
open PySem PySem.Spec PyProof.Rows L2
section
variable {P : Program} {w : World} {K : PySem.W.Frag} {mg : Str → Option Value} {base : Heap}
theorem ite_no {b : Bool} {A B : Prop} (h : b = false) (g : B) : if b = true then A else B := by
  rw [if_neg (by rw [h]; decide)]
  exact g
theorem ite_yes {b : Bool} {A B : Prop} (h : b = true) (g : A) : if b = true then A else B := by
  rw [if_pos h]
  exact g
theorem pInts_inj {a b : List Int} (h : a.map PyData.int = b.map PyData.int) : a = b := (List.map_inj_right fun x y z => PyData.int.inj z).mp h
theorem iN_inj {a b : List Nat} (h : iN a = iN b) : a = b := (List.map_inj_right fun x y z => Int.ofNat.inj z).mp h
theorem neL_go {K : PySem.W.Frag} {H : Hp} {a b : Addr} {l m : List Int} {Q : VK} (h1 : H a = some (.lst (l.map V.int))) (h2 : H b = some (.lst (m.map V.int))) (l1 : l.length ≤ 1000) (l2 : m.length ≤ 1000) (q : Q (.bl (!decide (l = m))) H) : qNe K (.ref a) (.ref b) H Q := by
  have d1 : Dp K H (.ref a) (.list (l.map PyData.int)) := .lst (.inl (.inl h1)) (dpAll_int l)
  have d2 : Dp K H (.ref b) (.list (m.map PyData.int)) := .lst (.inl (.inl h2)) (dpAll_int m)
  have p : ∀ l : List Int, pld (.list (l.map PyData.int)) = true := fun l => by unfold pld; exact pldAll_int l
  have o : ∀ l : List Int, l.length ≤ 1000 → okD 1 (.list (l.map PyData.int)) = true := fun l hl => okD_l (by rw [List.length_map]; exact hl) (okDs_int 0 l)
  by_cases e : l = m
  · rw [decide_eq_true e] at q
    subst e
    exact ne_same d1 d2 (p l) (o l l1) (by decide) q
  · rw [decide_eq_false e] at q
    exact ne_diff d1 d2 (p l) (p m) (o l l1) (o m l2) (by decide) (by decide) (fun z => e (by injection z with z; exact pInts_inj z)) q
theorem scOrigins : FnScope ["plan", "number", "carried", "shelves", "exchanges"] ["plan", "number"] (defScope sOrigins) := ⟨rfl, rfl, rfl, by decide +kernel, rfl, by decide +kernel, by decide +kernel⟩
def spOrigins (K : PySem.W.Frag) : Sp := fun vs H Q _ => ∃ (p : Addr) (m : Int) (zs : List Int) (rs : List Ro), vs = [.ref p, .int m] ∧ PlanAt K H p zs rs ∧ Val zs rs ∧
  ∀ H' u lo ex, Same H H' → H' u = some (.tup [.ref lo, .ref ex]) → H' lo = some (.lst ((iN (o1 rs.length zs rs (m - 1))).map V.int)) → Q (.ref u) H'
theorem ok_origins (T : Bd P K mg) : FnOk P w K mg base CX0 3 T.aOrigins T.dOrigins ["plan", "number"] (spOrigins K) := by
  have GN : FnOk P w K mg base CX0 1 T.aNumPlaces T.dNumPlaces ["plan"] (spNum K) := ok_num T
  have GS : FnOk P w K mg base CX0 1 T.aSplit T.dSplit ["plan", "contents"] (spSplit K) := ok_split T
  have GA : FnOk P w K mg base CX0 2 T.aAfterTick T.dAfterTick ["plan", "number", "carried", "shelves"] (spAfterTick K) := ok_afterTick T
  have GJ : FnOk P w K mg base CX0 1 T.aJoin T.dJoin ["carried", "shelves"] (spJoin K) := ok_join T
  refine T.Origins.F.ok scOrigins (fun vs H Q E h => ?_) (fun cdv A outer s H vs Q E hr h => ?_)
  · obtain ⟨p, m, zs, rs, rfl, _⟩ := h
    rfl
  · obtain ⟨p, m, zs, rs, rfl, hp, hv, q⟩ := h
    refine ⟨_, (pss_cons (ps_asg (pe_call (E := E0) GS (hr.mono (by decide)) (by rfl) T.Split.g T.Split.F.kp T.Split.b .nil pass0 (pa_cons (pv 0) (pa_cons (pe_listRg rfl (by rfl) T.bt.list (prg_1 (by rfl) T.bt.range (pe_call (E := E0) GN (hr.mono (by decide)) (by rfl) T.NumPlaces.g T.NumPlaces.F.kp T.NumPlaces.b .nil pass0 (pa_cons (pv 0) pa_nil)))) pa_nil))) (pg_tup rfl (pgs_cons (pg_name (i := 2) scOrigins.nd rfl (.inl rfl)) (pgs_cons (pg_name (i := 3) scOrigins.nd rfl (.inl rfl)) pgs_nil))))
      (pss_cons (ps_asg (pe_call (E := E0) GA (hr.mono (by decide)) (by rfl) T.AfterTick.g T.AfterTick.F.kp T.AfterTick.b .nil pass0 (pa_cons (pv 0) (pa_cons (pv 1) (pa_cons (pv 2) (pa_cons (pv 3) pa_nil))))) (pg_tup rfl (pgs_cons (pg_name (i := 2) scOrigins.nd rfl (.inl rfl)) (pgs_cons (pg_name (i := 3) scOrigins.nd rfl (.inl rfl)) (pgs_cons (pg_name (i := 4) scOrigins.nd rfl (.inl rfl)) pgs_nil)))))
      (pss_one (ps_ret (pe_tup (pa_cons (pe_call (E := E0) GJ (hr.mono (by decide)) (by rfl) T.Join.g T.Join.F.kp T.Join.b .nil pass0 (pa_cons (pv 2) (pa_cons (pv 3) pa_nil))) (pa_cons (pv 4) pa_nil))))))), ?_⟩
    have hN := hv.num
    have z1 := hv.z1
    have r1 := hv.r1
    have b62 : (1000 : Int) < 2 ^ 62 := by decide
    refine ⟨.ref p, rfl, .ref p, rfl, p, zs, rs, rfl, hp, fun z hz => (hv.z2 z hz).1, (rs.length + sumN zs : Nat), rfl, ⟨by omega, by omega, by omega, by omega, by omega⟩, fun oc hoc => ?_⟩
    rw [rgV_iN]
    have sm1 := same_upd (o := .lst ((iN (List.range (rs.length + sumN zs))).map V.int)) hoc
    have il : (iN (List.range (rs.length + sumN zs))).length = rs.length + sumN zs := by unfold iN; rw [List.length_map, List.length_range]
    refine ⟨p, oc, zs, rs, iN (List.range (rs.length + sumN zs)), rfl, hp.same sm1, .inl (.inl upd_same), hv.z2, z1.2, r1.2, by omega, fun H2 tp ca sh sm2 ht lay => ?_⟩
    refine ⟨tp, _, rfl, .inl (.inl ht), rfl, _, _, rfl, _, _, rfl, rfl, ?_⟩
    have smA := sm1.trans sm2
    have fI : Fits rs.length zs (spl rs.length zs (iN (List.range (rs.length + sumN zs)))) := spl_fits il
    refine ⟨.ref p, rfl, .int m, rfl, .ref ca, rfl, .ref sh, rfl, p, ca, sh, m, zs, rs, spl rs.length zs (iN (List.range (rs.length + sumN zs))), rfl, hp.same smA, hv, lay.t, fI, fun H3 t3 c3 s3 x3 sm3 ht3 lay3 tl3 nx3 => ?_⟩
    refine ⟨t3, _, rfl, .inl (.inl ht3), rfl, _, _, rfl, _, _, rfl, _, _, rfl, rfl, ?_⟩
    have fT := tick_fits (rs := rs) fI (m - 1)
    have jl := join_len fT
    have ej : join (tickL rs (m - 1) (spl rs.length zs (iN (List.range (rs.length + sumN zs))))) = iN (o1 rs.length zs rs (m - 1)) := by
      rw [tick_o1 0 fI, join_spl il]
      unfold iN
      refine List.map_congr_left fun i hi => ?_
      have h1 := (org_eff rs.length zs rs (m - 1) 1).1 i hi
      rw [org_len] at h1
      rw [List.getD_eq_getElem?_getD, List.getElem?_map, List.getElem?_range h1]
      rfl
    refine ⟨.ref c3, rfl, .ref s3, rfl, c3, s3, _, _, rfl, lay3, by rw [← List.length_append]; show (join _).length ≤ 1000; omega, fun H4 lo sm4 nlo klo => ?_⟩
    refine ⟨.ref x3, rfl, (by show 2 ≤ sizeLine; decide), fun u hu => ?_⟩
    have sm5 := same_upd (o := .tup [.ref lo, .ref x3]) hu
    refine q _ u lo x3 ((smA.trans sm3).trans (sm4.trans sm5)) upd_same (sm5 _ _ ?_)
    rw [klo, ← ej]
    rfl
theorem scFd : FnScope ["plan", "other", "time", "count", "origins", "_", "others"] ["plan", "other", "time"] (defScope sFirstDiff) := ⟨rfl, rfl, rfl, by decide +kernel, rfl, by decide +kernel, by decide +kernel⟩
def oV : Option Nat → V
  | none => .non
  | some m => .int (m : Nat)
def spFd (K : PySem.W.Frag) (C CD : Addr) : Sp := fun vs H Q E => ∃ (p o : Addr) (zs zs2 : List Int) (rs rs2 : List Ro) (t : Int), vs = [.ref p, .ref o, .int t] ∧ PlanAt K H p zs rs ∧ Small zs rs ∧ PlanAt K H o zs2 rs2 ∧ Small zs2 rs2 ∧ BadE C zs rs H E ∧
  (bad zs rs = none → BadE C zs2 rs2 H E) ∧
  (bad zs rs = none → bad zs2 rs2 = none → ¬ (zs = zs2 ∧ rs.length = rs2.length) → ∀ H', Same H H' → E (.ref CD) none H') ∧
  (bad zs rs = none → bad zs2 rs2 = none → zs = zs2 → rs.length = rs2.length → ∀ H' a, Same H H' → FdV rs.length zs rs rs2 t a → Q (oV a) H')
theorem ok_fd (T : Bd P K mg) : FnOk P w K mg base (L2.CX P w) 5 T.aFirstDiff T.dFirstDiff ["plan", "other", "time"] (spFd K T.C T.CD) := by
  have GP : FnOk P w K mg base (L2.CX P w) 4 T.aCheckPlan T.dCheckPlan ["plan"] (spCheckPlan K T.C) := ok_checkPlan T
  have GM : FnOk P w K mg base CX0 2 T.aCommon T.dCommon ["routes"] (spCommon K) := ok_common T
  have GO : FnOk P w K mg base CX0 3 T.aOrigins T.dOrigins ["plan", "number"] (spOrigins K) := ok_origins T
  refine T.FirstDiff.F.okX scFd (fun vs H Q E h => ?_) (fun cdv A outer s H vs Q E hr h => ?_)
  · obtain ⟨p, o, zs, zs2, rs, rs2, t, rfl, _⟩ := h
    rfl
  · obtain ⟨p, o, zs, zs2, rs, rs2, t, rfl, hp, hs, ho, hs2, q1, q2, q3, q4⟩ := h
    refine ⟨_, (pss_cons (ps_expr (pe_call (E := E) GP (hr.mono (by decide)) (by rfl) T.CheckPlan.g T.CheckPlan.F.kp T.CheckPlan.b .nil (passes_call (takes_of rfl rfl rfl rfl) fun _ _ _ _ h => h) (pa_cons (pv 0) pa_nil)))
      (pss_cons (ps_expr (pe_call (E := E) GP (hr.mono (by decide)) (by rfl) T.CheckPlan.g T.CheckPlan.F.kp T.CheckPlan.b .nil (passes_call (takes_of rfl rfl rfl rfl) fun _ _ _ _ h => h) (pa_cons (pv 1) pa_nil)))
      (pss_cons (ps_if (pw_or (pt_cmpR (op_neQ hr.units) (pe_ix ix_tup (pv 0) pe_int (fun _ _ => rfl)) (pe_ix ix_tup (pv 1) pe_int (fun _ _ => rfl)) (nomark _)) (pw_or1 (pt_cmpR op_ne (pe_callB call_len_seq (by rfl) T.bt.len b_len (pa_cons (pe_ix ix_tup (pv 0) pe_int (fun _ _ => rfl)) pa_nil)) (pe_callB call_len_seq (by rfl) T.bt.len b_len (pa_cons (pe_ix ix_tup (pv 1) pe_int (fun _ _ => rfl)) pa_nil)) (nomark _)))).pt (pss_one (ps_raise rfl (takes_of rfl rfl rfl rfl) (pmk_own PySem.F.excBase_ValueError T.cd.x T.cd.g T.cd.k (raises_own T.cd.b T.cd.t) rfl))) pss_nil)
      (pss_cons (ps_for (passes_of rfl) rfl (pi_range2 (by rfl) T.bt.range (pa_cons pe_int (pa_cons (pe_op op_add (pe_callBfun cr_lcm (by rfl) T.lcm (pa_cons (pe_call (E := E0) GM (hr.mono (by decide)) (by rfl) T.Common.g T.Common.F.kp T.Common.b .nil pass0 (pa_cons (pe_ix ix_tup (pv 0) pe_int (fun _ _ => rfl)) pa_nil)) (pa_cons (pe_call (E := E0) GM (hr.mono (by decide)) (by rfl) T.Common.g T.Common.F.kp T.Common.b .nil pass0 (pa_cons (pe_ix ix_tup (pv 1) pe_int (fun _ _ => rfl)) pa_nil)) pa_nil))) pe_int) pa_nil))) (pg_name (i := 3) scFd.nd rfl (.inl rfl)) (pss_cons (ps_asg (pe_call (E := E0) GO (hr.mono (by decide)) (by rfl) T.Origins.g T.Origins.F.kp T.Origins.b .nil pass0 (pa_cons (pv 0) (pa_cons (pe_op op_add (pv 2) (pv 3)) pa_nil))) (pg_tup rfl (pgs_cons (pg_name (i := 4) scFd.nd rfl (.inl rfl)) (pgs_cons (pg_name (i := 5) scFd.nd rfl (.inl rfl)) pgs_nil))))
      (pss_cons (ps_asg (pe_call (E := E0) GO (hr.mono (by decide)) (by rfl) T.Origins.g T.Origins.F.kp T.Origins.b .nil pass0 (pa_cons (pv 1) (pa_cons (pe_op op_add (pv 2) (pv 3)) pa_nil))) (pg_tup rfl (pgs_cons (pg_name (i := 6) scFd.nd rfl (.inl rfl)) (pgs_cons (pg_name (i := 5) scFd.nd rfl (.inl rfl)) pgs_nil))))
      (pss_one (ps_if (pt_cmpR (op_neQ hr.units) (pv 4) (pv 6) (nomark _)) (pss_one (ps_ret (pv 3))) pss_nil)))))
      (pss_one (ps_ret pe_non)))))), ?_⟩
    refine ⟨.ref p, rfl, p, zs, rs, rfl, hp, hs, fun e1 H1 sm1 => ?_, q1⟩
    have hv := val_of e1
    refine ⟨.ref o, rfl, o, zs2, rs2, rfl, ho.same sm1, hs2, fun e2 H2 sm2 => ?_, fun part i e => (q2 e1 part i e).imp sm1⟩
    have hv2 := val_of e2
    have smA := sm1.trans sm2
    have hpA := hp.same smA
    have hoA := ho.same smA
    obtain ⟨a, b, hp1, ha, hb⟩ := hpA.ex
    obtain ⟨a2, b2, ho1, ha2, hb2⟩ := hoA.ex
    obtain ⟨qs, hB, hP⟩ := hb.ex
    obtain ⟨qs2, hB2, hP2⟩ := hb2.ex
    have hql := paired_len hP
    have hql2 := paired_len hP2
    have z1 := hv.z1
    have r1 := hv.r1
    have z12 := hv2.z1
    have r12 := hv2.r1
    refine ⟨.ref p, rfl, p, _, 0, .ref a, rfl, rfl, hp1, rfl, .ref o, rfl, o, _, 0, .ref a2, rfl, rfl, ho1, rfl, ?_⟩
    have same2 : ∀ {Q9 : VK}, Q9 (.bl (!decide (zs = zs2))) H2 → qNe K (.ref a) (.ref a2) H2 Q9 := fun {Q9} q9 => by
      by_cases e : zs = zs2
      · rw [decide_eq_true e] at q9
        subst e
        exact ne_same (n := 1) (dp_ti ha) (dp_ti ha2) (pld_ti zs) (okD_ti (by omega)) (by decide) q9
      · rw [decide_eq_false e] at q9
        exact ne_diff (n := 1) (m := 1) (dp_ti ha) (dp_ti ha2) (pld_ti zs) (pld_ti zs2) (okD_ti (by omega)) (okD_ti (by omega)) (by decide) (by decide) (fun z => e (dTi_inj z)) q9
    refine same2 ⟨_, rfl, ?_⟩
    by_cases ez : zs = zs2
    · refine ite_no (by rw [decide_eq_true ez]; rfl) ⟨.ref p, rfl, p, _, 1, .ref b, rfl, rfl, hp1, rfl, b, _, rfl, .inr hB, .ref o, rfl, o, _, 1, .ref b2, rfl, rfl, ho1, rfl, b2, _, rfl, .inr hB2, rfl, _, rfl, ?_⟩
      rw [List.length_map, List.length_map, hql, hql2, int_eqV]
      by_cases el : rs.length = rs2.length
      · refine ite_no (by rw [decide_eq_true (by omega)]; rfl) ?_
        refine ⟨.ref p, rfl, p, _, 1, .ref b, rfl, rfl, hp1, rfl, b, rs, rfl, hb, hv.r2, fun H3 sm3 => ⟨.ref o, rfl, o, _, 1, .ref b2, rfl, rfl, sqT_same sm3 ho1, rfl, b2, rs2, rfl, hb2.same sm3, hv2.r2, fun H4 sm4 => ?_⟩⟩
        have smB := (smA.trans sm3).trans sm4
        have l60 := lc_le hv.r2
        have l602 := lc_le hv2.r2
        have M60 : Nat.lcm (lc rs) (lc rs2) ≤ 60 := Nat.le_of_dvd (by decide) (Nat.lcm_dvd (lc_dvd60 hv.r2) (lc_dvd60 hv2.r2))
        have M1 : 1 ≤ Nat.lcm (lc rs) (lc rs2) := Nat.lcm_pos (by omega) (by omega)
        have p64 : (1000 : Nat) < 2 ^ 64 := by decide
        have p62 : (1000 : Int) < 2 ^ 62 := by decide
        refine ⟨lc rs, lc rs2, rfl, by omega, by omega, _, 1, rfl, rfl, 1, ((Nat.lcm (lc rs) (lc rs2) : Nat) : Int) + 1, rfl, ⟨by omega, by omega, by omega, by omega⟩, ?_⟩
        have eM : (((Nat.lcm (lc rs) (lc rs2) : Nat) : Int) + 1 - 1).toNat = Nat.lcm (lc rs) (lc rs2) := by omega
        have dM := Nat.dvd_lcm_left (lc rs) (lc rs2)
        have dM2 := Nat.dvd_lcm_right (lc rs) (lc rs2)
        generalize Nat.lcm (lc rs) (lc rs2) = M at M60 M1 eM dM dM2 ⊢
        refine for_range (lo := 1) (n := (((M : Nat) : Int) + 1 - 1).toNat) (fun i σ H' => (∃ x3 x4 x5 x6, σ = [some (.ref p), some (.ref o), some (.int t), x3, x4, x5, x6]) ∧ Same H H' ∧ ∀ j : Nat, j < i → o1 rs.length zs rs (t + (j : Nat)) = o1 rs.length zs rs2 (t + (j : Nat)))
          ⟨⟨_, _, _, _, rfl⟩, smB, fun j hj => absurd hj (Nat.not_lt_zero _)⟩ (fun i σ H' hi ⟨⟨x3, x4, x5, x6, es⟩, sm, heq⟩ => ?_) (fun σ H' ⟨⟨x3, x4, x5, x6, es⟩, sm, heq⟩ => ?_)
        · subst es
          rw [eM] at hi
          refine ⟨.ref p, rfl, .int t, rfl, .int (1 + (i : Nat)), rfl, _, _, rfl, rfl, p, t + (1 + (i : Nat)), zs, rs, rfl, hp.same sm, hv, fun H5 u5 lo5 ex5 sm5 hu5 hlo5 => ⟨u5, _, rfl, .inl (.inl hu5), rfl, _, _, rfl, _, _, rfl, rfl, ?_⟩⟩
          have smC := sm.trans sm5
          refine ⟨.ref o, rfl, .int t, rfl, .int (1 + (i : Nat)), rfl, _, _, rfl, rfl, o, t + (1 + (i : Nat)), zs2, rs2, rfl, ho.same smC, hv2, fun H6 u6 lo6 ex6 sm6 hu6 hlo6 => ⟨u6, _, rfl, .inl (.inl hu6), rfl, _, _, rfl, _, _, rfl, rfl, ?_⟩⟩
          have et : t + (1 + (i : Nat)) - 1 = t + (i : Nat) := by omega
          rw [et] at hlo5 hlo6
          rw [← ez, ← el] at hlo6
          have hl5 := sm6 _ _ hlo5
          have ol := o1_len (n := rs.length) (zs := zs) (rs := rs) (t + (i : Nat))
          have ol2 := o1_len (n := rs.length) (zs := zs) (rs := rs2) (t + (i : Nat))
          have hN := hv.num
          refine ⟨.ref lo5, rfl, .ref lo6, rfl, ?_⟩
          refine neL_go hl5 hlo6 (by unfold iN; rw [List.length_map]; omega) (by unfold iN; rw [List.length_map]; omega) ⟨_, rfl, ?_⟩
          by_cases e : o1 rs.length zs rs (t + (i : Nat)) = o1 rs.length zs rs2 (t + (i : Nat))
          · refine ite_no (by rw [decide_eq_true (by rw [e])]; rfl) ⟨⟨_, _, _, _, rfl⟩, smC.trans sm6, fun j hj => ?_⟩
            by_cases hji : j = i
            · subst hji
              exact e
            · exact heq j (by omega)
          · refine ite_yes (by rw [decide_eq_false fun z => e (iN_inj z)]; rfl) ⟨.int (1 + (i : Nat)), rfl, ?_⟩
            have := q4 e1 e2 ez el _ (some (i + 1)) (smC.trans sm6) ⟨by omega, by omega, e, heq⟩
            rw [show oV (some (i + 1)) = V.int (1 + (i : Nat)) by show V.int ((i + 1 : Nat) : Int) = _; congr 1; omega] at this
            exact this
        · rw [eM] at heq
          exact q4 e1 e2 ez el H' none sm (all_same hv.rne hv2.rne M1 dM dM2 heq)
      · exact ite_yes (by rw [decide_eq_false (by omega)]; rfl) (q3 e1 e2 (fun z => el z.2) H2 smA)
    · exact ite_yes (by rw [decide_eq_false ez]; rfl) (q3 e1 e2 (fun z => ez z.1) H2 smA)
end
end Sv
set_option maxHeartbeats 8000000
namespace Sv
open PySem PySem.Spec PyProof.Rows L2 LamX NdefX
section
variable {P : Program} {w : World} {K : PySem.W.Frag} {mg : Str → Option Value} {base : Heap}
/-- THE RULE for a def whose code object is known -/
theorem fun_okC {x qual : Str} {st : Stmt} {f c : Addr} {fd : FuncData} {N ps : List Str} {k : Nat} {sp : Sp} (F : Fun K x qual st f fd) (hc : fd.code = .ref c) (S : FnScope N ps (defScope st)) (len : ∀ vs H Q E, sp vs H Q E → vs.length = ps.length)
    (hbody : ∀ (A : Around) (outer : List Env) (s : Shared) (H : Hp) (vs : List V) (Q : VK) (E : XK), Room k (A.deeper (envOfC qual (defScope st) s.heap.objs.size f (.ref c))) → sp vs H Q E →
      ∃ t, PSs (cxOf CX0 P w K mg base N qual (defScope st) f (.ref c) A outer s H E).nox (defBody st) t ∧ t { nx := fun _ H' => Q .non H', rt := Q } (start N vs) H) : FnOk P w K mg base CX0 (k + 1) f fd ps sp := by
  obtain ⟨oc, od, kV, doc, pm, an, cdv, ct, osl, rfl, lk, hcd⟩ := F.ex
  obtain rfl : cdv = .ref c := hc
  refine fn_of lk hcd S len fun A outer s H vs Q E hr hsp => ?_
  obtain ⟨t, h, q⟩ := hbody A outer s H vs Q E hr hsp
  exact ⟨t, h.nox, q⟩
end
/-- the lambda at f, told by the maker's names js -/
def LamIs (X : Cx) (k : Nat) (H : Hp) (f : Addr) (js : List Nat) (tl : List (Option V) → XK → Hp → VK → Prop) : Prop :=
  ∃ (L : LF) (fr : List Str) (dvs : List V), H f = some (LamO f L) ∧ H L.c = some (CodeO L.c L.qual) ∧ DflAt H L.dV dvs ∧ LOk X.prog X.w X.K X.mg X.base k f L fr dvs tl ∧ (X.Ok → Caps X L.cl fr js)
theorem DflAt.ext {H H1 : Hp} {dV : Value} {dvs : List V} (d : DflAt H dV dvs) (e : ExtN H H1) : DflAt H1 dV dvs := by
  rcases d with ⟨a, b⟩ | ⟨a, T, b, c⟩
  · exact .inl ⟨a, b⟩
  · exact .inr ⟨a, T, b, e _ _ c (fun ps z => nomatch z)⟩
theorem LamIs.ext {X : Cx} {k : Nat} {H H1 : Hp} {f : Addr} {js : List Nat} {tl : List (Option V) → XK → Hp → VK → Prop} (h : LamIs X k H f js tl) (e : ExtN H H1) : LamIs X k H1 f js tl := by
  obtain ⟨L, fr, dvs, h1, h2, h3, h4, h5⟩ := h
  exact ⟨L, fr, dvs, e _ _ h1 (fun ps => lamO_tbl ps), e _ _ h2 codeO_ne, h3.ext e, h4, h5⟩
theorem extN_same {H H1 : Hp} (s : Same H H1) : ExtN H H1 := ExtN.of s
def freeB (sc scope : Scope) : Bool := scope.names.all fun y => match y.2 with
  | .free => (match sc.names.lookup y.1 with | some .cell => true | some .free => true | _ => false)
  | _ => true
theorem free_by {sc scope : Scope} (h : freeB sc scope = true) : ∀ y ∈ scope.names, y.2 = .free → sc.names.lookup y.1 = some .cell ∨ sc.names.lookup y.1 = some .free := fun y hy e => by
  have q := List.all_eq_true.mp h y hy
  rw [e] at q
  simp only at q
  split at q
  · rename_i z
    exact .inl z
  · rename_i z
    exact .inr z
  · cases q
/-- the reading of a lambda as a value -/
def tLamK (X : Cx) (k : Nat) (T : List (Addr × Str)) (js : List Nat) (tl : List (Option V) → XK → Hp → VK → Prop) : TE := fun _ H Q => Tabs T H ∧ ∀ (f : Addr) (H1 : Hp), ExtN H H1 → (∀ b, H1 b = none → H b = none) → Tabs T H1 → H f = none → LamIs X k H1 f js tl → Q (.ref f) H1
section
variable {X : Cx} {k : Nat} {T : List (Addr × Str)} {c P : Addr} {params : Arguments} {body : Expr} {scope : Scope} {pos : Pos} {js : List Nat} {fr N ps : List Str} {tl : List (Option V) → XK → Hp → VK → Prop}
/-- what its body keeps, wherever it was made -/
def LamB (X : Cx) (k : Nat) (N : List Str) (params : Arguments) (body : Expr) (scope : Scope) (fr : List Str) (dvs : List V) (tl : List (Option V) → XK → Hp → VK → Prop) : Prop :=
  ∀ (qual : Str) (cl : List (Str × Addr)) (dV : Value) (c f : Addr) (A : Around) (outer : List Env) (s : Shared) (H : Hp) (ws : List (Option V)) (Q : VK) (E : XK), Room k (A.deeper (envF (LF.nf ⟨params, body, scope, qual, cl, dV, c⟩) f s.heap.objs.size)) → tl ws E H Q →
    ∃ t, PE (ncx (L2.CX X.prog X.w) X.prog X.w X.K X.mg X.base N (LF.nf ⟨params, body, scope, qual, cl, dV, c⟩) f A outer s H E) body t ∧ t (startF N dvs ws) H Q
theorem lamB_ok {f c' : Addr} {cl : List (Str × Addr)} {q : Str} {dV : Value} {dvs : List V} (hB : LamB X k N params body scope fr dvs tl) (S : NScope N ps fr scope) (hb : LBinds ⟨params, body, scope, q, cl, dV, c'⟩ ps dvs) (hl : dvs.length = ps.length) :
    LOk X.prog X.w X.K X.mg X.base (k + 1) f ⟨params, body, scope, q, cl, dV, c'⟩ fr dvs tl := lok_of S hb hl fun A outer s H ws Q E hr _ ht => hB q cl dV c' f A outer s H ws Q E hr ht
theorem pe_lamK0 (LT : LamT X T c P) (hB : LamB X k N params body scope fr [] tl) (hd : defaultsOf params X.env = ([], []) := by rfl)
    (hfree : ∀ y ∈ scope.names, y.2 = .free → X.env.scope.names.lookup y.1 = some .cell ∨ X.env.scope.names.lookup y.1 = some .free := by exact free_by rfl)
    (S : NScope N [] fr scope := by exact nscope_by (by decide +kernel)) (hbn : ∀ q cl pm cv ctv, bindArgs (PySem.W.kla_fn "<lambda>" q params body scope cl pm cv ctv) ⟨[], []⟩ = pure [] := by intro q cl pm cv ctv; rfl)
    (hfr : ∀ y ∈ fr, (y, NameKind.free) ∈ scope.names := by decide +kernel) (hjs : js.map (fun j => X.N[j]?) = fr.map some := by rfl) :
    PE X (.Lambda params body scope pos) (tLamK X (k + 1) T js tl) := by
  refine ⟨fun pins s σ H Q I ⟨hT, h⟩ => (pe_lam0 LT hd hfree).run pins s σ H Q I ⟨hT, fun f c' dV H1 a1 a2 a3 a4 a5 a6 a7 => h f H1 a1 a2 a3 a4 ⟨_, fr, [], a5, a6, a7, lamB_ok hB S (lbinds0 hbn) rfl, fun ok => Caps.made ok hfree hfr hjs⟩⟩⟩
theorem pe_lamK1 {i : Int} {jn : Nat} {p2 : Pos} {a : Str} (LT : LamT X T c P) (hB : LamB X k N params body scope fr [.int i] tl) (hbn : ∀ q cl pm cv ctv (T : Addr) (u : Value), ∃ k, bindArgs { PySem.W.kla_fn "<lambda>" q params body scope cl pm cv ctv with defaults := .ref T } ⟨[], []⟩ = seqItems? (.ref T) >>= k ∧ k (some [u].toArray) = pure [(a, u)])
    (hd : defaultsOf params X.env = ([eval (.Constant (.int i) jn p2) X.env], []) := by rfl)
    (hfree : ∀ y ∈ scope.names, y.2 = .free → X.env.scope.names.lookup y.1 = some .cell ∨ X.env.scope.names.lookup y.1 = some .free := by exact free_by rfl)
    (S : NScope N [a] fr scope := by exact nscope_by (by decide +kernel))
    (hfr : ∀ y ∈ fr, (y, NameKind.free) ∈ scope.names := by decide +kernel) (hjs : js.map (fun j => X.N[j]?) = fr.map some := by rfl) :
    PE X (.Lambda params body scope pos) (tLamK X (k + 1) T js tl) := by
  refine ⟨fun pins s σ H Q I ⟨hT, h⟩ => (pe_lam1 (j := 0) LT hd hfree).run pins s σ H Q I ⟨hT, fun f c' dV H1 a1 a2 a3 a4 a5 a6 a7 => h f H1 a1 a2 a3 a4 ⟨_, fr, [.int i], a5, a6, a7, lamB_ok hB S (lbinds1 hbn) rfl, fun ok => Caps.made ok hfree hfr hjs⟩⟩⟩
end
section
variable {CS C0 C1 C2 C3 C4 C5 C6 C7 C8 C9 C10 C11 C12 C13 C14 : Addr}
/-- the reading of _law_error(lambda: ..) -/
def tErrL (K : PySem.W.Frag) (T : List (Addr × Str)) (js : List Nat) (tl : List (Option V) → XK → Hp → VK → Prop) (CS C0 C1 C2 C3 C4 C5 C6 C7 C8 C9 C10 C11 C12 C13 C14 : Addr) : TE := fun σ H Q => Tabs T H ∧ ∀ H1, ExtN H H1 → (∀ b, H1 b = none → H b = none) → Tabs T H1 → tl (js.map (slotAt σ)) (ErrE K CS C0 C1 C2 C3 C4 C5 C6 C7 C8 C9 C10 C11 C12 C13 C14 Q) H1 (OkQ Q)
/-- .. of a lambda that the def around holds -/
def tErrB (X : Cx) (k i : Nat) (σ0 : L2.St) (CS C0 C1 C2 C3 C4 C5 C6 C7 C8 C9 C10 C11 C12 C13 C14 : Addr) : TE := fun σ H Q => ∃ f js tl, σ[i]? = some (some (.ref f)) ∧ LamIs X k H f js tl ∧ tl (js.map (slotAt σ0)) (ErrE X.K CS C0 C1 C2 C3 C4 C5 C6 C7 C8 C9 C10 C11 C12 C13 C14 Q) H (OkQ Q)
/-- _law_error(lambda: ..) -/
theorem pe_errLam {X : Cx} {k : Nat} {g : Addr} {T : List (Addr × Str)} {js : List Nat} {tl : List (Option V) → XK → Hp → VK → Prop} {e : Expr} {p pos : Pos} (G : FnSt X.prog X.w X.K X.mg X.base (k + 1) g (KnErr X.prog X.w X.K X.mg X.base k CS C0 C1 C2 C3 C4 C5 C6 C7 C8 C9 C10 C11 C12 C13 C14))
    (hr : Room (k + 1) X.A) (hg : Gl X "_law_error") (hm : X.mg "_law_error" = some (.ref g)) (hk : PySem.W.keepIn X.K (.ref g) = true)
    (hfar : ∀ (pins : List (Addr × Obj)) (σ : L2.St) (H : Hp) (s : Shared), Inv X pins σ H s → Far X) (he : PE X e (tLamK X k T js tl)) (hst : starEach [e] X.env = (false, eval e X.env) :: starEach [] X.env := by rfl) :
    PE X (.Call (.Name "_law_error" p) [e] [] pos) (tErrL X.K T js tl CS C0 C1 C2 C3 C4 C5 C6 C7 C8 C9 C10 C11 C12 C13 C14) := by
  refine ⟨fun pins s σ H Q I ⟨hT, h⟩ => (pe_callSt (te := fun σ1 H1 Q1 => σ1 = σ ∧ tLamK X k T js tl σ1 H1 Q1) G hr hg hm hk ⟨fun pins s σ1 H Q I h => he.run pins s σ1 H Q I h.2⟩ (hst := hst)).run pins s σ H Q I ⟨rfl, hT, fun f H1 a1 a2 a3 a4 a5 pins' s' I' => ?_⟩⟩
  obtain ⟨L, fr, dvs, h1, h2, h3, h4, h5⟩ := a5
  have cp := h5 I'.ok
  exact ⟨f, L, fr, dvs, js.map (slotAt σ), tl, rfl, ⟨h1, h2, h3, h4, cells_of I' cp, fun y c e => hfar _ _ _ _ I' y c (cp.sub y c e)⟩, h H1 a1 a2 a3⟩
/-- _law_error(x) in a comprehension, x a lambda of the def around it -/
theorem pe_errBlk {X : Cx} {k : Nat} {g : Addr} {i : Nat} {x : Str} {p p2 pos : Pos} {scope : Scope} {σ0 : L2.St} {s0 : Shared} {H0 : Hp} {C : Addr} {cl : List (Str × Addr)} {fp : List Addr} (G : FnSt X.prog X.w X.K X.mg X.base (k + 1) g (KnErr X.prog X.w X.K X.mg X.base k CS C0 C1 C2 C3 C4 C5 C6 C7 C8 C9 C10 C11 C12 C13 C14))
    (hr : Room (k + 1) X.A) (hX : ∀ y, X.fn y = true) (B0 : Blk0 X σ0 s0 H0 cl fp) (hg : Gl (X.blk s0 H0 scope (compEnvC scope cl C X.env) fp) "_law_error") (hm : X.mg "_law_error" = some (.ref g)) (hk : PySem.W.keepIn X.K (.ref g) = true)
    (hv : PE (X.blk s0 H0 scope (compEnvC scope cl C X.env) fp) (.Name x p2) (tVar i)) :
    PE (X.blk s0 H0 scope (compEnvC scope cl C X.env) fp) (.Call (.Name "_law_error" p) [.Name x p2] [] pos)
      (tErrB X k i σ0 CS C0 C1 C2 C3 C4 C5 C6 C7 C8 C9 C10 C11 C12 C13 C14) := by
  refine ⟨fun pins s σ H Q I ⟨f, js, tl, e1, ⟨L, fr, dvs, h1, h2, h3, h4, h5⟩, ht⟩ => (pe_callSt (Y := X.blk s0 H0 scope (compEnvC scope cl C X.env) fp) G hr hg hm hk hv).run pins s σ H Q I ⟨.ref f, e1, fun pins' s' I' => ?_⟩⟩
  obtain ⟨pins0, I0, hfp⟩ := B0.inv
  have cp := h5 I0.ok
  have far := far_def I0 hX
  refine ⟨f, L, fr, dvs, js.map (slotAt σ0), tl, rfl, ⟨h1, h2, h3, h4, ?_, fun y c e => far y c (cp.sub y c e)⟩, ht⟩
  refine cells_later (fs := L2.frs X.stack) (ex := fp) (cells_of I0 cp) (fun y c e => far y c (cp.sub y c e)) (fun y c e hm => ?_) I'.base
  exact (hfp c hm).2.2.2.2.1 y c (cp.sub y c e) rfl
end
end Sv
set_option maxHeartbeats 8000000
namespace Sv
open PySem PySem.Spec PyProof.Rows L2 LamX NdefX
/-- all but lists and tables stay -/
def ExtL (H H1 : Hp) : Prop := ∀ b o, H b = some o → (∀ xs, o ≠ .lst xs) → (∀ ps, o ≠ .tbl ps) → H1 b = some o
theorem ExtL.refl (H : Hp) : ExtL H H := fun _ _ e _ _ => e
theorem ExtL.trans {H H1 H2 : Hp} (a : ExtL H H1) (b : ExtL H1 H2) : ExtL H H2 := fun c o e n m => b c o (a c o e n m) n m
theorem ExtL.n {H H1 : Hp} (e : ExtN H H1) : ExtL H H1 := fun b o h _ m => e b o h m
theorem ExtL.s {H H1 : Hp} (e : Same H H1) : ExtL H H1 := fun b o h _ _ => e b o h
theorem ExtL.x {H H1 : Hp} {h l : Addr} (L : LawH H h l) (e : SameX h l H H1) : ExtL H H1 := fun b o hb n _ => by
  obtain ⟨m, i, cs, e1, e2, _⟩ := L.ex
  refine e b o (fun z => ?_) (fun z => ?_) hb
  · rw [z, e1] at hb
    exact n _ (Option.some.inj hb).symm
  · rw [z, e2] at hb
    exact n _ (Option.some.inj hb).symm
theorem ExtL.upd {H : Hp} {p : Addr} {xs : List V} {o : HO} (h : H p = some (.lst xs)) : ExtL H (L2.upd H p o) := fun b u e n _ => by
  rw [upd_ne (fun z => by rw [z, h] at e; exact n _ (Option.some.inj e).symm)]
  exact e
theorem sqT_ext {K : PySem.W.Frag} {H H1 : Hp} {a : Addr} {xs : List V} (e : ExtL H H1) (h : SqT K H a xs) : SqT K H1 a xs := by
  rcases h with (h | ⟨o, h⟩) | h
  · exact .inl (.inl (e _ _ h (fun _ z => nomatch z) (fun _ z => nomatch z)))
  · exact .inl (.inr ⟨o, e _ _ h (fun _ z => nomatch z) (fun _ z => nomatch z)⟩)
  · exact .inr h
theorem LamIs.extL {X : Cx} {k : Nat} {H H1 : Hp} {f : Addr} {js : List Nat} {tl : List (Option V) → XK → Hp → VK → Prop} (h : LamIs X k H f js tl) (e : ExtL H H1) : LamIs X k H1 f js tl := by
  obtain ⟨L, fr, dvs, h1, h2, h3, h4, h5⟩ := h
  refine ⟨L, fr, dvs, e _ _ h1 (fun _ z => by unfold LamO at z; cases z) (fun ps => lamO_tbl ps), e _ _ h2 (fun _ z => by unfold CodeO at z; cases z) codeO_ne, ?_, h4, h5⟩
  rcases h3 with ⟨a, b⟩ | ⟨a, T, b, c⟩
  · exact .inl ⟨a, b⟩
  · exact .inr ⟨a, T, b, e _ _ c (fun _ z => nomatch z) (fun _ z => nomatch z)⟩
/-- the law's source and its table -/
structure LS (T : List (Addr × Str)) (h l : Addr) (H : Hp) : Prop where
  law : LawH H h l
  tabs : Tabs T H
theorem LawH.ext {H H' : Hp} {h l : Addr} (x : LawH H h l) (e : ExtN H H') : LawH H' h l := by
  obtain ⟨m, i, cs, e1, e2, e3⟩ := x.ex
  exact ⟨m, i, cs, e _ _ e1 (fun _ z => nomatch z), e _ _ e2 (fun _ z => nomatch z), e3⟩
theorem tabs_x {T : List (Addr × Str)} {H H1 : Hp} {h l : Addr} (t : Tabs T H) (L : LawH H h l) (e : SameX h l H H1) : Tabs T H1 := fun p hp => by
  obtain ⟨ps, h1, h2, h3⟩ := t p hp
  obtain ⟨m, i, cs, e1, e2, _⟩ := L.ex
  refine ⟨ps, e _ _ (fun z => ?_) (fun z => ?_) h1, h2, fun pos cv hc => ?_⟩
  · rw [z, e1] at h1
    cases h1
  · rw [z, e2] at h1
    cases h1
  · obtain ⟨c, q1, q2⟩ := h3 pos cv hc
    exact ⟨c, q1, ExtL.x L e _ _ q2 (fun _ z => by unfold CodeO at z; cases z) codeO_ne⟩
theorem LS.x {T : List (Addr × Str)} {h l : Addr} {H H1 : Hp} (a : LS T h l H) (L : LawH H1 h l) (e : SameX h l H H1) : LS T h l H1 := ⟨L, tabs_x a.tabs a.law e⟩
theorem LS.s {T : List (Addr × Str)} {h l : Addr} {H H1 : Hp} (a : LS T h l H) (e : Same H H1) : LS T h l H1 := ⟨a.law.same e, a.tabs.ext e⟩
theorem LS.e {T : List (Addr × Str)} {h l : Addr} {H H1 : Hp} (a : LS T h l H) (e : ExtN H H1) (t : Tabs T H1) : LS T h l H1 := ⟨a.law.ext e, t⟩
section
variable {K : PySem.W.Frag} {H : Hp}
theorem tabs_upd {T : List (Addr × Str)} {p : Addr} {xs : List V} {o : HO} (t : Tabs T H) (hp : H p = some (.lst xs)) : Tabs T (L2.upd H p o) := fun y hy => by
  obtain ⟨ps, h1, h2, h3⟩ := t y hy
  refine ⟨ps, ?_, h2, fun pos cv hc => ?_⟩
  · rw [upd_ne (fun z => by rw [z, hp] at h1; cases h1)]
    exact h1
  · obtain ⟨c, q1, q2⟩ := h3 pos cv hc
    exact ⟨c, q1, ExtL.upd hp _ _ q2 (fun _ z => by unfold CodeO at z; cases z) codeO_ne⟩
end
section
variable {K : PySem.W.Frag} {H : Hp} {Q : VK}
theorem errE_of {CS C0 C1 C2 C3 C4 C5 C6 C7 C8 C9 C10 C11 C12 C13 C14 D : Addr} {nm : Str} (A : ∃ (b0 b1 b2 b3 b4 b5 b6 b7 b8 b9 b10 b11 b12 b13 b14 : Bool) (j : Nat), ErK K CS C0 C1 C2 C3 C4 C5 C6 C7 C8 C9 C10 C11 C12 C13 C14 D nm b0 b1 b2 b3 b4 b5 b6 b7 b8 b9 b10 b11 b12 b13 b14 j) (q : NewS H [.str nm] Q) (n1 : nm ≠ ("plan" : Str)) (n2 : nm ≠ ("swap" : Str)) :
    ErrE K CS C0 C1 C2 C3 C4 C5 C6 C7 C8 C9 C10 C11 C12 C13 C14 Q (.ref D) none H := by
  obtain ⟨b0, b1, b2, b3, b4, b5, b6, b7, b8, b9, b10, b11, b12, b13, b14, j, R⟩ := A
  exact ⟨D, nm, b0, b1, b2, b3, b4, b5, b6, b7, b8, b9, b10, b11, b12, b13, b14, j, rfl, .inl rfl, R, .inl ⟨n1, n2, q⟩⟩
/-- how three of the classes answer -/
structure ErA (K : PySem.W.Frag) (CS C0 C1 C2 C3 C4 C5 C6 C7 C8 C9 C10 C11 C12 C13 C14 D : Addr) (nm : Str) : Prop where
  ex : ∃ (b0 b1 b2 b3 b4 b5 b6 b7 b8 b9 b10 b11 b12 b13 b14 : Bool) (j : Nat), ErK K CS C0 C1 C2 C3 C4 C5 C6 C7 C8 C9 C10 C11 C12 C13 C14 D nm b0 b1 b2 b3 b4 b5 b6 b7 b8 b9 b10 b11 b12 b13 b14 j
end
def zE : Expr := .Name "x" ⟨0, 0, 0, 0⟩
def eArgs : Expr → List Expr | .Call _ as _ _ => as | _ => []
def eElts : Expr → List Expr | .List es _ => es | .Tuple es _ _ => es | _ => []
def eLeft : Expr → Expr | .Compare l _ _ _ => l | e => e
def sVal : Stmt → Expr | .Assign _ v _ => v | .Expr v _ => v | .If t _ _ _ => t | .Return (some v) _ => v | _ => zE
def sBody : Stmt → List Stmt | .For _ _ b _ _ => b | _ => []
def lamP : Expr → Arguments | .Lambda p _ _ _ => p | _ => ⟨[], [], none, [], [], none, []⟩
def lamE : Expr → Expr | .Lambda _ b _ _ => b | e => e
def lamS : Expr → Scope | .Lambda _ _ s _ => s | _ => default
end Sv
set_option maxHeartbeats 4000000
namespace Sv
open PySem PySem.Spec PyProof.Rows L2 LamX NdefX
section
variable {X : Cx} {k : Nat} {CS C0 C1 C2 C3 C4 C5 C6 C7 C8 C9 C10 C11 C12 C13 C14 : Addr} {In : Hp → Prop} {Sl : L2.St → Prop} {H H' : Hp} {f W : Addr} {nm : List V} {fs : List Addr} {nms : List (List V)}
/-- the lambda at f ends as nm says, wherever In holds; Sl tells the slots that it looks at -/
def Wk4 (X : Cx) (k : Nat) (CS C0 C1 C2 C3 C4 C5 C6 C7 C8 C9 C10 C11 C12 C13 C14 : Addr) (In : Hp → Prop) (Sl : L2.St → Prop) (H : Hp) (f : Addr) (nm : List V) : Prop :=
  ∃ (js : List Nat) (tl : List (Option V) → XK → Hp → VK → Prop) (ws : List (Option V)), LamIs X k H f js tl ∧ (∀ σ, Sl σ → js.map (slotAt σ) = ws) ∧ ∀ (H' : Hp) (Q : VK), In H' → NewS H' nm Q → tl ws (ErrE X.K CS C0 C1 C2 C3 C4 C5 C6 C7 C8 C9 C10 C11 C12 C13 C14 Q) H' (OkQ Q)
theorem Wk4.ext (h : Wk4 X k CS C0 C1 C2 C3 C4 C5 C6 C7 C8 C9 C10 C11 C12 C13 C14 In Sl H f nm) (e : ExtL H H') : Wk4 X k CS C0 C1 C2 C3 C4 C5 C6 C7 C8 C9 C10 C11 C12 C13 C14 In Sl H' f nm := by
  obtain ⟨js, tl, ws, h1, h2, h3⟩ := h
  exact ⟨js, tl, ws, h1.extL e, h2, h3⟩
theorem paired_monoB {α β : Type} {P P' : α → β → Prop} (h : ∀ a b, P a b → P' a b) : ∀ {xs : List α} {ys : List β}, Paired P xs ys → Paired P' xs ys
  | _, _, .nil => .nil
  | _, _, .cons a t => .cons (h _ _ a) (paired_monoB h t)
theorem paired_lenB {α β : Type} {P : α → β → Prop} : ∀ {xs : List α} {ys : List β}, Paired P xs ys → xs.length = ys.length
  | _, _, .nil => rfl
  | _, _, .cons _ t => congrArg (· + 1) (paired_lenB t)
theorem paired_ixB {α β : Type} {P : α → β → Prop} : ∀ {xs : List α} {ys : List β} {i : Nat} {a : α}, Paired P xs ys → xs[i]? = some a → ∃ b, ys[i]? = some b ∧ P a b
  | _, _, 0, _, .cons h _, e => by
    obtain rfl := Option.some.inj e
    exact ⟨_, rfl, h⟩
  | _, _, i + 1, _, .cons _ t, e => paired_ixB (i := i) t e
/-- the list of them -/
structure WL4 (X : Cx) (k : Nat) (CS C0 C1 C2 C3 C4 C5 C6 C7 C8 C9 C10 C11 C12 C13 C14 : Addr) (In : Hp → Prop) (Sl : L2.St → Prop) (H : Hp) (W : Addr) (fs : List Addr) (nms : List (List V)) : Prop where
  at_ : H W = some (.lst (fs.map V.ref))
  p : Paired (Wk4 X k CS C0 C1 C2 C3 C4 C5 C6 C7 C8 C9 C10 C11 C12 C13 C14 In Sl H) fs nms
theorem WL4.ext (h : WL4 X k CS C0 C1 C2 C3 C4 C5 C6 C7 C8 C9 C10 C11 C12 C13 C14 In Sl H W fs nms) (e : ExtL H H') (hW : H' W = H W) : WL4 X k CS C0 C1 C2 C3 C4 C5 C6 C7 C8 C9 C10 C11 C12 C13 C14 In Sl H' W fs nms :=
  ⟨hW.trans h.at_, paired_monoB (fun _ _ q => q.ext e) h.p⟩
theorem WL4.en (h : WL4 X k CS C0 C1 C2 C3 C4 C5 C6 C7 C8 C9 C10 C11 C12 C13 C14 In Sl H W fs nms) (e : ExtN H H') : WL4 X k CS C0 C1 C2 C3 C4 C5 C6 C7 C8 C9 C10 C11 C12 C13 C14 In Sl H' W fs nms :=
  ⟨e _ _ h.at_ (fun _ z => nomatch z), paired_monoB (fun _ _ q => q.ext (.n e)) h.p⟩
theorem WL4.sm (h : WL4 X k CS C0 C1 C2 C3 C4 C5 C6 C7 C8 C9 C10 C11 C12 C13 C14 In Sl H W fs nms) (e : Same H H') : WL4 X k CS C0 C1 C2 C3 C4 C5 C6 C7 C8 C9 C10 C11 C12 C13 C14 In Sl H' W fs nms := h.en (extN_same e)
end
theorem tupsV_snocB {H : Hp} {q : Addr} {x : List V} (h : H q = some (.tup x)) : ∀ {ps : List Addr} {ts : List (List V)}, TupsV H ps ts → TupsV H (ps ++ [q]) (ts ++ [x])
  | _, _, .nil => .cons h .nil
  | _, _, .cons a t => .cons a (tupsV_snocB h t)
theorem nm_step4 {T : List (Addr × Str)} {Hw H' : Hp} {D : Addr} {ps : List Addr} {nms : List (List V)} {nm : List V} (hD : Hw D = none) (e : ExtN Hw H') (t : Tabs T H') (hd : H' D = some (.lst (ps.map V.ref))) (hp : TupsV H' ps nms) (hi : ps.length < 1000) :
    NewS H' nm (fun y H4 => ∃ acc, H4 D = some (.lst acc) ∧ acc.length < sizeLine ∧ (ExtN Hw (L2.upd H4 D (.lst (acc ++ [y]))) ∧ Tabs T (L2.upd H4 D (.lst (acc ++ [y]))) ∧ ∃ ps' : List Addr, (L2.upd H4 D (.lst (acc ++ [y]))) D = some (.lst (ps'.map V.ref)) ∧ TupsV (L2.upd H4 D (.lst (acc ++ [y]))) ps' (nms ++ [nm]))) := fun H4 p sm hp0 hk => by
  refine ⟨_, sm _ _ hd, ?_, fun b o hb hn => ?_, tabs_upd (t.ext sm) (sm _ _ hd), ps ++ [p], ?_, ?_⟩
  · rw [List.length_map]
    exact small1000 (Nat.le_of_lt hi)
  · rw [upd_ne (ne_of_none hb hD)]
    exact sm _ _ (e b o hb hn)
  · rw [upd_same, List.map_append]
    rfl
  · have h3 : TupsV H4 (ps ++ [p]) (nms ++ [nm]) := by
      exact tupsV_snocB hk (tupsV_imp (fun _ _ => sm _ _) hp)
    refine tupsV_imp (fun a xs q => ?_) h3
    rw [upd_ne (fun z => by rw [z, sm _ _ hd] at q; cases q)]
    exact q
section
variable {X : Cx} {k : Nat} {CS C0 C1 C2 C3 C4 C5 C6 C7 C8 C9 C10 C11 C12 C13 C14 : Addr} {In : Hp → Prop} {Sl : L2.St → Prop} {H : Hp} {W D : Addr} {fs : List Addr} {nms : List (List V)} {TT : List (Addr × Str)} {σ : L2.St} {i0 : Nat} {vs : List Nat} {Qd : Hp → Prop}
/-- [_law_error(call) for call in works] -/
theorem lc_errs4 (w : WL4 X k CS C0 C1 C2 C3 C4 C5 C6 C7 C8 C9 C10 C11 C12 C13 C14 In Sl H W fs nms) (hs : Sl σ) (hT : Tabs TT H) (hIn : ∀ H', ExtN H H' → Tabs TT H' → In H') (hl : nms.length ≤ 900) (hD : H D = none) (hv : ∀ v : V, ((wipe σ vs).set i0 (some v))[i0]? = some (some v) ∧ wipe ((wipe σ vs).set i0 (some v)) vs = wipe σ vs)
    (hd : ∀ H', ExtN H H' → Tabs TT H' → (∃ ps : List Addr, H' D = some (.lst (ps.map V.ref)) ∧ TupsV H' ps nms) → Qd H') :
    ∃ Wr : Nat → Nat → Hp → Prop, (∃ m, Wr 0 m (upd H D (.lst []))) ∧ ∀ i m H, Wr i m H →
      ((Itl X.K W).stop i H ∧ Qd H) ∨ ((Itl X.K W).go i H ∧ ∃ Nx : Hp → Prop, (∀ H', Nx H' → ∃ m', m' < m ∧ Wr (i + 1) m' H') ∧ ∀ x H', (Itl X.K W).yld i H x H' → gName i0 x (wipe σ vs) H' fun σ2 H2 => wipe σ2 vs = wipe σ vs ∧ tYes σ2 H2 fun b H3 =>
        if b = true then tErrB X k i0 σ CS C0 C1 C2 C3 C4 C5 C6 C7 C8 C9 C10 C11 C12 C13 C14 σ2 H3 fun y H4 => ∃ acc, H4 D = some (.lst acc) ∧ acc.length < sizeLine ∧ Nx (upd H4 D (.lst (acc ++ [y]))) else Nx H3) := by
  refine lc_list (xs := fs.map V.ref) (fun i H' => ExtN H H' ∧ Tabs TT H' ∧ ∃ ps : List Addr, H' D = some (.lst (ps.map V.ref)) ∧ TupsV H' ps (nms.take i))
    ⟨extN_same (same_upd hD), hT.ext (same_upd hD), [], upd_same, .nil⟩ (fun i H' _ h => .inl (.inl (h.1 _ _ w.at_ (fun _ z => nomatch z)))) (fun i x H' hx ⟨e, t, ps, hd2, hp⟩ => ?_) (fun H' ⟨e, t, ps, hd2, hp⟩ => ?_)
  · rw [List.getElem?_map] at hx
    cases hf : fs[i]? with
    | none => rw [hf] at hx; cases hx
    | some f =>
      rw [hf] at hx
      obtain rfl := Option.some.inj hx
      obtain ⟨nm, hnm, js, tl, ws, h1, h2, h3⟩ := paired_ixB w.p hf
      have il := (List.getElem?_eq_some_iff.mp hnm).1
      have pl := tupsV_len hp
      rw [List.length_take] at pl
      have st := nm_step4 (nm := nm) hD e t hd2 hp (by omega)
      have et : nms.take (i + 1) = nms.take i ++ [nm] := by rw [List.take_add_one, hnm]; rfl
      rw [et]
      refine ⟨(hv (.ref f)).2, yes_go ⟨f, js, tl, (hv (.ref f)).1, h1.extL (.n e), ?_⟩⟩
      rw [h2 σ hs]
      exact h3 H' _ (hIn H' e t) st
  · have fl := paired_lenB w.p
    rw [List.length_map, fl, List.take_length] at hp
    exact hd H' e t ⟨ps, hd2, hp⟩
end
end Sv
set_option maxHeartbeats 4000000
namespace Sv
open PySem PySem.Spec PyProof.Rows L2 LamX NdefX
theorem W3.off {H H' : Hp} {wa hc hs : Addr} {rw F : List Addr} {t : Int} {L : Lay Int} (x : W3 H wa hc hs rw t L) (d : ∀ b ∈ wa :: hc :: hs :: rw, b ∉ F) (e : Off F H H') : W3 H' wa hc hs rw t L :=
  ⟨e _ _ (d _ (List.mem_cons_self ..)) x.w, e _ _ (d _ (List.mem_cons_of_mem _ (List.mem_cons_self ..))) x.c, e _ _ (d _ (List.mem_cons_of_mem _ (List.mem_cons_of_mem _ (List.mem_cons_self ..)))) x.s, rowL_imp (fun q hq o ho => e _ _ (d _ (List.mem_cons_of_mem _ (List.mem_cons_of_mem _ (List.mem_cons_of_mem _ hq)))) ho) x.r, x.nd, x.hcr, x.hsr, x.hcs⟩
theorem W3.some {H : Hp} {wa hc hs : Addr} {rw : List Addr} {t : Int} {L : Lay Int} (x : W3 H wa hc hs rw t L) : ∀ b ∈ wa :: hc :: hs :: rw, H b ≠ none := fun b hb => by
  rcases List.mem_cons.mp hb with rfl | hb
  · rw [x.w]; exact fun z => nomatch z
  rcases List.mem_cons.mp hb with rfl | hb
  · rw [x.c]; exact fun z => nomatch z
  rcases List.mem_cons.mp hb with rfl | hb
  · rw [x.s]; exact fun z => nomatch z
  · obtain ⟨xs, e⟩ := rowL_mem x.r hb
    rw [e]; exact fun z => nomatch z
theorem tabs_off {T : List (Addr × Str)} {H H' : Hp} {wa hc hs : Addr} {rw : List Addr} {t : Int} {L : Lay Int} (x : W3 H wa hc hs rw t L) (u : Tabs T H) (e : Off (foot wa hc rw) H H') : Tabs T H' := fun y hy => by
  obtain ⟨ps, h1, h2, h3⟩ := u y hy
  refine ⟨ps, e _ _ (x.not_tup h1 (fun _ z => nomatch z) fun _ z => nomatch z) h1, h2, fun pos cv hc => ?_⟩
  obtain ⟨c, q1, q2⟩ := h3 pos cv hc
  exact ⟨c, q1, e _ _ (x.not_tup q2 (fun _ z => by unfold CodeO at z; cases z) (fun _ z => by unfold CodeO at z; cases z)) q2⟩
@[irreducible] def qFd (K : PySem.W.Frag) (C CD : Addr) : Sp := spFd K C CD
@[irreducible] def qEffOf (K : PySem.W.Frag) (C CC : Addr) : Sp := spEffectOf K C CC
section
variable {P : Program} {w : World} {K : PySem.W.Frag} {mg : Str → Option Value} {base : Heap}
theorem fd_ok7 (T : Bd P K mg) : FnOk P w K mg base (L2.CX P w) 7 T.aFirstDiff T.dFirstDiff ["plan", "other", "time"] (qFd K T.C T.CD) := by
  unfold qFd
  exact (ok_fd T).mono (by decide)
theorem fd_ok (T : Bd P K mg) : FnOk P w K mg base (L2.CX P w) 12 T.aFirstDiff T.dFirstDiff ["plan", "other", "time"] (qFd K T.C T.CD) := (fd_ok7 T).mono (by decide)
theorem effOf_ok (T : Bd P K mg) : FnOk P w K mg base (L2.CX P w) 12 T.aEffectOf T.dEffectOf ["plan", "time", "count"] (qEffOf K T.C T.CC) := by
  unfold qEffOf
  exact (ok_effectOf T).mono (by decide)
end
section
variable {K : PySem.W.Frag} {H : Hp} {p o : Addr} {zs zs2 : List Int} {rs rs2 : List Ro} {t c : Int} {Q : VK} {E : XK} {C CD CC : Addr}
theorem go_fd (hp : PlanAt K H p zs rs) (v : Val zs rs) (ho : PlanAt K H o zs rs2) (v2 : Val zs rs2) (hl : rs.length = rs2.length) (q : ∀ H' a, Same H H' → FdV rs.length zs rs rs2 t a → Q (oV a) H') : qFd K C CD [.ref p, .ref o, .int t] H Q E := by
  unfold qFd
  exact ⟨p, o, zs, zs, rs, rs2, t, rfl, hp, v.small, ho, v2.small, (fun part i e => by rw [v.bad] at e; cases e), (fun _ part i e => by rw [v2.bad] at e; cases e), fun _ _ h => absurd ⟨rfl, hl⟩ h, fun _ _ _ _ => q⟩
theorem go_fdS (hp : PlanAt K H p zs rs) (v : Val zs rs) (ho : PlanAt K H o zs2 rs2) (v2 : Val zs2 rs2) (hn : ¬ (zs = zs2 ∧ rs.length = rs2.length)) (q : ∀ H', Same H H' → E (.ref CD) none H') : qFd K C CD [.ref p, .ref o, .int t] H Q E := by
  unfold qFd
  exact ⟨p, o, zs, zs2, rs, rs2, t, rfl, hp, v.small, ho, v2.small, (fun part i e => by rw [v.bad] at e; cases e), (fun _ part i e => by rw [v2.bad] at e; cases e), fun _ _ _ => q, fun _ _ a b => absurd ⟨a, b⟩ hn⟩
theorem go_fdB1 {part : Str} {i : Int} (hp : PlanAt K H p zs rs) (s : Small zs rs) (ho : PlanAt K H o zs2 rs2) (s2 : Small zs2 rs2) (hb : bad zs rs = some (part, i)) (q : PlanE C H part i E) : qFd K C CD [.ref p, .ref o, .int t] H Q E := by
  unfold qFd
  exact ⟨p, o, zs, zs2, rs, rs2, t, rfl, hp, s, ho, s2, (fun part' i' e => by rw [hb] at e; cases e; exact q), (fun e => by rw [hb] at e; cases e), fun e => (by rw [hb] at e; cases e), fun e => (by rw [hb] at e; cases e)⟩
theorem go_fdB2 {part : Str} {i : Int} (hp : PlanAt K H p zs rs) (v : Val zs rs) (ho : PlanAt K H o zs2 rs2) (s2 : Small zs2 rs2) (hb : bad zs2 rs2 = some (part, i)) (q : PlanE C H part i E) : qFd K C CD [.ref p, .ref o, .int t] H Q E := by
  unfold qFd
  exact ⟨p, o, zs, zs2, rs, rs2, t, rfl, hp, v.small, ho, s2, (fun part i e => by rw [v.bad] at e; cases e), (fun _ part' i' e => by rw [hb] at e; cases e; exact q), fun _ e => (by rw [hb] at e; cases e), fun _ e => (by rw [hb] at e; cases e)⟩
theorem go_effOf (hp : PlanAt K H p zs rs) (v : Val zs rs) (hc : CtOk c) (q : ∀ H' u, Same H H' → SqT K H' u ((iN (effT rs.length zs rs t c)).map V.int) → Q (.ref u) H') : qEffOf K C CC [.ref p, .int t, .int c] H Q E := by
  unfold qEffOf
  exact ⟨p, t, c, zs, rs, rfl, hp, v.small, fun _ _ H' u sm _ hu => q H' u sm (by rw [iN_V]; exact .inl (.inl hu)), (fun part i e => by rw [v.bad] at e; cases e), fun _ h => absurd hc h⟩
end
theorem pld_st (t : Int) (L : Lay Int) : pld (dSt t L) = true := by
  unfold dSt pld pldAll pldAll pldAll pldAll
  rw [pld_ti, pld_int]
  unfold pld
  rw [pldAll_ti]
  rfl
theorem dSt_inj {t : Int} {L M : Lay Int} (h : dSt t L = dSt t M) : L = M := by
  unfold dSt at h
  injection h with h
  injection h with _ h
  injection h with h1 h
  injection h with h2 _
  injection h2 with h2
  have e1 := dTi_inj h1
  have e2 : L.2 = M.2 := (List.map_inj_right fun x y z => dTi_inj z).mp h2
  exact Prod.ext e1 e2
theorem neS_go {K : PySem.W.Frag} {H : Hp} {a b : Addr} {t : Int} {L M : Lay Int} {Q : VK} (h1 : StateAt K H a t L) (h2 : StateAt K H b t M) (l1 : LSm L) (l2 : LSm M) (q : Q (.bl (!decide (L = M))) H) : qNe K (.ref a) (.ref b) H Q := by
  by_cases e : L = M
  · rw [decide_eq_true e] at q
    subst e
    exact ne_same (n := 3) (dp_state h1) (dp_state h2) (pld_st t L) (okD_st l1.1 l1.2.1 l1.2.2) (by decide) q
  · rw [decide_eq_false e] at q
    exact ne_diff (n := 3) (m := 3) (dp_state h1) (dp_state h2) (pld_st t L) (pld_st t M) (okD_st l1.1 l1.2.1 l1.2.2) (okD_st l2.1 l2.2.1 l2.2.2) (by decide) (by decide) (fun z => e (dSt_inj z)) q
theorem lsm_fits {zs : List Int} {rs : List Ro} {L : Lay Int} (v : Val zs rs) (o : Fits rs.length zs L) : LSm L := by
  have z1 := v.z1
  have r1 := v.r1
  have lz : L.2.length = zs.length := by
    have := congrArg List.length o.2
    simpa using this
  refine ⟨by rw [o.1]; omega, by omega, fun s hs => ?_⟩
  obtain ⟨i, hi⟩ := List.mem_iff_getElem?.mp hs
  have hi2 := (List.getElem?_eq_some_iff.mp hi).1
  have h1 := congrArg (fun l => l[i]?) o.2
  simp only [List.getElem?_map, hi, List.getElem?_eq_getElem (by omega : i < zs.length), Option.map_some] at h1
  have h2 := Option.some.inj h1
  have h3 := v.z2 _ (List.getElem_mem (by omega : i < zs.length))
  omega
end Sv
set_option maxHeartbeats 4000000
set_option maxHeartbeats 4000000
namespace L2
open PySem PySem.Spec PyProof.Rows
theorem tuple_mul1 (l : Addr) (items : Array Value) (n : Nat) (dd : Option Addr) (sl : Array (Option Value)) (u : Tok) :
    Meets (Builtin.«tuple.__mul__» ⟨[.ref l, .int 1 u], []⟩) (fun _ R s => s.heap.get? l = some { cls := .type "tuple", dict := dd, data := .seq items n, slots := sl } ∧
      R (.ok (.ret (Value.ref l))) s) :=
  .of_wp fun prog w A R s h => by
    obtain ⟨hp, g, d, tk, os⟩ := s
    obtain ⟨hl, h⟩ := h
    have f1 := AutoSeq1.idx_int
    have c0 : (decide ((1 : Int) < -(2 ^ 63)) || decide ((1 : Int) ≥ 2 ^ 63)) = false := by decide
    have c1 : (items.isEmpty || (1 : Int) == 1) = true := by rw [show ((1 : Int) == 1) = true from rfl, Bool.or_true]
    wp_walk using wpAny_loadPart' hl
    repeat (first
      | (refine wpAny_ite_false (decide_eq_false (by rw [c0]; exact Bool.false_ne_true)) ?_; wp_walk using wpAny_loadPart' hl)
      | (refine wpAny_ite_true (decide_eq_true (by rw [c1])) ?_; wp_walk using wpAny_loadPart' hl))
    exact ⟨_, rfl, h⟩
/-- a tuple, so many times -/
def rRepT1 (K : PySem.W.Frag) : R2 := fun x y H Q => ∃ l k xs, x = .ref l ∧ y = .int k ∧ SqT K H l xs ∧ xs ≠ [] ∧ 1 ≤ k ∧ k ≤ 1000 ∧ xs.length ≤ 1000 ∧ (k = 1 → Q (.ref l) H) ∧ (2 ≤ k → ∀ p, H p = none → Q (.ref p) (upd H p (.tup (List.replicate k.toNat xs).flatten)))
section
variable {X : Cx}
theorem op_repT1 : OpR X (binaryOp .Mult) (rRepT1 X.K) := by
  intro pins s σ H x y v u Q I rx ry h
  obtain ⟨l, k, xs, rfl, rfl, hT, hne, h1, h2, hz, q1, q2⟩ := h
  by_cases hk : k = 1
  · subst hk
    have q := q1 rfl
    cases rx
    obtain ⟨t, rfl⟩ := ry
    obtain ⟨its, r, ⟨⟨cls, dd, data, sl⟩, ho, hc, n, hd⟩, hs⟩ := I.tuple hT
    simp only at hc hd
    subst hc hd
    refine wpAny_binaryOp_repeat_ref (T := "tuple") (U := "int") (by decide) ⟨_, ho, rfl⟩ (fun s' => typeIs_int s' 1 t) noFill_tuple_mul F.fills_int_mul F.slot_int_rmul repeat_tuple F.slot_int_index.lookup
      (call_meets F.slot_int_rmul (typeIs_int s 1 t) F.entry_int_rmul (F.args_int_rmul_2 _ _) (int_rmul_tuple 1 t l its.toArray n dd sl)
        ⟨ho, rfl, ⟨_, ho, rfl⟩, call_meets F.slot_tuple_mul ⟨_, ho, rfl⟩ F.entry_tuple_mul (F.args_tuple_mul_2 _ _) (tuple_mul1 l its.toArray n dd sl t) ⟨ho, ?_⟩⟩)
    exact ⟨.ref l, H, I, rfl, q⟩
  · exact op_repT pins s σ H _ _ v u Q I rx ry ⟨l, k, xs, rfl, rfl, hT, hne, by omega, h2, hz, q2 (by omega)⟩
end
end L2
set_option maxHeartbeats 8000000
namespace Sv
open PySem PySem.Spec PyProof.Rows L2 LamX NdefX
@[irreducible] def qRep (K : PySem.W.Frag) : R2 := rRepT1 K
theorem op_repQ {X : Cx} : OpR X (binaryOp .Mult) (qRep X.K) := by
  unfold qRep
  exact op_repT1
theorem rep_go {K : PySem.W.Frag} {H : Hp} {l : Addr} {k : Nat} {xs : List V} {Q : VK} (h : SqT K H l xs) (hne : xs ≠ []) (h1 : 1 ≤ k) (h2 : k ≤ 1000) (hz : xs.length ≤ 1000) (q : ∀ p H', Same H H' → SqT K H' p (List.replicate k xs).flatten → Q (.ref p) H') : qRep K (.ref l) (.int (k : Nat)) H Q := by
  unfold qRep
  refine ⟨l, (k : Nat), xs, rfl, rfl, h, hne, by omega, by omega, hz, fun e => ?_, fun _ p hp => ?_⟩
  · have : k = 1 := by omega
    subst this
    refine q l H (fun _ _ h => h) ?_
    rw [show (List.replicate 1 xs).flatten = xs by simp]
    exact h
  · rw [Int.toNat_natCast]
    exact q p _ (same_upd hp) (.of upd_same)
theorem seq_abs {a b : TS} {D : Ends} {σ : L2.St} {H : Hp} (h : ∀ b' : TS, b' = b → tSeq a b' D σ H) : tSeq a b D σ H := h _ rfl
/-- routes at places of their own, each valid -/
structure Rts (K : PySem.W.Frag) (H : Hp) (D : Addr) (zs : List Int) (n : Nat) (rs : List Ro) : Prop where
  ex : ∃ qs : List Addr, H D = some (.lst (qs.map V.ref)) ∧ Paired (fun q r => SqT K H q (rV r)) qs rs
  n : rs.length = n
  v : ∀ r ∈ rs, (1 ≤ r.length ∧ r.length ≤ 6) ∧ ∀ e ∈ r, okE zs.length e = true
theorem rtp_setZ {K : PySem.W.Frag} {H : Hp} {q : Addr} {r : Ro} (h : SqT K H q (rV r)) : ∀ {qs : List Addr} {rs : List Ro} (y : Nat), Paired (fun q r => SqT K H q (rV r)) qs rs → Paired (fun q r => SqT K H q (rV r)) (qs.set y q) (rs.set y r)
  | _, _, _, .nil => .nil
  | _, _, 0, .cons _ t => .cons h t
  | _, _, y + 1, .cons a t => .cons a (rtp_setZ h y t)
theorem Rts.imp {K : PySem.W.Frag} {H H' : Hp} {D : Addr} {zs : List Int} {n : Nat} {rs : List Ro} (x : Rts K H D zs n rs) (e : ∀ a xs, SqT K H a xs → SqT K H' a xs) (hD : H' D = H D) : Rts K H' D zs n rs := by
  obtain ⟨qs, h1, h2⟩ := x.ex
  exact ⟨⟨qs, hD.trans h1, paired_imp (K := K) e h2⟩, x.n, x.v⟩
theorem Rts.put {K : PySem.W.Frag} {H : Hp} {D q : Addr} {zs : List Int} {n k : Nat} {rs : List Ro} {qs : List Addr} {r : Ro} (x : Rts K H D zs n rs) (h1 : H D = some (.lst (qs.map V.ref))) (hr : SqT K H q (rV r)) (hv : (1 ≤ r.length ∧ r.length ≤ 6) ∧ ∀ e ∈ r, okE zs.length e = true) : Rts K (upd H D (.lst ((qs.map V.ref).set k (.ref q)))) D zs n (rs.set k r) := by
  obtain ⟨qs2, h2, h3⟩ := x.ex
  have e : qs2 = qs := (List.map_inj_right fun x y z => V.ref.inj z).mp (HO.lst.inj (Option.some.inj (h2.symm.trans h1)))
  subst e
  refine ⟨⟨qs2.set k q, by rw [upd_same, List.map_set], paired_imp (K := K) (fun a xs => sqT_lst h1) (rtp_setZ hr k h3)⟩, by rw [List.length_set]; exact x.n, fun s hs => ?_⟩
  rcases List.mem_or_eq_of_mem_set hs with h | rfl
  · exact x.v s h
  · exact hv
theorem set_iz {α : Type} : ∀ {l : List α} {i : Nat} {a b : α}, l[i]? = some a → l.set i b = l.take i ++ b :: l.drop (i + 1)
  | [], i, _, _, h => by simp at h
  | c :: l, 0, a, b, h => rfl
  | c :: l, i + 1, a, b, h => by
    have := set_iz (l := l) (i := i) (b := b) (by simpa using h)
    rw [List.set_cons_succ, List.take_succ_cons, List.drop_succ_cons, List.cons_append, ← this]
theorem cut_fromZ {xs : List V} {k : Nat} : cutV xs (some ((k : Nat) + 1 : Int)) none = xs.drop (k + 1) := cut_from (k := k + 1)
section
variable {P : Program} {w : World} {K : PySem.W.Frag} {mg : Str → Option Value} {base : Heap}
def nOt : List Str := ["_law_h", "_law_plan_here", "_law_sizes", "_law_routes", "_law_found", "_law_change", "_law_k", "_law_j", "_law_entry"]
theorem scOt : FnScope nOt ["_law_h", "_law_plan_here"] (defScope sOther) := ⟨rfl, rfl, rfl, by decide +kernel, rfl, by decide +kernel, by decide +kernel⟩
def spOt (K : PySem.W.Frag) : Sp := fun vs H Q _ => ∃ (h l p : Addr) (zs : List Int) (rs : List Ro), vs = [.ref h, .ref p] ∧ LawH H h l ∧ PlanAt K H p zs rs ∧ Val zs rs ∧
  ∀ H' o rs2, St h l H H' → PlanAt K H' o zs rs2 → Val zs rs2 → rs2.length = rs.length → Q (.ref o) H'
theorem ok_ot (T : Bd P K mg) : FnOk P w K mg base CX0 3 T.aLOther T.dLOther ["_law_h", "_law_plan_here"] (spOt K) := by
  have GN : FnOk P w K mg base CX0 1 T.aLNext T.dLNext ["_law_h", "_law_limit"] qNext := by unfold qNext; exact ok_next T.LNext.F T.bt
  refine T.LOther.F.ok scOt (fun vs H Q E h => ?_) (fun cdv A outer s H vs Q E hr h => ?_)
  · obtain ⟨h, l, p, zs, rs, rfl, _⟩ := h
    rfl
  · obtain ⟨h, l, p, zs, rs, rfl, L0, P0, hv, q⟩ := h
    refine ⟨_, pss_cons (ps_asg (pv 1) (pg_tup rfl (pgs_cons (pg_name (i := 2) scOt.nd rfl (.inl rfl)) (pgs_cons (pg_name (i := 3) scOt.nd rfl (.inl rfl)) pgs_nil))))
      (pss_cons (ps_set (i := 4) scOt.nd rfl (Or.inl rfl) (pe_callTy call_list_of (by rfl) T.bt.list b_list (pa_cons (pv 3) pa_nil)))
      (pss_cons (ps_for PassesOwn.never rfl (pi_range1 (by rfl) T.bt.range (pa_cons (pe_call (E := E0) GN (hr.mono (by decide)) (by rfl) T.LNext.g T.LNext.F.kp T.LNext.b .nil pass0 (pa_cons (pv 0) (pa_cons (pe_int) pa_nil))) pa_nil)) (pg_name (i := 5) scOt.nd rfl (Or.inl rfl))
        (pss_cons (ps_set (i := 6) scOt.nd rfl (Or.inl rfl) (pe_call (E := E0) GN (hr.mono (by decide)) (by rfl) T.LNext.g T.LNext.F.kp T.LNext.b .nil pass0 (pa_cons (pv 0) (pa_cons (pe_callB call_len_seq (by rfl) T.bt.len b_len (pa_cons (pv 4) pa_nil)) pa_nil))))
      (pss_cons (ps_set (i := 7) scOt.nd rfl (Or.inl rfl) (pe_call (E := E0) GN (hr.mono (by decide)) (by rfl) T.LNext.g T.LNext.F.kp T.LNext.b .nil pass0 (pa_cons (pv 0) (pa_cons (pe_callB call_len_seq (by rfl) T.bt.len b_len (pa_cons (pe_ix ix_list (pv 4) (pv 6) (fun _ _ => rfl)) pa_nil)) pa_nil))))
      (pss_cons (ps_set (i := 8) scOt.nd rfl (Or.inl rfl) (pe_ix ix_list (pe_lst (pa_cons (pe_non) (pa_cons (pe_call (E := E0) GN (hr.mono (by decide)) (by rfl) T.LNext.g T.LNext.F.kp T.LNext.b .nil pass0 (pa_cons (pv 0) (pa_cons (pe_callB call_len_seq (by rfl) T.bt.len b_len (pa_cons (pv 2) pa_nil)) pa_nil))) pa_nil))) (pe_call (E := E0) GN (hr.mono (by decide)) (by rfl) T.LNext.g T.LNext.F.kp T.LNext.b .nil pass0 (pa_cons (pv 0) (pa_cons (pe_int) pa_nil))) (fun _ _ => rfl)))
      (pss_one (ps_asg (pe_op op_catQ (pe_op op_catQ (pe_slice sl_tupQ (pe_ix ix_list (pv 4) (pv 6) (fun _ _ => rfl)) (po_none) (po_some (pv 7))) (pe_tup (pa_cons (pv 8) pa_nil))) (pe_slice sl_tupQ (pe_ix ix_list (pv 4) (pv 6) (fun _ _ => rfl)) (po_some (pe_op op_add (pv 7) (pe_int))) (po_none))) (pg_sub (pv 4) (pv 6) set_list)))))))
      (pss_cons (ps_for PassesOwn.never rfl (pi_range1 (by rfl) T.bt.range (pa_cons (pe_callB call_len_seq (by rfl) T.bt.len b_len (pa_cons (pv 4) pa_nil)) pa_nil)) (pg_name (i := 6) scOt.nd rfl (Or.inl rfl))
        (pss_one (ps_if ((pw_and (pt_cmpR op_le (pe_callB call_len_seq (by rfl) T.bt.len b_len (pa_cons (pe_ix ix_list (pv 4) (pv 6) (fun _ _ => rfl)) pa_nil)) (pe_int) (nomark _)) (pw_and1 (pt_cmpR op_eq (pe_call (E := E0) GN (hr.mono (by decide)) (by rfl) T.LNext.g T.LNext.F.kp T.LNext.b .nil pass0 (pa_cons (pv 0) (pa_cons (pe_int) pa_nil))) (pe_int) (nomark _)))).pt) (pss_one (ps_asg (pe_op op_repQ (pe_ix ix_list (pv 4) (pv 6) (fun _ _ => rfl)) (pe_int)) (pg_sub (pv 4) (pv 6) set_list))) pss_nil)))
      (pss_one (ps_ret (pe_tup (pa_cons (pv 2) (pa_cons (pe_callTy call_tuple_of (by rfl) T.bt.tuple b_tuple (pa_cons (pv 4) pa_nil)) pa_nil)))))))), ?_⟩
    have eS : L2.start nOt [.ref h, .ref p] = [some (.ref h), some (.ref p), none, none, none, none, none, none, none] := rfl
    rw [eS]
    obtain ⟨pa, pb, hp1, hA1, hB1⟩ := P0.ex
    obtain ⟨qs, hB2, hP⟩ := hB1.ex
    have hql := paired_len hP
    have z1 := hv.z1
    have r1 := hv.r1
    have b64 : (1000 : Int) < 2 ^ 64 := by decide
    have b62 : (1000 : Int) < 2 ^ 62 := by decide
    refine seq_abs fun bT eT => ?_
    refine ⟨.ref p, rfl, p, _, rfl, hp1, rfl, _, _, rfl, _, _, rfl, rfl, ?_⟩
    show bT _ _ _
    subst eT
    refine seq_abs fun bT eT => ?_
    refine ⟨.ref pb, rfl, pb, _, rfl, .inr hB2, fun D hD => ?_⟩
    have nD := L0.nh hD
    have S1 : St h l H (upd H D (.lst (qs.map V.ref))) := (St.refl L0).upd hD nD.1 nD.2
    have R1 : Rts K (upd H D (.lst (qs.map V.ref))) D zs rs.length rs := ⟨⟨qs, upd_same, paired_same (same_upd hD) hP⟩, rfl, fun r hr => ⟨hv.r2 r hr, hv.e r hr⟩⟩
    have D1 : ∃ ys, (upd H D (.lst (qs.map V.ref))) D = some (.lst ys) := ⟨_, upd_same⟩
    generalize upd H D (.lst (qs.map V.ref)) = H1 at S1 R1 D1 ⊢
    show bT _ _ _
    subst eT
    refine seq_abs fun bT eT => ?_
    have kp : ∀ {H' : Hp}, St h l H H' → ∀ a xs, SqT K H a xs → SqT K H' a xs := fun S a xs z => sqT_st L0 S a xs z
    -- entries are changed
    refine ⟨.ref h, rfl, ?_⟩
    show qNext _ _ _ _
    refine go_next S1.law (by decide) (by decide) fun w0 H2 hw0 L2 x2 => ?_
    have S2 := S1.next L2 x2
    have R2 := R1.imp (fun a xs z => sqT_x S1.law x2 z) (by obtain ⟨ys, hy⟩ := D1; rw [x2 _ _ nD.1 nD.2 hy, hy])
    clear S1 R1 D1 x2 L2
    refine ⟨((w0 : Nat) : Int), rfl, by omega, by omega, ?_⟩
    refine for_range (lo := 0) (n := ((w0 : Nat) : Int).toNat) (fun i σ H' => (∃ x5 x6 x7 x8, σ = [some (.ref h), some (.ref p), some (.ref pa), some (.ref pb), some (.ref D), x5, x6, x7, x8]) ∧ St h l H H' ∧ ∃ rs2, Rts K H' D zs rs.length rs2)
      ⟨⟨_, _, _, _, rfl⟩, S2, rs, R2⟩ (fun i σ H3 hi ⟨⟨x5, x6, x7, x8, es⟩, S3, rs2, R3⟩ => ?_) (fun σ H3 ⟨⟨x5, x6, x7, x8, es⟩, S3, rs2, R3⟩ => ?_)
    · subst es
      clear S2 R2
      obtain ⟨qs2, hq, hP2⟩ := R3.ex
      have ql := paired_len hP2
      have rn := R3.n
      refine seq_abs fun bT2 eT2 => ?_
      refine ⟨.ref h, rfl, .ref D, rfl, D, _, rfl, .inl (.inl (.inl hq)), ?_⟩
      rw [List.length_map]
      show qNext _ _ _ _
      refine go_next S3.law (by omega) (by omega) fun k H4 hk L4 x4 => ?_
      have S4 := S3.next L4 x4
      have R4 := R3.imp (fun a xs z => sqT_x S3.law x4 z) (by rw [x4 _ _ nD.1 nD.2 hq, hq])
      have hq4 := x4 _ _ nD.1 nD.2 hq
      show bT2 _ _ _
      subst eT2
      refine seq_abs fun bT2 eT2 => ?_
      clear R3 S3 hP2 L4 x4 hq
      obtain ⟨qs3, hq3, hP3⟩ := R4.ex
      obtain rfl : qs3 = qs2 := (List.map_inj_right fun x y z => V.ref.inj z).mp (HO.lst.inj (Option.some.inj (hq3.symm.trans hq4)))
      have hkl : k < qs3.length := by omega
      have hqk : qs3[k]? = some qs3[k] := List.getElem?_eq_getElem hkl
      obtain ⟨r, hr, hSr⟩ := paired_at hP3 hqk
      have vr := R4.v r (List.mem_of_getElem? hr)
      generalize qs3[k] = qk at hqk hSr
      have hat : (qs3.map V.ref)[k]? = some (.ref qk) := by rw [List.getElem?_map, hqk]; rfl
      refine ⟨.ref h, rfl, .ref D, rfl, .int (k : Nat), rfl, D, _, (k : Nat), .ref qk, rfl, rfl, .inl (.inl hq4), atI_nat hat, qk, _, rfl, .inr hSr, ?_⟩
      rw [rV_len]
      show qNext _ _ _ _
      refine go_next S4.law (by omega) (by omega) fun j H5 hj L5 x5' => ?_
      have S5 := S4.next L5 x5'
      have R5 := R4.imp (fun a xs z => sqT_x S4.law x5' z) (by rw [x5' _ _ nD.1 nD.2 hq4, hq4])
      have hq5 := x5' _ _ nD.1 nD.2 hq4
      have hS5 := sqT_x S4.law x5' hSr
      clear S4 R4 hq3 hP3 hSr L5 x5' hq4
      show bT2 _ _ _
      subst eT2
      refine seq_abs fun bT2 eT2 => ?_
      refine ⟨.ref h, rfl, .ref pa, rfl, pa, _, rfl, .inr (kp S5 _ _ hA1), ?_⟩
      rw [List.length_map]
      show qNext _ _ _ _
      refine go_next S5.law (by omega) (by omega) fun w3 H6 hw3 L6 x6' => ?_
      have S6 := S5.next L6 x6'
      have R6 := R5.imp (fun a xs z => sqT_x S5.law x6' z) (by rw [x6' _ _ nD.1 nD.2 hq5, hq5])
      have hq6 := x6' _ _ nD.1 nD.2 hq5
      have hS6 := sqT_x S5.law x6' hS5
      clear S5 R5 hq5 hS5 L6 x6'
      refine ⟨(by show 2 ≤ sizeLine; decide), fun D2 hD2 => ⟨.ref h, rfl, ?_⟩⟩
      have sD2 := same_upd (o := .lst [.non, .int (w3 : Nat)]) hD2
      have nD2 := S6.law.nh hD2
      have S7 := S6.same sD2
      have R7 := R6.imp (fun a xs z => sqT_same sD2 z) (by rw [sD2 _ _ hq6, hq6])
      have hq7 := sD2 _ _ hq6
      have hS7 := sqT_same sD2 hS6
      have kD2 : (upd H6 D2 (.lst [.non, .int (w3 : Nat)])) D2 = some (.lst [.non, .int (w3 : Nat)]) := upd_same
      generalize upd H6 D2 (.lst [.non, .int (w3 : Nat)]) = H7 at S7 R7 hq7 hS7 kD2 ⊢
      clear S6 R6 hq6 hS6 hD2 sD2
      show qNext _ _ _ _
      refine go_next S7.law (by decide) (by decide) fun w4 H8 hw4 L8 x8' => ?_
      obtain ⟨e, he, hev⟩ : ∃ e : Option Int, [V.non, V.int (w3 : Nat)][w4]? = some (eV e) ∧ okE zs.length e = true := by
        have : w4 = 0 ∨ w4 = 1 := by omega
        rcases this with rfl | rfl
        · exact ⟨none, rfl, rfl⟩
        · exact ⟨some (w3 : Nat), rfl, decide_eq_true (by omega)⟩
      refine ⟨D2, _, _, eV e, rfl, rfl, .inl (.inl (x8' _ _ nD2.1 nD2.2 kD2)), atI_nat he, ?_⟩
      have S8 := S7.next L8 x8'
      have R8 := R7.imp (fun a xs z => sqT_x S7.law x8' z) (by rw [x8' _ _ nD.1 nD.2 hq7, hq7])
      have hq8 := x8' _ _ nD.1 nD.2 hq7
      have hS8 := sqT_x S7.law x8' hS7
      clear S7 R7 hq7 hS7 L8 x8' kD2 nD2 he
      show bT2 _ _ _
      subst eT2
      -- found[k] = ..
      refine ⟨.ref D, rfl, .int (k : Nat), rfl, D, _, (k : Nat), .ref qk, rfl, rfl, .inl (.inl hq8), atI_nat hat, .int (j : Nat), rfl, _, rfl, sl_go hS8 fun G1 a1 g1 c1 => ?_⟩
      rw [cut_to] at c1
      refine ⟨eV e, rfl, (by show 1 ≤ sizeLine; decide), fun t1 ht1 => ?_⟩
      have g2 := g1.trans (same_upd (o := .tup [eV e]) ht1)
      refine cat_go (sqT_same (same_upd (o := .tup [eV e]) ht1) c1) (.inl (.inl upd_same)) (by rw [List.length_take, rV_len]; show _ + 1 ≤ 1000; omega) fun G3 a3 g3 c3 => ?_
      have g4 := g2.trans g3
      refine ⟨.ref D, rfl, .int (k : Nat), rfl, D, _, (k : Nat), .ref qk, rfl, rfl, .inl (.inl (g4 _ _ hq8)), atI_nat hat, .int (j : Nat), rfl, _, 1, rfl, rfl, _, rfl, sl_go (sqT_same g4 hS8) fun G5 a5 g5 c5 => ?_⟩
      rw [cut_fromZ] at c5
      refine cat_go (sqT_same g5 c3) c5 (by simp only [List.length_append, List.length_take, List.length_drop, List.length_singleton, rV_len]; omega) fun G6 a6 g6 c6 => ?_
      have gg := (g4.trans g5).trans g6
      have hrj : r[j]? = some (r[j]'(by omega)) := List.getElem?_eq_getElem (by omega)
      have c6' : SqT K G6 a6 (rV (r.set j e)) := by
        rw [List.append_assoc, List.singleton_append] at c6
        have : rV (r.set j e) = (rV r).set j (eV e) := by unfold rV; rw [List.map_set]
        rw [this, set_iz (rV_get hrj)]
        exact c6
      have RG := R8.imp (fun a xs z => sqT_same gg z) (by rw [gg _ _ hq8, hq8])
      have hqG := gg _ _ hq8
      refine ⟨.ref D, rfl, .int (k : Nat), rfl, D, _, _, k, rfl, rfl, hqG, ixN_nat (by rw [List.length_map]; exact hkl), ?_⟩
      refine ⟨⟨_, _, _, _, rfl⟩, (S8.same gg).upd hD nD.1 nD.2, _, RG.put hqG c6' ⟨by rw [List.length_set]; exact vr.1, fun z hz => ?_⟩⟩
      rcases List.mem_or_eq_of_mem_set hz with h1 | rfl
      · exact vr.2 z h1
      · exact hev
    subst es
    clear S2 R2
    show bT _ _ _
    subst eT
    refine seq_abs fun bT eT => ?_
    obtain ⟨qs2, hq, hP2⟩ := R3.ex
    have ql := paired_len hP2
    have rn := R3.n
    -- some routes twice
    refine ⟨.ref D, rfl, D, _, rfl, .inl (.inl (.inl hq)), ?_⟩
    rw [List.length_map]
    refine ⟨(qs2.length : Nat), rfl, by omega, by omega, ?_⟩
    have q2l : qs2.length = rs.length := by omega
    refine for_range (lo := 0) (n := ((qs2.length : Nat) : Int).toNat) (fun i σ H' => (∃ x5 x6 x7 x8, σ = [some (.ref h), some (.ref p), some (.ref pa), some (.ref pb), some (.ref D), x5, x6, x7, x8]) ∧ St h l H H' ∧ ∃ rs2, Rts K H' D zs rs.length rs2)
      ⟨⟨_, _, _, _, rfl⟩, S3, rs2, R3⟩ (fun i σ H4 hi ⟨⟨y5, y6, y7, y8, es⟩, S4, rs4, R4⟩ => ?_) (fun σ H4 ⟨⟨y5, y6, y7, y8, es⟩, S4, rs4, R4⟩ => ?_)
    · subst es
      rw [Int.toNat_natCast] at hi
      have ei : (0 : Int) + (i : Nat) = (i : Nat) := by omega
      rw [ei]
      clear hq hP2 R3 S3 ql
      obtain ⟨qs4, hq4, hP4⟩ := R4.ex
      have ql4 := paired_len hP4
      have rn4 := R4.n
      have hqk : qs4[i]? = some (qs4[i]'(by omega)) := List.getElem?_eq_getElem (by omega)
      obtain ⟨r, hr, hSr⟩ := paired_at hP4 hqk
      have vr := R4.v r (List.mem_of_getElem? hr)
      generalize qs4[i]'(by omega) = qk at hqk hSr
      have hat : (qs4.map V.ref)[i]? = some (.ref qk) := by rw [List.getElem?_map, hqk]; rfl
      refine ⟨.ref D, rfl, .int (i : Nat), rfl, D, _, (i : Nat), .ref qk, rfl, rfl, .inl (.inl hq4), atI_nat hat, qk, _, rfl, .inr hSr, ?_⟩
      rw [rV_len]
      refine ⟨_, _, rfl, rfl, _, rfl, ?_⟩
      by_cases h3 : r.length ≤ 3
      · refine ite_yes (decide_eq_true (by show ((r.length : Nat) : Int) ≤ 3; omega)) ⟨.ref h, rfl, ?_⟩
        show qNext _ _ _ _
        refine go_next S4.law (by decide) (by decide) fun w H5 hw L5 x5' => ?_
        have S5 := S4.next L5 x5'
        have R5 := R4.imp (fun a xs z => sqT_x S4.law x5' z) (by rw [x5' _ _ nD.1 nD.2 hq4, hq4])
        have hq5 := x5' _ _ nD.1 nD.2 hq4
        have hS5 := sqT_x S4.law x5' hSr
        refine ⟨rfl, _, rfl, ?_⟩
        rw [int_eqV]
        by_cases hw0 : ((w : Nat) : Int) = 0
        · refine ite_yes (decide_eq_true hw0) ⟨.ref D, rfl, .int (i : Nat), rfl, D, _, (i : Nat), .ref qk, rfl, rfl, .inl (.inl hq5), atI_nat hat, ?_⟩
          have rne : rV r ≠ [] := fun z => by
            have h8 := rV_len r
            rw [z, List.length_nil] at h8
            have h9 := vr.1.1
            omega
          refine rep_go (k := 2) hS5 rne (by decide) (by decide) (by rw [rV_len]; omega) fun q2 G g c => ?_
          have c2 : SqT K G q2 (rV (r ++ r)) := by
            have : rV (r ++ r) = (List.replicate 2 (rV r)).flatten := by
              unfold rV
              rw [List.map_append]
              simp [List.replicate]
            rw [this]
            exact c
          have RG := R5.imp (fun a xs z => sqT_same g z) (by rw [g _ _ hq5, hq5])
          have hqG := g _ _ hq5
          refine ⟨.ref D, rfl, .int (i : Nat), rfl, D, _, _, i, rfl, rfl, hqG, ixN_nat (by rw [List.length_map]; omega), ?_⟩
          refine ⟨⟨_, _, _, _, rfl⟩, (S5.same g).upd hD nD.1 nD.2, _, RG.put hqG c2 ⟨by rw [List.length_append]; have := vr.1; omega, fun z hz => ?_⟩⟩
          rcases List.mem_append.mp hz with h1 | h1
          · exact vr.2 z h1
          · exact vr.2 z h1
        · exact ite_no (decide_eq_false hw0) ⟨⟨_, _, _, _, rfl⟩, S5, _, R5⟩
      · exact ite_no (decide_eq_false (by show ¬ ((r.length : Nat) : Int) ≤ 3; omega)) ⟨⟨_, _, _, _, rfl⟩, S4, _, R4⟩
    subst es
    clear hq hP2 R3 S3 ql
    show bT _ _ _
    subst eT
    obtain ⟨qs4, hq4, hP4⟩ := R4.ex
    refine ⟨.ref pa, rfl, .ref D, rfl, D, _, rfl, .inl ⟨.inl (.inl hq4), fun tl htl => ⟨(by show 2 ≤ sizeLine; decide), fun o ho => ?_⟩⟩⟩
    have g1 := same_upd (o := .tup (qs4.map V.ref)) htl
    have g2 := same_upd (o := .tup [.ref pa, .ref tl]) ho
    have gg := g1.trans g2
    have v2 : Val zs rs4 := ⟨⟨z1, hv.z2, by rw [R4.n]; exact r1, fun r hr => (R4.v r hr).1⟩, fun r hr => (R4.v r hr).2⟩
    exact q _ o rs4 (S4.same gg) ⟨pa, tl, .inl (.inl upd_same), sqT_same gg (kp S4 _ _ hA1), qs4, sqT_same g2 (.inl (.inl upd_same)), paired_same gg hP4⟩ v2 R4.n
end
end Sv
set_option maxHeartbeats 8000000
namespace Sv
open PySem PySem.Spec PyProof.Rows L2 LamX NdefX
theorem late_fd {n : Nat} {zs : List Int} {rs rs2 : List Ro} (h : ∀ r ∈ rs, 1 ≤ r.length ∧ r.length ≤ 6) (h2 : ∀ r ∈ rs2, 1 ≤ r.length ∧ r.length ≤ 6) {t : Int} (ht : (60 : Int) ∣ t) {d : Nat} (hd : 1 ≤ d ∧ d ≤ 60) (hne : o1 n zs rs ((d - 1 : Nat) : Int) ≠ o1 n zs rs2 ((d - 1 : Nat) : Int))
    (heq : ∀ j : Nat, j < d - 1 → o1 n zs rs (j : Nat) = o1 n zs rs2 (j : Nat)) : FdV n zs rs rs2 t (some d) := by
  have ne : ∀ {rs : List Ro}, (∀ r ∈ rs, 1 ≤ r.length ∧ r.length ≤ 6) → ∀ r ∈ rs, r ≠ [] := fun h r hr z => by
    have := (h r hr).1
    rw [z] at this
    simp at this
  have key : ∀ {rs : List Ro}, (∀ r ∈ rs, 1 ≤ r.length ∧ r.length ≤ 6) → ∀ j : Nat, o1 n zs rs (t + (j : Nat)) = o1 n zs rs (j : Nat) := fun {rs} h j => by
    refine org_mod (ne h) ?_ 1
    rw [show t + (j : Nat) - (j : Nat) = t by omega]
    exact Int.dvd_trans (Int.natCast_dvd_natCast.mpr (lc_dvd60 h)) ht
  refine ⟨hd.1, hd.2, ?_, fun j hj => ?_⟩
  · rw [key h, key h2]
    exact hne
  · rw [key h, key h2]
    exact heq j hj
def lR : List (Ro × Ro × Nat) := [([some 0, some 1], [some 0, some 1, some 0], 4), ([some 0, some 1, some 0, some 1, some 0], [some 0, some 1], 6), ([some 0, none], [some 0, none, some 0], 4)]
theorem late_all : ∀ a b : Fin 3, ∀ c ∈ lR, o1 1 [1 + ((a.1 : Nat) : Int), 1 + ((b.1 : Nat) : Int)] [c.1] ((c.2.2 - 1 : Nat) : Int) ≠ o1 1 [1 + ((a.1 : Nat) : Int), 1 + ((b.1 : Nat) : Int)] [c.2.1] ((c.2.2 - 1 : Nat) : Int) ∧ ∀ j : Fin 5, j.1 < c.2.2 - 1 → o1 1 [1 + ((a.1 : Nat) : Int), 1 + ((b.1 : Nat) : Int)] [c.1] ((j.1 : Nat) : Int) = o1 1 [1 + ((a.1 : Nat) : Int), 1 + ((b.1 : Nat) : Int)] [c.2.1] ((j.1 : Nat) : Int) := by
  decide +kernel
theorem late_lr : ∀ c ∈ lR, (1 ≤ c.1.length ∧ c.1.length ≤ 6) ∧ (1 ≤ c.2.1.length ∧ c.2.1.length ≤ 6) ∧ 1 ≤ c.2.2 ∧ c.2.2 ≤ 6 ∧ (∀ e ∈ c.1, okE 2 e = true) ∧ ∀ e ∈ c.2.1, okE 2 e = true := by
  decide +kernel
section
variable {P : Program} {w : World} {K : PySem.W.Frag} {mg : Str → Option Value} {base : Heap}
def nLa : List Str := ["_law_h", "_law_some", "_law_one", "_law_other_here", "_law_due", "_law_sizes", "_law_number"]
theorem scLa : FnScope nLa ["_law_h"] (defScope sLateRight) := ⟨rfl, rfl, rfl, by decide +kernel, rfl, by decide +kernel, by decide +kernel⟩
def spLa (K : PySem.W.Frag) : Sp := fun vs H Q _ => ∃ (h l : Addr), vs = [.ref h] ∧ LawH H h l ∧ ∀ H', St h l H H' → Q (.bl true) H'
theorem ok_la (T : Bd P K mg) : FnOk P w K mg base CX0 13 T.aLLateRight T.dLLateRight ["_law_h"] (spLa K) := by
  have GN : FnOk P w K mg base CX0 1 T.aLNext T.dLNext ["_law_h", "_law_limit"] qNext := by unfold qNext; exact ok_next T.LNext.F T.bt
  have JF : FnOk P w K mg base (L2.CX P w) 12 T.aFirstDiff T.dFirstDiff ["plan", "other", "time"] (qFd K T.C T.CD) := fd_ok T
  refine T.LLateRight.F.ok scLa (fun vs H Q E h => ?_) (fun cdv A outer s H vs Q E hr h => ?_)
  · obtain ⟨h, l, rfl, _⟩ := h
    rfl
  · obtain ⟨h, l, rfl, L0, q⟩ := h
    refine ⟨_, pss_cons (ps_set (i := 1) scLa.nd rfl (Or.inl rfl) (pe_lst (pa_cons (pe_tup (pa_cons (pe_tup (pa_cons (pe_int) (pa_cons (pe_int) pa_nil))) (pa_cons (pe_tup (pa_cons (pe_int) (pa_cons (pe_int) (pa_cons (pe_int) pa_nil)))) (pa_cons (pe_int) pa_nil)))) (pa_cons (pe_tup (pa_cons (pe_tup (pa_cons (pe_int) (pa_cons (pe_int) (pa_cons (pe_int) (pa_cons (pe_int) (pa_cons (pe_int) pa_nil)))))) (pa_cons (pe_tup (pa_cons (pe_int) (pa_cons (pe_int) pa_nil))) (pa_cons (pe_int) pa_nil)))) (pa_cons (pe_tup (pa_cons (pe_tup (pa_cons (pe_int) (pa_cons (pe_non) pa_nil))) (pa_cons (pe_tup (pa_cons (pe_int) (pa_cons (pe_non) (pa_cons (pe_int) pa_nil)))) (pa_cons (pe_int) pa_nil)))) pa_nil)))))
      (pss_cons (ps_asg (pe_ix ix_list (pv 1) (pe_call (E := E0) GN (hr.mono (by decide)) (by rfl) T.LNext.g T.LNext.F.kp T.LNext.b .nil pass0 (pa_cons (pv 0) (pa_cons (pe_int) pa_nil))) (fun _ _ => rfl)) (pg_tup rfl (pgs_cons (pg_name (i := 2) scLa.nd rfl (.inl rfl)) (pgs_cons (pg_name (i := 3) scLa.nd rfl (.inl rfl)) (pgs_cons (pg_name (i := 4) scLa.nd rfl (.inl rfl)) pgs_nil)))))
      (pss_cons (ps_par (i := 5) (j := 6) rfl scLa.nd rfl rfl (by decide) rfl rfl (pa_cons (pe_tup (pa_cons (pe_op op_add (pe_int) (pe_call (E := E0) GN (hr.mono (by decide)) (by rfl) T.LNext.g T.LNext.F.kp T.LNext.b .nil pass0 (pa_cons (pv 0) (pa_cons (pe_int) pa_nil)))) (pa_cons (pe_op op_add (pe_int) (pe_call (E := E0) GN (hr.mono (by decide)) (by rfl) T.LNext.g T.LNext.F.kp T.LNext.b .nil pass0 (pa_cons (pv 0) (pa_cons (pe_int) pa_nil)))) pa_nil))) (pa_cons (pe_op op_mul (pe_int) (pe_op op_sub (pe_call (E := E0) GN (hr.mono (by decide)) (by rfl) T.LNext.g T.LNext.F.kp T.LNext.b .nil pass0 (pa_cons (pv 0) (pa_cons (pe_int) pa_nil))) (pe_int))) pa_nil)) (by rfl))
      (pss_one (ps_ret (pe_cmpR op_eq (pe_call (E := E0) JF (hr.mono (by decide)) (by rfl) T.FirstDiff.g T.FirstDiff.F.kp T.FirstDiff.b .nil passL (pa_cons (pe_tup (pa_cons (pv 5) (pa_cons (pe_tup (pa_cons (pv 2) pa_nil)) pa_nil))) (pa_cons (pe_tup (pa_cons (pv 5) (pa_cons (pe_tup (pa_cons (pv 3) pa_nil)) pa_nil))) (pa_cons (pv 6) pa_nil)))) (pv 4) (nomark _)))))), ?_⟩
    have eS : L2.start nLa [.ref h] = [some (.ref h), none, none, none, none, none, none] := rfl
    rw [eS]
    refine seq_abs fun bT eT => ?_
    refine ⟨(by show 2 ≤ sizeLine; decide), fun a00 ha00 => ?_⟩
    have ga00 := same_upd (o := .tup [.int 0, .int 1]) ha00
    refine ⟨(by show 3 ≤ sizeLine; decide), fun a01 ha01 => ?_⟩
    have ga01 := same_upd (o := .tup [.int 0, .int 1, .int 0]) ha01
    refine ⟨(by show 3 ≤ sizeLine; decide), fun a02 ha02 => ?_⟩
    have ga02 := same_upd (o := .tup [.ref a00, .ref a01, .int 4]) ha02
    refine ⟨(by show 5 ≤ sizeLine; decide), fun a10 ha10 => ?_⟩
    have ga10 := same_upd (o := .tup [.int 0, .int 1, .int 0, .int 1, .int 0]) ha10
    refine ⟨(by show 2 ≤ sizeLine; decide), fun a11 ha11 => ?_⟩
    have ga11 := same_upd (o := .tup [.int 0, .int 1]) ha11
    refine ⟨(by show 3 ≤ sizeLine; decide), fun a12 ha12 => ?_⟩
    have ga12 := same_upd (o := .tup [.ref a10, .ref a11, .int 6]) ha12
    refine ⟨(by show 2 ≤ sizeLine; decide), fun a20 ha20 => ?_⟩
    have ga20 := same_upd (o := .tup [.int 0, .non]) ha20
    refine ⟨(by show 3 ≤ sizeLine; decide), fun a21 ha21 => ?_⟩
    have ga21 := same_upd (o := .tup [.int 0, .non, .int 0]) ha21
    refine ⟨(by show 3 ≤ sizeLine; decide), fun a22 ha22 => ?_⟩
    have ga22 := same_upd (o := .tup [.ref a20, .ref a21, .int 4]) ha22
    refine ⟨(by show 3 ≤ sizeLine; decide), fun D hD => ?_⟩
    have gD := same_upd (o := .lst [.ref a02, .ref a12, .ref a22]) hD
    have g0 := (((((((((ga00.trans ga01).trans ga02).trans ga10).trans ga11).trans ga12).trans ga20).trans ga21).trans ga22).trans gD)
    have ka00 : (upd (upd (upd (upd (upd (upd (upd (upd (upd (upd H a00 (.tup [.int 0, .int 1])) a01 (.tup [.int 0, .int 1, .int 0])) a02 (.tup [.ref a00, .ref a01, .int 4])) a10 (.tup [.int 0, .int 1, .int 0, .int 1, .int 0])) a11 (.tup [.int 0, .int 1])) a12 (.tup [.ref a10, .ref a11, .int 6])) a20 (.tup [.int 0, .non])) a21 (.tup [.int 0, .non, .int 0])) a22 (.tup [.ref a20, .ref a21, .int 4])) D (.lst [.ref a02, .ref a12, .ref a22])) a00 = some (.tup [.int 0, .int 1]) := ((((((((ga01.trans ga02).trans ga10).trans ga11).trans ga12).trans ga20).trans ga21).trans ga22).trans gD) _ _ upd_same
    have ka01 : (upd (upd (upd (upd (upd (upd (upd (upd (upd (upd H a00 (.tup [.int 0, .int 1])) a01 (.tup [.int 0, .int 1, .int 0])) a02 (.tup [.ref a00, .ref a01, .int 4])) a10 (.tup [.int 0, .int 1, .int 0, .int 1, .int 0])) a11 (.tup [.int 0, .int 1])) a12 (.tup [.ref a10, .ref a11, .int 6])) a20 (.tup [.int 0, .non])) a21 (.tup [.int 0, .non, .int 0])) a22 (.tup [.ref a20, .ref a21, .int 4])) D (.lst [.ref a02, .ref a12, .ref a22])) a01 = some (.tup [.int 0, .int 1, .int 0]) := (((((((ga02.trans ga10).trans ga11).trans ga12).trans ga20).trans ga21).trans ga22).trans gD) _ _ upd_same
    have ka02 : (upd (upd (upd (upd (upd (upd (upd (upd (upd (upd H a00 (.tup [.int 0, .int 1])) a01 (.tup [.int 0, .int 1, .int 0])) a02 (.tup [.ref a00, .ref a01, .int 4])) a10 (.tup [.int 0, .int 1, .int 0, .int 1, .int 0])) a11 (.tup [.int 0, .int 1])) a12 (.tup [.ref a10, .ref a11, .int 6])) a20 (.tup [.int 0, .non])) a21 (.tup [.int 0, .non, .int 0])) a22 (.tup [.ref a20, .ref a21, .int 4])) D (.lst [.ref a02, .ref a12, .ref a22])) a02 = some (.tup [.ref a00, .ref a01, .int 4]) := ((((((ga10.trans ga11).trans ga12).trans ga20).trans ga21).trans ga22).trans gD) _ _ upd_same
    have ka10 : (upd (upd (upd (upd (upd (upd (upd (upd (upd (upd H a00 (.tup [.int 0, .int 1])) a01 (.tup [.int 0, .int 1, .int 0])) a02 (.tup [.ref a00, .ref a01, .int 4])) a10 (.tup [.int 0, .int 1, .int 0, .int 1, .int 0])) a11 (.tup [.int 0, .int 1])) a12 (.tup [.ref a10, .ref a11, .int 6])) a20 (.tup [.int 0, .non])) a21 (.tup [.int 0, .non, .int 0])) a22 (.tup [.ref a20, .ref a21, .int 4])) D (.lst [.ref a02, .ref a12, .ref a22])) a10 = some (.tup [.int 0, .int 1, .int 0, .int 1, .int 0]) := (((((ga11.trans ga12).trans ga20).trans ga21).trans ga22).trans gD) _ _ upd_same
    have ka11 : (upd (upd (upd (upd (upd (upd (upd (upd (upd (upd H a00 (.tup [.int 0, .int 1])) a01 (.tup [.int 0, .int 1, .int 0])) a02 (.tup [.ref a00, .ref a01, .int 4])) a10 (.tup [.int 0, .int 1, .int 0, .int 1, .int 0])) a11 (.tup [.int 0, .int 1])) a12 (.tup [.ref a10, .ref a11, .int 6])) a20 (.tup [.int 0, .non])) a21 (.tup [.int 0, .non, .int 0])) a22 (.tup [.ref a20, .ref a21, .int 4])) D (.lst [.ref a02, .ref a12, .ref a22])) a11 = some (.tup [.int 0, .int 1]) := ((((ga12.trans ga20).trans ga21).trans ga22).trans gD) _ _ upd_same
    have ka12 : (upd (upd (upd (upd (upd (upd (upd (upd (upd (upd H a00 (.tup [.int 0, .int 1])) a01 (.tup [.int 0, .int 1, .int 0])) a02 (.tup [.ref a00, .ref a01, .int 4])) a10 (.tup [.int 0, .int 1, .int 0, .int 1, .int 0])) a11 (.tup [.int 0, .int 1])) a12 (.tup [.ref a10, .ref a11, .int 6])) a20 (.tup [.int 0, .non])) a21 (.tup [.int 0, .non, .int 0])) a22 (.tup [.ref a20, .ref a21, .int 4])) D (.lst [.ref a02, .ref a12, .ref a22])) a12 = some (.tup [.ref a10, .ref a11, .int 6]) := (((ga20.trans ga21).trans ga22).trans gD) _ _ upd_same
    have ka20 : (upd (upd (upd (upd (upd (upd (upd (upd (upd (upd H a00 (.tup [.int 0, .int 1])) a01 (.tup [.int 0, .int 1, .int 0])) a02 (.tup [.ref a00, .ref a01, .int 4])) a10 (.tup [.int 0, .int 1, .int 0, .int 1, .int 0])) a11 (.tup [.int 0, .int 1])) a12 (.tup [.ref a10, .ref a11, .int 6])) a20 (.tup [.int 0, .non])) a21 (.tup [.int 0, .non, .int 0])) a22 (.tup [.ref a20, .ref a21, .int 4])) D (.lst [.ref a02, .ref a12, .ref a22])) a20 = some (.tup [.int 0, .non]) := ((ga21.trans ga22).trans gD) _ _ upd_same
    have ka21 : (upd (upd (upd (upd (upd (upd (upd (upd (upd (upd H a00 (.tup [.int 0, .int 1])) a01 (.tup [.int 0, .int 1, .int 0])) a02 (.tup [.ref a00, .ref a01, .int 4])) a10 (.tup [.int 0, .int 1, .int 0, .int 1, .int 0])) a11 (.tup [.int 0, .int 1])) a12 (.tup [.ref a10, .ref a11, .int 6])) a20 (.tup [.int 0, .non])) a21 (.tup [.int 0, .non, .int 0])) a22 (.tup [.ref a20, .ref a21, .int 4])) D (.lst [.ref a02, .ref a12, .ref a22])) a21 = some (.tup [.int 0, .non, .int 0]) := (ga22.trans gD) _ _ upd_same
    have ka22 : (upd (upd (upd (upd (upd (upd (upd (upd (upd (upd H a00 (.tup [.int 0, .int 1])) a01 (.tup [.int 0, .int 1, .int 0])) a02 (.tup [.ref a00, .ref a01, .int 4])) a10 (.tup [.int 0, .int 1, .int 0, .int 1, .int 0])) a11 (.tup [.int 0, .int 1])) a12 (.tup [.ref a10, .ref a11, .int 6])) a20 (.tup [.int 0, .non])) a21 (.tup [.int 0, .non, .int 0])) a22 (.tup [.ref a20, .ref a21, .int 4])) D (.lst [.ref a02, .ref a12, .ref a22])) a22 = some (.tup [.ref a20, .ref a21, .int 4]) := gD _ _ upd_same
    have kD : (upd (upd (upd (upd (upd (upd (upd (upd (upd (upd H a00 (.tup [.int 0, .int 1])) a01 (.tup [.int 0, .int 1, .int 0])) a02 (.tup [.ref a00, .ref a01, .int 4])) a10 (.tup [.int 0, .int 1, .int 0, .int 1, .int 0])) a11 (.tup [.int 0, .int 1])) a12 (.tup [.ref a10, .ref a11, .int 6])) a20 (.tup [.int 0, .non])) a21 (.tup [.int 0, .non, .int 0])) a22 (.tup [.ref a20, .ref a21, .int 4])) D (.lst [.ref a02, .ref a12, .ref a22])) D = some (.lst [.ref a02, .ref a12, .ref a22]) := upd_same
    have S1 : St h l H (upd (upd (upd (upd (upd (upd (upd (upd (upd (upd H a00 (.tup [.int 0, .int 1])) a01 (.tup [.int 0, .int 1, .int 0])) a02 (.tup [.ref a00, .ref a01, .int 4])) a10 (.tup [.int 0, .int 1, .int 0, .int 1, .int 0])) a11 (.tup [.int 0, .int 1])) a12 (.tup [.ref a10, .ref a11, .int 6])) a20 (.tup [.int 0, .non])) a21 (.tup [.int 0, .non, .int 0])) a22 (.tup [.ref a20, .ref a21, .int 4])) D (.lst [.ref a02, .ref a12, .ref a22])) := (St.refl L0).same g0
    have nD := (L0.same ((((((((ga00.trans ga01).trans ga02).trans ga10).trans ga11).trans ga12).trans ga20).trans ga21).trans ga22)).nh hD
    generalize (upd (upd (upd (upd (upd (upd (upd (upd (upd (upd H a00 (.tup [.int 0, .int 1])) a01 (.tup [.int 0, .int 1, .int 0])) a02 (.tup [.ref a00, .ref a01, .int 4])) a10 (.tup [.int 0, .int 1, .int 0, .int 1, .int 0])) a11 (.tup [.int 0, .int 1])) a12 (.tup [.ref a10, .ref a11, .int 6])) a20 (.tup [.int 0, .non])) a21 (.tup [.int 0, .non, .int 0])) a22 (.tup [.ref a20, .ref a21, .int 4])) D (.lst [.ref a02, .ref a12, .ref a22])) = H1 at ka00 ka01 ka02 ka10 ka11 ka12 ka20 ka21 ka22 kD S1 ⊢
    clear ga00 ga01 ga02 ga10 ga11 ga12 ga20 ga21 ga22 gD ha00 ha01 ha02 ha10 ha11 ha12 ha20 ha21 ha22 hD g0
    show bT _ _ _
    subst eT
    refine seq_abs fun bT eT => ?_
    refine ⟨.ref D, rfl, .ref h, rfl, ?_⟩
    show qNext _ _ _ _
    refine go_next S1.law (by decide) (by decide) fun w H2 hw L2 x2 => ?_
    have tp : ∀ {a : Addr} {xs : List V}, H1 a = some (.tup xs) → SqT K H2 a xs := fun z => sqT_x S1.law x2 (.inl (.inl z))
    obtain ⟨u, b1, b2, c, hu, hc, k1, k2, k3⟩ : ∃ (u b1 b2 : Addr) (c : Ro × Ro × Nat), [V.ref a02, V.ref a12, V.ref a22][w]? = some (.ref u) ∧ c ∈ lR ∧ SqT K H2 u [.ref b1, .ref b2, .int (c.2.2 : Nat)] ∧ SqT K H2 b1 (rV c.1) ∧ SqT K H2 b2 (rV c.2.1) := by
      have : w = 0 ∨ w = 1 ∨ w = 2 := by omega
      rcases this with rfl | rfl | rfl
      · exact ⟨a02, a00, a01, _, rfl, List.mem_cons_self .., tp ka02, tp ka00, tp ka01⟩
      · exact ⟨a12, a10, a11, _, rfl, List.mem_cons_of_mem _ (List.mem_cons_self ..), tp ka12, tp ka10, tp ka11⟩
      · exact ⟨a22, a20, a21, _, rfl, List.mem_cons_of_mem _ (List.mem_cons_of_mem _ (List.mem_cons_self ..)), tp ka22, tp ka20, tp ka21⟩
    have S2 := S1.next L2 x2
    refine ⟨D, _, _, .ref u, rfl, rfl, .inl (.inl (x2 _ _ nD.1 nD.2 kD)), atI_nat hu, u, _, rfl, k1, rfl, _, _, rfl, _, _, rfl, _, _, rfl, rfl, ?_⟩
    clear S1 x2 L2 tp kD nD hu hw k1 ka00 ka01 ka02 ka10 ka11 ka12 ka20 ka21 ka22
    show bT _ _ _
    subst eT
    refine seq_abs fun bT eT => ?_
    refine ⟨.ref h, rfl, ?_⟩
    show qNext _ _ _ _
    refine go_next S2.law (by decide) (by decide) fun w1 H3 hw1 L3 x3 => ⟨_, _, rfl, rfl, .ref h, rfl, ?_⟩
    show qNext _ _ _ _
    refine go_next L3 (by decide) (by decide) fun w2 H4 hw2 L4 x4 => ⟨_, _, rfl, rfl, (by show 2 ≤ sizeLine; decide), fun zt hzt => ⟨.ref h, rfl, ?_⟩⟩
    have S4 := (S2.next L3 x3).next L4 x4
    have gz := same_upd (o := .tup [.int (1 + (w1 : Nat)), .int (1 + (w2 : Nat))]) hzt
    have S5 := S4.same gz
    have k5 : ∀ {a : Addr} {xs : List V}, SqT K H2 a xs → SqT K (upd H4 zt (.tup [.int (1 + (w1 : Nat)), .int (1 + (w2 : Nat))])) a xs := fun z => sqT_same gz (sqT_x L3 x4 (sqT_x S2.law x3 z))
    have kz : SqT K (upd H4 zt (.tup [.int (1 + (w1 : Nat)), .int (1 + (w2 : Nat))])) zt [.int (1 + (w1 : Nat)), .int (1 + (w2 : Nat))] := .inl (.inl upd_same)
    have k2' := k5 k2
    have k3' := k5 k3
    generalize upd H4 zt (.tup [.int (1 + (w1 : Nat)), .int (1 + (w2 : Nat))]) = H5 at S5 kz k2' k3' ⊢
    clear k5 gz S4 x4 L4 x3 L3 S2 k2 k3 hzt
    show qNext _ _ _ _
    refine go_next S5.law (by decide) (by decide) fun w3 H6 hw3 L6 x6 => ⟨_, 50, rfl, rfl, 60, _, rfl, rfl, .inl ⟨by decide, by decide⟩, _, _, rfl, ?_⟩
    have S6 := S5.next L6 x6
    have kz6 := sqT_x S5.law x6 kz
    have k26 := sqT_x S5.law x6 k2'
    have k36 := sqT_x S5.law x6 k3'
    clear S5 kz k2' k3' L6 x6
    show bT _ _ _
    subst eT
    -- the two plans
    refine ⟨.ref zt, rfl, .ref b1, rfl, (by show 1 ≤ sizeLine; decide), fun r1 hr1 => ⟨(by show 2 ≤ sizeLine; decide), fun p hp => ?_⟩⟩
    have g1 := same_upd (o := .tup [.ref b1]) hr1
    have g2 := same_upd (o := .tup [.ref zt, .ref r1]) hp
    refine ⟨.ref zt, rfl, .ref b2, rfl, (by show 1 ≤ sizeLine; decide), fun r2 hr2 => ⟨(by show 2 ≤ sizeLine; decide), fun o ho => ?_⟩⟩
    have g3 := same_upd (o := .tup [.ref b2]) hr2
    have g4 := same_upd (o := .tup [.ref zt, .ref r2]) ho
    have gg := ((g1.trans g2).trans g3).trans g4
    obtain ⟨l1, l2, d1, d2, e1, e2⟩ := late_lr c hc
    have hP : PlanAt K (upd (upd (upd (upd H6 r1 (.tup [.ref b1])) p (.tup [.ref zt, .ref r1])) r2 (.tup [.ref b2])) o (.tup [.ref zt, .ref r2])) p [1 + (w1 : Nat), 1 + (w2 : Nat)] [c.1] := ⟨zt, r1, sqT_same (g3.trans g4) (.inl (.inl upd_same)), sqT_same gg kz6, [b1], sqT_same ((g2.trans g3).trans g4) (.inl (.inl upd_same)), .cons (sqT_same gg k26) .nil⟩
    have hO : PlanAt K (upd (upd (upd (upd H6 r1 (.tup [.ref b1])) p (.tup [.ref zt, .ref r1])) r2 (.tup [.ref b2])) o (.tup [.ref zt, .ref r2])) o [1 + (w1 : Nat), 1 + (w2 : Nat)] [c.2.1] := ⟨zt, r2, .inl (.inl upd_same), sqT_same gg kz6, [b2], sqT_same g4 (.inl (.inl upd_same)), .cons (sqT_same gg k36) .nil⟩
    have S7 := S6.same gg
    generalize upd (upd (upd (upd H6 r1 (.tup [.ref b1])) p (.tup [.ref zt, .ref r1])) r2 (.tup [.ref b2])) o (.tup [.ref zt, .ref r2]) = H7 at S7 hP hO ⊢
    have val : ∀ r : Ro, (1 ≤ r.length ∧ r.length ≤ 6) → (∀ e ∈ r, okE 2 e = true) → Val [1 + ((w1 : Nat) : Int), 1 + ((w2 : Nat) : Int)] [r] := fun r a b => ⟨⟨⟨by show 1 ≤ 2; decide, by show 2 ≤ 12; decide⟩, fun z hz => by
      simp only [List.mem_cons, List.not_mem_nil, or_false] at hz
      rcases hz with rfl | rfl <;> omega, ⟨by show 1 ≤ 1; decide, by show 1 ≤ 6; decide⟩, fun x hx => by rw [List.mem_singleton.mp hx]; exact a⟩, fun x hx => by rw [List.mem_singleton.mp hx]; exact b⟩
    refine ⟨_, rfl, ?_⟩
    show qFd K _ _ _ _ _ _
    refine go_fd hP (val _ l1 e1) hO (val _ l2 e2) rfl fun H8 a sm8 hfd => ?_
    have hl := late_all ⟨w1, by omega⟩ ⟨w2, by omega⟩ c hc
    have due : FdV [c.1].length [1 + ((w1 : Nat) : Int), 1 + ((w2 : Nat) : Int)] [c.1] [c.2.1] (60 * (((w3 : Nat) : Int) - 50)) (some c.2.2) :=
      late_fd (fun r hr => by rw [List.mem_singleton.mp hr]; exact l1) (fun r hr => by rw [List.mem_singleton.mp hr]; exact l2) (Int.dvd_mul_right ..) ⟨d1, by omega⟩ hl.1 fun j hj => hl.2 ⟨j, by omega⟩ hj
    rw [hfd.one due]
    refine ⟨_, rfl, rfl, ?_⟩
    show Q (.bl (decide (oV (some c.2.2) = V.int (c.2.2 : Nat)))) H8
    rw [decide_eq_true (show oV (some c.2.2) = V.int (c.2.2 : Nat) from rfl)]
    exact q _ (S7.same sm8)
end
end Sv
set_option maxHeartbeats 8000000
namespace Sv
open PySem PySem.Spec PyProof.Rows L2 LamX NdefX
section
variable {X : Cx}
/-- pieces of an if -/
def sIfBody : Stmt → List Stmt | .If _ b _ _ => b | _ => []
def eOps : Expr → List Expr | .BoolOp _ es _ => es | _ => []
def lamOdd : Expr := (eArgs (eLeft ((eOps (sVal ((sIfBody ((sBody ((defBody sLaw).getD 2 (.Pass ⟨0, 0, 0, 0⟩))).getD 8 (.Pass ⟨0, 0, 0, 0⟩))).getD 0 (.Pass ⟨0, 0, 0, 0⟩)))).getD 1 zE))).getD 0 zE
def lamW1 : Expr := (eElts (sVal ((sBody ((defBody sLaw).getD 2 (.Pass ⟨0, 0, 0, 0⟩))).getD 10 (.Pass ⟨0, 0, 0, 0⟩)))).getD 0 zE
def lamW2 : Expr := (eElts (sVal ((sBody ((defBody sLaw).getD 2 (.Pass ⟨0, 0, 0, 0⟩))).getD 10 (.Pass ⟨0, 0, 0, 0⟩)))).getD 1 zE
def tlOdd (K : PySem.W.Frag) (C CD : Addr) : List (Option V) → XK → Hp → VK → Prop := fun ws E H Q => ∃ o p : Addr, ws = [some (.ref o), some (.ref p)] ∧ qFd K C CD [.ref p, .ref o, .int 0] H Q E
theorem lbOdd (T : Bd X.prog X.K X.mg) : LamB X 7 ["_law_odd", "_law_plan_here"] (lamP lamOdd) (lamE lamOdd) (lamS lamOdd) ["_law_odd", "_law_plan_here"] [] (tlOdd X.K T.C T.CD) := fun qual cl dV c f A outer s H ws Q E hr ht => by
  have GC : FnOk X.prog X.w X.K X.mg X.base (L2.CX X.prog X.w) 7 T.aFirstDiff T.dFirstDiff ["plan", "other", "time"] (qFd X.K T.C T.CD) := fd_ok7 T
  obtain ⟨o, p, rfl, q⟩ := ht
  exact ⟨_, pe_call (E := E) GC hr (by rfl) T.FirstDiff.g T.FirstDiff.F.kp T.FirstDiff.b .nil (tkX (takes_of rfl rfl rfl rfl)) (pa_cons (pv 1) (pa_cons (pv 0) (pa_cons (pe_int) pa_nil))), .ref p, rfl, .ref o, rfl, q⟩
def tlW1 (K : PySem.W.Frag) (C CD : Addr) : List (Option V) → XK → Hp → VK → Prop := fun ws E H Q => ∃ p u : Addr, ws = [some (.ref p), some (.ref u)] ∧ qFd K C CD [.ref p, .ref u, .int 0] H Q E
theorem lbW1 (T : Bd X.prog X.K X.mg) : LamB X 7 ["_law_plan_here", "_law_wrong"] (lamP lamW1) (lamE lamW1) (lamS lamW1) ["_law_plan_here", "_law_wrong"] [] (tlW1 X.K T.C T.CD) := fun qual cl dV c f A outer s H ws Q E hr ht => by
  have GC : FnOk X.prog X.w X.K X.mg X.base (L2.CX X.prog X.w) 7 T.aFirstDiff T.dFirstDiff ["plan", "other", "time"] (qFd X.K T.C T.CD) := fd_ok7 T
  obtain ⟨p, u, rfl, q⟩ := ht
  exact ⟨_, pe_call (E := E) GC hr (by rfl) T.FirstDiff.g T.FirstDiff.F.kp T.FirstDiff.b .nil (tkX (takes_of rfl rfl rfl rfl)) (pa_cons (pv 0) (pa_cons (pv 1) (pa_cons (pe_int) pa_nil))), .ref p, rfl, .ref u, rfl, q⟩
def tlW2 (K : PySem.W.Frag) (C CD : Addr) : List (Option V) → XK → Hp → VK → Prop := fun ws E H Q => ∃ p u : Addr, ws = [some (.ref p), some (.ref u)] ∧ qFd K C CD [.ref u, .ref p, .int 0] H Q E
theorem lbW2 (T : Bd X.prog X.K X.mg) : LamB X 7 ["_law_a", "_law_plan_here", "_law_wrong"] (lamP lamW2) (lamE lamW2) (lamS lamW2) ["_law_plan_here", "_law_wrong"] [.int 0] (tlW2 X.K T.C T.CD) := fun qual cl dV c f A outer s H ws Q E hr ht => by
  have GC : FnOk X.prog X.w X.K X.mg X.base (L2.CX X.prog X.w) 7 T.aFirstDiff T.dFirstDiff ["plan", "other", "time"] (qFd X.K T.C T.CD) := fd_ok7 T
  obtain ⟨p, u, rfl, q⟩ := ht
  exact ⟨_, pe_call (E := E) GC hr (by rfl) T.FirstDiff.g T.FirstDiff.F.kp T.FirstDiff.b .nil (tkX (takes_of rfl rfl rfl rfl)) (pa_cons (pv 2) (pa_cons (pv 1) (pa_cons (pe_int) pa_nil))), .ref u, rfl, .ref p, rfl, q⟩
theorem hbnW2 : ∀ q cl pm cv ctv (T : Addr) (u : Value), ∃ k, bindArgs { PySem.W.kla_fn "<lambda>" q (lamP lamW2) (lamE lamW2) (lamS lamW2) cl pm cv ctv with defaults := .ref T } ⟨[], []⟩ = seqItems? (.ref T) >>= k ∧ k (some [u].toArray) = pure [(("_law_a" : Str), u)] := by
  intro q cl pm cv ctv T u
  exact ⟨_, rfl, rfl⟩
end
def lwQ : Str := (envOfC "law" (defScope sLaw) 0 0 .none).qual ++ "<lambda>"
end Sv
set_option maxHeartbeats 8000000
namespace Sv
open PySem PySem.Spec PyProof.Rows L2 LamX NdefX
/-- how the classes answer -/
structure Ans15 (K : PySem.W.Frag) (CS C0 C1 C2 C3 C4 C5 C6 C7 C8 C9 C10 C11 C12 C13 C14 : Addr) : Prop where
  plan : ErA K CS C0 C1 C2 C3 C4 C5 C6 C7 C8 C9 C10 C11 C12 C13 C14 C0 "plan"
  sizes : ErA K CS C0 C1 C2 C3 C4 C5 C6 C7 C8 C9 C10 C11 C12 C13 C14 C8 "sizes"
/-- what a turn stands on -/
structure B15 (K : PySem.W.Frag) (TT : List (Addr × Str)) (H : Hp) (h l p o st : Addr) (zs : List Int) (rs rs2 : List Ro) (t : Int) (L : Lay Int) : Prop where
  ls : LS TT h l H
  p : PlanAt K H p zs rs
  o : PlanAt K H o zs rs2
  s : StateAt K H st t L
section
variable {K : PySem.W.Frag} {TT : List (Addr × Str)} {H H' : Hp} {h l p o st : Addr} {zs : List Int} {rs rs2 : List Ro} {t : Int} {L : Lay Int}
theorem B15.imp (b : B15 K TT H h l p o st zs rs rs2 t L) (e : ∀ a xs, SqT K H a xs → SqT K H' a xs) (s : LS TT h l H') : B15 K TT H' h l p o st zs rs rs2 t L := ⟨s, plan_imp b.p e, plan_imp b.o e, b.s.imp e⟩
theorem B15.sm (b : B15 K TT H h l p o st zs rs rs2 t L) (e : Same H H') : B15 K TT H' h l p o st zs rs rs2 t L := b.imp (fun _ _ => sqT_same e) (b.ls.s e)
theorem B15.nx (b : B15 K TT H h l p o st zs rs rs2 t L) (L' : LawH H' h l) (e : SameX h l H H') : B15 K TT H' h l p o st zs rs rs2 t L := b.imp (fun _ _ => sqT_x b.ls.law e) (b.ls.x L' e)
theorem B15.en (b : B15 K TT H h l p o st zs rs rs2 t L) (e : ExtN H H') (tb : Tabs TT H') : B15 K TT H' h l p o st zs rs rs2 t L := b.imp (fun _ _ => sqT_ext (ExtL.n e)) (b.ls.e e tb)
theorem B15.off {wa hc hs : Addr} {rw : List Addr} {t0 : Int} {M : Lay Int} (b : B15 K TT H h l p o st zs rs rs2 t L) (x : W3 H wa hc hs rw t0 M) (e : Off (foot wa hc rw) H H') (nh : h ∉ foot wa hc rw) (nl : l ∉ foot wa hc rw) : B15 K TT H' h l p o st zs rs rs2 t L := b.imp (fun _ _ => sqT_off x e) ⟨b.ls.law.off nh nl e, tabs_off x b.ls.tabs e⟩
end
/-- how far the comparing has come -/
def Lw (n : Nat) (zs : List Int) (rs rs2 : List Ro) (t : Int) (k : Nat) : Option Nat → Prop
  | none => ∀ j : Nat, j < k → o1 n zs rs (t + (j : Nat)) = o1 n zs rs2 (t + (j : Nat))
  | some m => 1 ≤ m ∧ m ≤ k ∧ o1 n zs rs (t + ((m - 1 : Nat) : Int)) ≠ o1 n zs rs2 (t + ((m - 1 : Nat) : Int)) ∧ ∀ j : Nat, j < m - 1 → o1 n zs rs (t + (j : Nat)) = o1 n zs rs2 (t + (j : Nat))
theorem lw_fd {n : Nat} {zs : List Int} {rs rs2 : List Ro} {t : Int} {k : Nat} (hk : 60 ≤ k) : ∀ {a b : Option Nat}, Lw n zs rs rs2 t k a → FdV n zs rs rs2 t b → a = b
  | none, none, _, _ => rfl
  | none, some m, h, g => (g.2.2.1 (h _ (by have := g.1; have := g.2.1; omega))).elim
  | some m, none, h, g => (h.2.2.1 (g _)).elim
  | some a, some b, h, g => by
    congr 1
    rcases Nat.lt_trichotomy a b with z | z | z
    · exact (h.2.2.1 (g.2.2.2 (a - 1) (by have := h.1; omega))).elim
    · exact z
    · exact (g.2.2.1 (h.2.2.2 (b - 1) (by have := g.1; omega))).elim
def dO : Option Nat → PyData
  | none => .none
  | some m => .int (m : Nat)
theorem dp_oV {K : PySem.W.Frag} {H : Hp} : ∀ a : Option Nat, Dp K H (oV a) (dO a)
  | none => .non
  | some _ => .int _
theorem okD_dO (n : Nat) : ∀ a : Option Nat, okD n (dO a) = true
  | none => by cases n <;> rfl
  | some m => okD_i n _
theorem neT_go {K : PySem.W.Frag} {H : Hp} {a b : Addr} {l : List Int} {Q : VK} (h1 : SqT K H a (l.map V.int)) (h2 : SqT K H b (l.map V.int)) (hl : l.length ≤ 1000) (q : Q (.bl false) H) : qNe K (.ref a) (.ref b) H Q :=
  ne_same (n := 1) (dp_ti h1) (dp_ti h2) (pld_ti l) (okD_ti hl) (by decide) q
/-- sizes compared -/
theorem neZ_go {K : PySem.W.Frag} {H : Hp} {a b : Addr} {l m : List Int} {Q : VK} (h1 : SqT K H a (l.map V.int)) (h2 : SqT K H b (m.map V.int)) (l1 : l.length ≤ 1000) (l2 : m.length ≤ 1000) (q : Q (.bl (!decide (l = m))) H) : qNe K (.ref a) (.ref b) H Q := by
  by_cases e : l = m
  · rw [decide_eq_true e] at q
    subst e
    exact ne_same (n := 1) (dp_ti h1) (dp_ti h2) (pld_ti l) (okD_ti l1) (by decide) q
  · rw [decide_eq_false e] at q
    exact ne_diff (n := 1) (m := 1) (dp_ti h1) (dp_ti h2) (pld_ti l) (pld_ti m) (okD_ti l1) (okD_ti l2) (by decide) (by decide) (fun z => e (dTi_inj z)) q
def dNm (nm : Str) : PyData := .tuple [.str nm]
theorem dp_nm1 {K : PySem.W.Frag} {H : Hp} {e : Addr} {nm : Str} (h : H e = some (.tup [.str nm])) : Dp K H (.ref e) (dNm nm) := .tup (.inl (.inl h)) (.cons (.str nm) .nil)
theorem ne_nm {K : PySem.W.Frag} {H : Hp} {e d : Addr} {nm : Str} {Q : VK} (h1 : H e = some (.tup [.str nm])) (h2 : H d = some (.tup [.str nm])) (hc : PyData.canLay0 (.str nm) = true) (q : Q (.bl false) H) : qNe K (.ref e) (.ref d) H Q :=
  ne_same (n := 1) (dp_nm1 h1) (dp_nm1 h2) (by unfold dNm pld pldAll pldAll pld; rw [hc]; rfl) (by rfl) (by decide) q
theorem planE_err {K : PySem.W.Frag} {CS C0 C1 C2 C3 C4 C5 C6 C7 C8 C9 C10 C11 C12 C13 C14 : Addr} {H : Hp} {Q : VK} {part : Str} {i : Int} (AP : ErA K CS C0 C1 C2 C3 C4 C5 C6 C7 C8 C9 C10 C11 C12 C13 C14 C0 "plan") (hq : NewS H [.str "plan", .str part, .int i] Q) :
    PlanE C0 H part i (ErrE K CS C0 C1 C2 C3 C4 C5 C6 C7 C8 C9 C10 C11 C12 C13 C14 Q) := by
  intro H' dd fs sm h1 h2 h3
  obtain ⟨b0, b1, b2, b3, b4, b5, b6, b7, b8, b9, b10, b11, b12, b13, b14, j, R⟩ := AP.ex
  exact ⟨C0, "plan", b0, b1, b2, b3, b4, b5, b6, b7, b8, b9, b10, b11, b12, b13, b14, j, rfl, .inr ⟨dd, fs, rfl, h1⟩, R, .inr ⟨rfl, rfl, dd, fs, _, _, rfl, h1, h2, h3, hq.imp sm⟩⟩
/-- a statement that ends, and what stands behind it -/
theorem seq_ways2 {a b : TS} {D : Ends} {σ : L2.St} {H : Hp} {B : L2.St → Hp → Prop} (tail : ∀ σ' H', B σ' H' → b D σ' H') (main : (∀ σ' H', B σ' H' → b D σ' H') → tSeq a b D σ H) : tSeq a b D σ H := main tail
theorem okE_mono {n : Int} : ∀ {e : Option Int}, okE n e = true → okE (n + 1) e = true
  | none, _ => rfl
  | some z, h => by
    have := of_decide_eq_true h
    exact decide_eq_true (by omega)
theorem val_more {zs : List Int} {rs : List Ro} (v : Val zs rs) (h : zs.length ≤ 4) : Val (zs ++ [0]) rs := by
  have z1 := v.z1
  refine ⟨⟨by rw [List.length_append, List.length_singleton]; omega, fun z hz => ?_, v.r1, v.r2⟩, fun r hr e he => ?_⟩
  · rcases List.mem_append.mp hz with h1 | h1
    · exact v.z2 z h1
    · rw [List.mem_singleton.mp h1]
      decide
  · have := okE_mono (v.e r hr e he)
    rw [List.length_append, List.length_singleton]
    rw [show ((zs.length + 1 : Nat) : Int) = (zs.length : Nat) + 1 by omega]
    exact this
theorem val_idle {zs : List Int} {rs : List Ro} (v : Val zs rs) (h : rs.length ≤ 3) : Val zs (rs ++ [[none]]) := by
  have r1 := v.r1
  refine ⟨⟨v.z1, v.z2, by rw [List.length_append, List.length_singleton]; omega, fun r hr => ?_⟩, fun r hr e he => ?_⟩
  · rcases List.mem_append.mp hr with h1 | h1
    · exact v.r2 r h1
    · rw [List.mem_singleton.mp h1]
      decide
  · rcases List.mem_append.mp hr with h1 | h1
    · exact v.e r h1 e he
    · rw [List.mem_singleton.mp h1] at he
      rw [List.mem_singleton.mp he]
      rfl
theorem val_half {zs : List Int} {rs : List Ro} {z0 : Int} (v : Val zs rs) (h : zs[0]? = some z0) : Val ((z0 / 2 + 1) :: zs.drop 1) rs := by
  have z1 := v.z1
  have b := v.z2 z0 (List.mem_of_getElem? h)
  have el : ((z0 / 2 + 1) :: zs.drop 1).length = zs.length := by rw [List.length_cons, List.length_drop]; omega
  refine ⟨⟨by rw [el]; exact z1, fun z hz => ?_, v.r1, v.r2⟩, fun r hr e he => by rw [el]; exact v.e r hr e he⟩
  rcases List.mem_cons.mp hz with rfl | h1
  · omega
  · exact v.z2 z (List.mem_of_mem_drop h1)
def SlL15 (p u : Addr) : L2.St → Prop := fun σ => ∃ y0 y1 y2 y4 y5 y6 y7 y8 y9 y10 y11 y12 y13 y15 y16, σ = [y0, y1, y2, some (.ref p), y4, y5, y6, y7, y8, y9, y10, y11, y12, y13, some (.ref u), y15, y16]
abbrev dueW : List V := [.str "plan", .str "sizes", .int 0]
def dW : PyData := .tuple [.str "plan", .str "sizes", .int 0]
theorem dp_W {K : PySem.W.Frag} {H : Hp} {b : Addr} (h : H b = some (.tup dueW)) : Dp K H (.ref b) dW := .tup (.inl (.inl h)) (.cons (.str _) (.cons (.str _) (.cons (.int _) .nil)))
theorem bad_W : bad [10] [[some 0]] = some (("sizes" : Str), (0 : Int)) := by rfl
theorem small_W : Small [10] [[some 0]] := by
  unfold Small
  decide
section
variable {X : Cx} (T : Bd X.prog X.K X.mg) {TT : List (Addr × Str)} {CS C1 C3 C4 C5 C6 C7 C9 C10 C11 C12 C13 C14 ha la p o st u f : Addr} {H : Hp} {zs : List Int} {rs rs2 : List Ro} {t : Int} {L : Lay Int} (AN : Ans15 X.K CS T.C C1 T.CC C3 C4 C5 C6 C7 T.CD C9 C10 C11 C12 C13 C14) (hv : Val zs rs)
include AN hv
theorem wkW1 (h : LamIs X 8 H f [3, 14] (tlW1 X.K T.C T.CD)) : Wk4 X 8 CS T.C C1 T.CC C3 C4 C5 C6 C7 T.CD C9 C10 C11 C12 C13 C14 (fun H' => B15 X.K TT H' ha la p o st zs rs rs2 t L ∧ PlanAt X.K H' u [10] [[some 0]]) (SlL15 p u) H f dueW :=
  ⟨_, _, [some (.ref p), some (.ref u)], h, fun σ hs => (by obtain ⟨_, _, _, _, _, _, _, _, _, _, _, _, _, _, _, rfl⟩ := hs; rfl), fun H' Q I s9 => ⟨p, u, rfl, go_fdB2 I.1.p hv I.2 small_W bad_W (planE_err AN.plan s9)⟩⟩
theorem wkW2 (h : LamIs X 8 H f [3, 14] (tlW2 X.K T.C T.CD)) : Wk4 X 8 CS T.C C1 T.CC C3 C4 C5 C6 C7 T.CD C9 C10 C11 C12 C13 C14 (fun H' => B15 X.K TT H' ha la p o st zs rs rs2 t L ∧ PlanAt X.K H' u [10] [[some 0]]) (SlL15 p u) H f dueW :=
  ⟨_, _, [some (.ref p), some (.ref u)], h, fun σ hs => (by obtain ⟨_, _, _, _, _, _, _, _, _, _, _, _, _, _, _, rfl⟩ := hs; rfl), fun H' Q I s9 => ⟨p, u, rfl, go_fdB1 I.2 small_W I.1.p hv.small bad_W (planE_err AN.plan s9)⟩⟩
end
section
variable {P : Program} {w : World} {K : PySem.W.Frag} {mg : Str → Option Value} {base : Heap}
def nLaw : List Str := ["_law_script", "_law_h", "_law_turn", "_law_plan_here", "_law_other_here", "_law_state_here", "_law_one", "_law_two", "_law_due", "_law_moment", "_law_far", "_law_sizes", "_law_routes", "_law_odd", "_law_wrong", "_law_works", "_law_call"]
theorem scLaw : FnScope nLaw ["_law_script"] (defScope sLaw) := ⟨rfl, rfl, rfl, by decide +kernel, rfl, by decide +kernel, by decide +kernel⟩
def lwT (Pt : Addr) : List (Addr × Str) := [(Pt, lwQ)]
def spLaw (K : PySem.W.Frag) (Pt : Addr) : Sp := fun vs H Q _ => ∃ (a : Addr) (ns : List Int), vs = [.ref a] ∧ SqL K H a (ns.map V.int) ∧ ns.length ≤ 63 ∧ Tabs (lwT Pt) H ∧ ∀ H', Q (.bl true) H'
theorem ok_law {f c Pt : Addr} {fd : FuncData} (T : Bd P K mg) (F : Df K mg "law" sLaw ["_law_script"] f fd) {CS C1 C3 C4 C5 C6 C7 C9 C10 C11 C12 C13 C14 : Addr} (hc : fd.code = .ref c) (TB : TabB base mg c Pt)
    (G : ErG mg CS T.C C1 T.CC C3 C4 C5 C6 C7 T.CD C9 C10 C11 C12 C13 C14) (XF : XfC K T.C) (xp : PySem.W.findIn K (.ref T.C) "part" = some none) (xi : PySem.W.findIn K (.ref T.C) "index" = some none)
    (AN : Ans15 K CS T.C C1 T.CC C3 C4 C5 C6 C7 T.CD C9 C10 C11 C12 C13 C14) :
    FnOk P w K mg base CX0 14 f fd ["_law_script"] (spLaw K Pt) := by
  have GM : FnOk P w K mg base CX0 1 T.aLMix T.dLMix ["_law_script", "_law_seed"] (spMix K) := ok_mix T.LMix.F T.bt
  have GN : FnOk P w K mg base CX0 1 T.aLNext T.dLNext ["_law_h", "_law_limit"] qNext := by unfold qNext; exact ok_next T.LNext.F T.bt
  have GA : FnOk P w K mg base CX0 7 T.aLAlike T.dLAlike ["_law_found", "_law_due"] (qAlike K) := by unfold qAlike; exact ok_alike T.LAlike T.bt 6
  have GP : FnOk P w K mg base CX0 2 T.aLPlan T.dLPlan ["_law_h", "_law_shelves", "_law_carriers"] (qPlanG K) := by unfold qPlanG; exact ok_planG T
  have GS : FnOk P w K mg base CX0 2 T.aLState T.dLState ["_law_h", "_law_plan_here"] (qState K) := by unfold qState; exact ok_state T
  have GB : FnOk P w K mg base CX0 1 T.aLBegun T.dLBegun ["_law_state_here"] (qBegun K) := by unfold qBegun; exact ok_begun T
  have GE : FnOk P w K mg base CX0 1 T.aLSeen T.dLSeen ["_law_w"] (qSeen K) := by unfold qSeen; exact ok_seen T
  have GT : FnOk P w K mg base CX0 1 T.aLStep T.dLStep ["_law_plan_here", "_law_w"] (qStep K) := by unfold qStep; exact ok_step T
  have GO : FnOk P w K mg base CX0 3 T.aLOther T.dLOther ["_law_h", "_law_plan_here"] (spOt K) := ok_ot T
  have G1 : FnOk P w K mg base CX0 13 T.aLLateRight T.dLLateRight ["_law_h"] (spLa K) := ok_la T
  have JF : FnOk P w K mg base (L2.CX P w) 12 T.aFirstDiff T.dFirstDiff ["plan", "other", "time"] (qFd K T.C T.CD) := fd_ok T
  have JE : FnOk P w K mg base (L2.CX P w) 12 T.aEffectOf T.dEffectOf ["plan", "time", "count"] (qEffOf K T.C T.CC) := effOf_ok T
  have GX : FnSt P w K mg base 9 T.aLError (KnErr P w K mg base 8 CS T.C C1 T.CC C3 C4 C5 C6 C7 T.CD C9 C10 C11 C12 C13 C14) := ok_error T.LError T.bt G XF xp xi
  refine fun_okC F.F hc scLaw (fun vs H Q E h => ?_) (fun A outer s H vs Q E hr h => ?_)
  · obtain ⟨a, ns, rfl, _⟩ := h
    rfl
  · obtain ⟨a, ns, rfl, hA, hl, hT, q⟩ := h
    have uu : ∀ p ∈ lwT Pt, p.1 = Pt → p.2 = lwQ := fun p hp _ => by rw [List.mem_singleton.mp hp]
    have LT : LamT (cxOf CX0 P w K mg base nLaw "law" (defScope sLaw) f (.ref c) A outer s H E).nox (lwT Pt) c Pt := ⟨TB, rfl, List.mem_singleton.mpr rfl, uu⟩
    have far0 : ∀ (pins : List (Addr × Obj)) (σ : L2.St) (H' : Hp) (s' : Shared), Inv (cxOf CX0 P w K mg base nLaw "law" (defScope sLaw) f (.ref c) A outer s H E).nox pins σ H' s' → Far (cxOf CX0 P w K mg base nLaw "law" (defScope sLaw) f (.ref c) A outer s H E).nox := fun _ _ _ _ I => far_def I fun _ => rfl
    refine ⟨_, pss_cons (ps_set (i := 1) scLaw.nd rfl (Or.inl rfl) (pe_call (E := E0) GM (hr.mono (by decide)) (by rfl) T.LMix.g T.LMix.F.kp T.LMix.b .nil pass0 (pa_cons (pv 0) (pa_cons (pe_int) pa_nil))))
      (pss_cons (ps_if (pt_not (pt_val (pe_call (E := E0) G1 (hr.mono (by decide)) (by rfl) T.LLateRight.g T.LLateRight.F.kp T.LLateRight.b .nil pass0 (pa_cons (pv 1) pa_nil)))) pss_never pss_nil)
      (pss_cons (ps_for PassesOwn.never rfl (pi_range1 (by rfl) T.bt.range (pa_cons (pe_int) pa_nil)) (pg_name (i := 2) scLaw.nd rfl (Or.inl rfl))
        (pss_cons (ps_set (i := 3) scLaw.nd rfl (Or.inr rfl) (pe_call (E := E0) GP (hr.mono (by decide)) (by rfl) T.LPlan.g T.LPlan.F.kp T.LPlan.b .nil pass0 (pa_cons (pv 1) (pa_cons (pe_int) (pa_cons (pe_int) pa_nil)))))
      (pss_cons (ps_par (i := 4) (j := 5) rfl scLaw.nd rfl rfl (by decide) rfl rfl (pa_cons (pe_call (E := E0) GO (hr.mono (by decide)) (by rfl) T.LOther.g T.LOther.F.kp T.LOther.b .nil pass0 (pa_cons (pv 1) (pa_cons (pv 3) pa_nil))) (pa_cons (pe_call (E := E0) GS (hr.mono (by decide)) (by rfl) T.LState.g T.LState.F.kp T.LState.b .nil pass0 (pa_cons (pv 1) (pa_cons (pv 3) pa_nil))) pa_nil)) (by rfl))
      (pss_cons (ps_par3 (i := 6) (j := 7) (l := 8) rfl scLaw.nd rfl rfl rfl (by decide) (by decide) (by decide) rfl rfl rfl (pa_cons (pe_call (E := E0) GB (hr.mono (by decide)) (by rfl) T.LBegun.g T.LBegun.F.kp T.LBegun.b .nil pass0 (pa_cons (pv 5) pa_nil)) (pa_cons (pe_call (E := E0) GB (hr.mono (by decide)) (by rfl) T.LBegun.g T.LBegun.F.kp T.LBegun.b .nil pass0 (pa_cons (pv 5) pa_nil)) (pa_cons (pe_non) pa_nil))) (by rfl))
      (pss_cons (ps_for PassesOwn.never rfl (pi_range2 (by rfl) T.bt.range (pa_cons (pe_int) (pa_cons (pe_int) pa_nil))) (pg_name (i := 9) scLaw.nd rfl (Or.inl rfl))
        (pss_cons (ps_expr (pe_call (E := E0) GT (hr.mono (by decide)) (by rfl) T.LStep.g T.LStep.F.kp T.LStep.b .nil pass0 (pa_cons (pv 3) (pa_cons (pv 6) pa_nil))))
      (pss_cons (ps_expr (pe_call (E := E0) GT (hr.mono (by decide)) (by rfl) T.LStep.g T.LStep.F.kp T.LStep.b .nil pass0 (pa_cons (pv 4) (pa_cons (pv 7) pa_nil))))
      (pss_one (ps_if ((pw_and (pt_cmpR op_isN (pv 8) pe_non (nomark _)) (pw_and1 (pt_cmpR (op_neQ hr.units) (pe_call (E := E0) GE (hr.mono (by decide)) (by rfl) T.LSeen.g T.LSeen.F.kp T.LSeen.b .nil pass0 (pa_cons (pv 6) pa_nil)) (pe_call (E := E0) GE (hr.mono (by decide)) (by rfl) T.LSeen.g T.LSeen.F.kp T.LSeen.b .nil pass0 (pa_cons (pv 7) pa_nil)) (nomark _)))).pt) (pss_one (ps_set (i := 8) scLaw.nd rfl (Or.inl rfl) (pv 9))) pss_nil)))))
      (pss_cons (ps_if (pt_not (pt_val (pe_call (E := E0) GA (hr.mono (by decide)) (by rfl) T.LAlike.g T.LAlike.F.kp T.LAlike.b .nil pass0 (pa_cons (pe_lst (pa_cons (pe_call (E := E0) JF (hr.mono (by decide)) (by rfl) T.FirstDiff.g T.FirstDiff.F.kp T.FirstDiff.b .nil passL (pa_cons (pv 3) (pa_cons (pv 4) (pa_cons (pe_ix ix_tup (pv 5) (pe_int) (fun _ _ => rfl)) pa_nil)))) (pa_cons (pe_call (E := E0) JF (hr.mono (by decide)) (by rfl) T.FirstDiff.g T.FirstDiff.F.kp T.FirstDiff.b .nil passL (pa_cons (pv 4) (pa_cons (pv 3) (pa_cons (pe_ix ix_tup (pv 5) (pe_int) (fun _ _ => rfl)) pa_nil)))) pa_nil))) (pa_cons (pe_lst (pa_cons (pv 8) (pa_cons (pv 8) pa_nil))) pa_nil))))) pss_never pss_nil)
      (pss_cons (ps_if (pt_cmpR op_isN (pv 8) pe_non (nomark _)) (pss_cons (ps_set (i := 10) scLaw.nd rfl (Or.inl rfl) (pe_call (E := E0) GN (hr.mono (by decide)) (by rfl) T.LNext.g T.LNext.F.kp T.LNext.b .nil pass0 (pa_cons (pv 1) (pa_cons (pe_op op_pow pe_int pe_int) pa_nil))))
      (pss_one (ps_if (pt_cmpR (op_neQ hr.units) (pe_call (E := E0) JE (hr.mono (by decide)) (by rfl) T.EffectOf.g T.EffectOf.F.kp T.EffectOf.b .nil passL (pa_cons (pv 3) (pa_cons (pe_ix ix_tup (pv 5) (pe_int) (fun _ _ => rfl)) (pa_cons (pv 10) pa_nil)))) (pe_call (E := E0) JE (hr.mono (by decide)) (by rfl) T.EffectOf.g T.EffectOf.F.kp T.EffectOf.b .nil passL (pa_cons (pv 4) (pa_cons (pe_ix ix_tup (pv 5) (pe_int) (fun _ _ => rfl)) (pa_cons (pv 10) pa_nil)))) (nomark _)) pss_never pss_nil))) (pss_one (ps_if (pt_cmpR (op_neQ hr.units) (pe_call (E := E0) JE (hr.mono (by decide)) (by rfl) T.EffectOf.g T.EffectOf.F.kp T.EffectOf.b .nil passL (pa_cons (pv 3) (pa_cons (pe_ix ix_tup (pv 5) (pe_int) (fun _ _ => rfl)) (pa_cons (pe_op op_sub (pv 8) (pe_int)) pa_nil)))) (pe_call (E := E0) JE (hr.mono (by decide)) (by rfl) T.EffectOf.g T.EffectOf.F.kp T.EffectOf.b .nil passL (pa_cons (pv 4) (pa_cons (pe_ix ix_tup (pv 5) (pe_int) (fun _ _ => rfl)) (pa_cons (pe_op op_sub (pv 8) (pe_int)) pa_nil)))) (nomark _)) pss_never pss_nil)))
      (pss_cons (ps_asg (pv 3) (pg_tup rfl (pgs_cons (pg_name (i := 11) scLaw.nd rfl (.inl rfl)) (pgs_cons (pg_name (i := 12) scLaw.nd rfl (.inl rfl)) pgs_nil))))
      (pss_cons (ps_set (i := 13) scLaw.nd rfl (Or.inr rfl) (pe_ix ix_list (pe_lst (pa_cons (pe_tup (pa_cons (pe_op op_catQ (pv 11) (pe_tup (pa_cons (pe_int) pa_nil))) (pa_cons (pv 12) pa_nil))) (pa_cons (pe_tup (pa_cons (pv 11) (pa_cons (pe_op op_catQ (pv 12) (pe_tup (pa_cons (pe_tup (pa_cons (pe_non) pa_nil)) pa_nil))) pa_nil))) (pa_cons (pe_tup (pa_cons (pe_op op_catQ (pe_tup (pa_cons (pe_op op_add (pe_op op_fdiv (pe_ix ix_tup (pv 11) (pe_int) (fun _ _ => rfl)) (pe_int)) (pe_int)) pa_nil)) (pe_slice sl_tupQ (pv 11) (po_some (pe_int)) (po_none))) (pa_cons (pv 12) pa_nil))) pa_nil)))) (pe_call (E := E0) GN (hr.mono (by decide)) (by rfl) T.LNext.g T.LNext.F.kp T.LNext.b .nil pass0 (pa_cons (pv 1) (pa_cons (pe_int) pa_nil))) (fun _ _ => rfl)))
      (pss_cons (ps_if ((pw_or ((pw_and (pt_cmpR op_le (pe_callB call_len_seq (by rfl) T.bt.len b_len (pa_cons (pe_ix ix_tup (pv 13) (pe_int) (fun _ _ => rfl)) pa_nil)) (pe_int) (nomark _)) (pw_and1 (pt_cmpR (op_neQ hr.units) (pe_ix ix_tup (pv 13) (pe_int) (fun _ _ => rfl)) (pv 11) (nomark _)))).pt) (pw_or1 (pt_cmpR op_ne (pe_callB call_len_seq (by rfl) T.bt.len b_len (pa_cons (pe_ix ix_tup (pv 13) (pe_int) (fun _ _ => rfl)) pa_nil)) (pe_callB call_len_seq (by rfl) T.bt.len b_len (pa_cons (pv 12) pa_nil)) (nomark _)))).pt) (pss_one (ps_if ((pw_and (pt_cmpR op_le (pe_callB call_len_seq (by rfl) T.bt.len b_len (pa_cons (pe_ix ix_tup (pv 13) (pe_int) (fun _ _ => rfl)) pa_nil)) (pe_int) (nomark _)) (pw_and1 (pt_cmpR (op_neQ hr.units) (pe_errLam GX (hr.mono (by decide)) (by rfl) T.LError.g T.LError.F.kp far0 (pe_lamK0 (js := [13, 3]) LT (lbOdd T))) (pe_tup (pa_cons (pe_str) pa_nil)) (nomark _)))).pt) pss_never pss_nil)) pss_nil)
      (pss_cons (ps_set (i := 14) scLaw.nd rfl (Or.inr rfl) (pe_tup (pa_cons (pe_tup (pa_cons (pe_int) pa_nil)) (pa_cons (pe_tup (pa_cons (pe_tup (pa_cons (pe_int) pa_nil)) pa_nil)) pa_nil))))
      (pss_cons (ps_set (i := 15) scLaw.nd rfl (Or.inl rfl) (pe_lst (pa_cons ((pe_lamK0 (js := [3, 14]) LT (lbW1 T))) (pa_cons ((pe_lamK1 (js := [3, 14]) LT (lbW2 T) hbnW2)) pa_nil))))
      (pss_one (ps_if (pt_cmpR (op_neQ hr.units) (pe_lcI (own := [("_law_call", 16)]) (g := gName 16) (tt := fun _ => tYes) rfl scLaw.nd (pi_list (pv 15)) (blkOk_by (N := nLaw) (sc := defScope sLaw) (by decide +kernel)) (fun _ _ _ _ _ => pg_name (i := 16) scLaw.nd rfl (Or.inl rfl)) (fun _ _ _ _ _ _ _ => pts_nil) (fun _ _ _ _ _ _ B0 => pe_errBlk (i := 16) GX (hr.mono (by decide)) (fun _ => rfl) B0 (by rfl) T.LError.g T.LError.F.kp (pv 16))) (pe_op op_rep (pe_lst (pa_cons (pe_tup (pa_cons (pe_str) (pa_cons (pe_str) (pa_cons (pe_int) pa_nil)))) pa_nil)) (pe_int)) (nomark _)) pss_never pss_nil))))))))))))))
      (pss_one (ps_ret (pe_bl))))), ?_⟩
    have p64 : (1000 : Int) < 2 ^ 64 := by decide
    have p62 : (1000 : Int) < 2 ^ 62 := by decide
    refine ⟨.ref a, rfl, a, ns, 15, rfl, hA, hl, fun H1 h l LH sm nh nl => ?_⟩
    refine ⟨.ref h, rfl, h, l, rfl, LH, fun H0 S0 => ⟨true, rfl, iteF ?_⟩⟩
    refine ⟨3, rfl, by omega, by omega, ?_⟩
    refine for_range (lo := 0) (n := (3 : Int).toNat) (fun i σ H' => (∃ x0 x2 x3 x4 x5 x6 x7 x8 x9 x10 x11 x12 x13 x14 x15 x16, σ = [x0, some (.ref h), x2, x3, x4, x5, x6, x7, x8, x9, x10, x11, x12, x13, x14, x15, x16]) ∧ LS (lwT Pt) h l H')
      ⟨⟨_, _, _, _, _, _, _, _, _, _, _, _, _, _, _, _, rfl⟩, S0.law, tabs_x (hT.ext sm) LH S0.k⟩ (fun i σ H2 hi ⟨⟨x0, x2, x3, x4, x5, x6, x7, x8, x9, x10, x11, x12, x13, x14, x15, x16, es⟩, S2⟩ => ?_) (fun σ H2 _ => q _)
    subst es
    clear LH sm nh nl hT S0
    refine seq_abs fun bT eT => ?_
    refine ⟨.ref h, rfl, ?_⟩
    show qPlanG _ _ _ _ _
    refine go_planG S2.law ⟨by decide, by decide⟩ ⟨by decide, by decide⟩ fun H5 p zs rs S5 hp5 hv hz4 hr3 => ?_
    show bT _ _ _
    subst eT
    refine seq_abs fun bT eT => ?_
    refine ⟨.ref h, rfl, .ref p, rfl, h, l, p, zs, rs, rfl, S5.law, hp5, hv, fun H6 o rs2 S6 ho6 hv2 hl2 => ⟨.ref h, rfl, .ref p, rfl, ?_⟩⟩
    show qState _ _ _ _ _
    have hp6 := plan_imp hp5 (sqT_st S5.law S6)
    refine go_state S6.law hp6 hv fun H7 st t L S7 hs7 ok0 ht0 => ⟨_, _, rfl, ?_⟩
    have B7 : B15 K (lwT Pt) H7 h l p o st zs rs rs2 t L := ⟨((S2.x S5.law S5.k).x S6.law S6.k).x S7.law S7.k, plan_imp hp6 (sqT_st S6.law S7), plan_imp ho6 (sqT_st S6.law S7), hs7⟩
    clear S2 S5 hp5 S6 ho6 hp6 S7 hs7
    show bT _ _ _
    subst eT
    refine seq_abs fun bT eT => ?_
    have lsm := lsm_fits hv ok0.f
    have z1 := hv.z1
    have r1 := hv.r1
    have hnum := hv.num
    -- two worlds
    refine ⟨.ref st, rfl, ?_⟩
    show qBegun _ _ _ _ _
    refine go_begun B7.s lsm.2.1 fun H8 wa hc hs rw sm8 W8 fr8 => ⟨.ref st, rfl, ?_⟩
    show qBegun _ _ _ _ _
    refine go_begun (B7.s.same sm8) lsm.2.1 fun H9 wb hd hs2 rw2 sm9 W9 fr9 => ⟨_, _, _, rfl, ?_⟩
    have B9 := (B7.sm sm8).sm sm9
    have V9 := W8.same sm9
    have na : h ∉ foot wa hc rw ∧ l ∉ foot wa hc rw := by
      have key : ∀ b ∈ foot wa hc rw, H7 b = none := fun b hb => fr8 b (by
        rcases List.mem_cons.mp hb with z | hb
        · rw [z]; exact List.mem_cons_self ..
        rcases List.mem_cons.mp hb with z | hb
        · rw [z]; exact List.mem_cons_of_mem _ (List.mem_cons_self ..)
        · exact List.mem_cons_of_mem _ (List.mem_cons_of_mem _ (List.mem_cons_of_mem _ hb)))
      exact ⟨fun m => (B7.ls.law.nn (key _ m)).1 rfl, fun m => (B7.ls.law.nn (key _ m)).2 rfl⟩
    have nb : h ∉ foot wb hd rw2 ∧ l ∉ foot wb hd rw2 := by
      have key : ∀ b ∈ foot wb hd rw2, H8 b = none := fun b hb => fr9 b (by
        rcases List.mem_cons.mp hb with z | hb
        · rw [z]; exact List.mem_cons_self ..
        rcases List.mem_cons.mp hb with z | hb
        · rw [z]; exact List.mem_cons_of_mem _ (List.mem_cons_self ..)
        · exact List.mem_cons_of_mem _ (List.mem_cons_of_mem _ (List.mem_cons_of_mem _ hb)))
      exact ⟨fun m => ((B7.sm sm8).ls.law.nn (key _ m)).1 rfl, fun m => ((B7.sm sm8).ls.law.nn (key _ m)).2 rfl⟩
    have dab : ∀ b ∈ wb :: hd :: hs2 :: rw2, b ∉ foot wa hc rw := fun b hb m => by
      refine W8.some b ?_ (fr9 b hb)
      rcases List.mem_cons.mp m with z | m
      · rw [z]; exact List.mem_cons_self ..
      rcases List.mem_cons.mp m with z | m
      · rw [z]; exact List.mem_cons_of_mem _ (List.mem_cons_self ..)
      · exact List.mem_cons_of_mem _ (List.mem_cons_of_mem _ (List.mem_cons_of_mem _ m))
    have dba : ∀ b ∈ wa :: hc :: hs :: rw, b ∉ foot wb hd rw2 := fun b hb m => by
      refine W8.some b hb (fr9 b ?_)
      rcases List.mem_cons.mp m with z | m
      · rw [z]; exact List.mem_cons_self ..
      rcases List.mem_cons.mp m with z | m
      · rw [z]; exact List.mem_cons_of_mem _ (List.mem_cons_self ..)
      · exact List.mem_cons_of_mem _ (List.mem_cons_of_mem _ (List.mem_cons_of_mem _ m))
    clear B7 sm8 sm9 fr8 fr9 W8
    show bT _ _ _
    subst eT
    refine seq_abs fun bT eT => ?_
    -- tick by tick
    refine ⟨1, 121, rfl, ⟨by decide, by decide, by decide, by decide⟩, ?_⟩
    refine for_range (lo := 1) (n := ((121 : Int) - 1).toNat) (fun k σ H' => (∃ (a : Option Nat) (x2 x9 x10 x11 x12 x13 x14 x15 x16 : Option V), σ = [x0, some (.ref h), x2, some (.ref p), some (.ref o), some (.ref st), some (.ref wa), some (.ref wb), some (oV a), x9, x10, x11, x12, x13, x14, x15, x16] ∧ Lw rs.length zs rs rs2 t k a) ∧ B15 K (lwT Pt) H' h l p o st zs rs rs2 t L ∧ W3 H' wa hc hs rw (t + (k : Nat)) (run rs t k L) ∧ W3 H' wb hd hs2 rw2 (t + (k : Nat)) (run rs2 t k L))
      ⟨⟨none, _, _, _, _, _, _, _, _, _, rfl, fun j hj => absurd hj (Nat.not_lt_zero _)⟩, B9, by rw [show t + ((0 : Nat) : Int) = t by omega]; exact V9, by rw [show t + ((0 : Nat) : Int) = t by omega]; exact W9⟩ (fun k σ H' hk ⟨⟨a, y2, y9, y10, y11, y12, y13, y14, y15, y16, es, hLw⟩, BA, WA, WB⟩ => ?_) (fun σ H' ⟨⟨a, y2, y9, y10, y11, y12, y13, y14, y15, y16, es, hLw⟩, BA, WA, WB⟩ => ?_)
    · subst es
      clear B9 V9 W9
      refine seq_abs fun bU eU => ?_
      have fA := run_fits rs t k ok0.f
      have fB := run_fits rs2 t k ok0.f
      refine ⟨.ref p, rfl, .ref wa, rfl, ?_⟩
      show qStep _ _ _ _ _
      refine go_step BA.p hv WA fA fun G1 e1 off1 W1 ne1 tl1 => ?_
      have BB := BA.off WA off1 na.1 na.2
      have WB1 := WB.off dab off1
      clear BA WA WB tl1 ne1 off1
      show bU _ _ _
      subst eU
      refine seq_abs fun bU eU => ?_
      refine ⟨.ref o, rfl, .ref wb, rfl, ?_⟩
      show qStep _ _ _ _ _
      refine go_step BB.o hv2 WB1 (by rw [hl2]; exact fB) fun G2 e2 off2 W2 ne2 tl2 => ?_
      have BC := BB.off WB1 off2 nb.1 nb.2
      have WC := W1.off dba off2
      clear BB WB1 W1 tl2 ne2 off2
      have et : t + (k : Nat) + 1 = t + ((k + 1 : Nat) : Int) := by omega
      rw [et] at W2 WC
      have WC' : W3 G2 wa hc hs rw (t + ((k + 1 : Nat) : Int)) (run rs t (k + 1) L) := WC
      have W2' : W3 G2 wb hd hs2 rw2 (t + ((k + 1 : Nat) : Int)) (run rs2 t (k + 1) L) := W2
      clear WC W2
      show bU _ _ _
      subst eU
      cases a with
      | some m =>
        refine ⟨oV (some m), rfl, rfl, _, rfl, ite_no (decide_eq_false fun z => nomatch z) ?_⟩
        exact ⟨⟨some m, _, _, _, _, _, _, _, _, _, rfl, hLw.1, by have := hLw.2.1; omega, hLw.2.2⟩, BC, WC', W2'⟩
      | none =>
        have lsA := lsm_fits hv (run_fits rs t (k + 1) ok0.f)
        have lsB := lsm_fits hv (run_fits rs2 t (k + 1) ok0.f)
        refine ⟨oV none, rfl, rfl, _, rfl, ite_yes (decide_eq_true rfl) ⟨.ref wa, rfl, ?_⟩⟩
        show qSeen _ _ _ _ _
        refine go_seen WC' lsA.2.1 fun G3 s1 sm3 ns1 hs1 => ⟨.ref wb, rfl, ?_⟩
        show qSeen _ _ _ _ _
        refine go_seen (W2'.same sm3) lsB.2.1 fun G4 s2 sm4 ns2 hs2 => ?_
        have BD := (BC.sm sm3).sm sm4
        have WD := (WC'.same sm3).same sm4
        have WE := (W2'.same sm3).same sm4
        refine neS_go (hs1.same sm4) hs2 lsA lsB ⟨_, rfl, ?_⟩
        by_cases e : run rs t (k + 1) L = run rs2 t (k + 1) L
        · refine ite_no (by rw [decide_eq_true e]; rfl) ⟨⟨none, _, _, _, _, _, _, _, _, _, rfl, fun j hj => ?_⟩, BD, WD, WE⟩
          by_cases hjk : j = k
          · subst hjk
            exact Decidable.byContradiction fun hd => run_diff ok0.f ok0.p.2 j hLw hd e
          · exact hLw j (by omega)
        · refine ite_yes (by rw [decide_eq_false e]; rfl) ⟨.int (1 + (k : Nat)), rfl, ?_⟩
          refine ⟨⟨some (k + 1), y2, some (.int (1 + (k : Nat))), y10, y11, y12, y13, y14, y15, y16, ?_, by omega, by omega, fun z => e (run_same 0 ok0.f (k + 1) fun j hj => ?_), fun j hj => hLw j (by omega)⟩, BD, WD, WE⟩
          · rw [show oV (some (k + 1)) = V.int (1 + (k : Nat)) by show V.int ((k + 1 : Nat) : Int) = _; congr 1; omega]
            rfl
          · by_cases hjk : j = k
            · subst hjk
              exact z
            · exact hLw j (by omega)
    subst es
    clear B9 V9 W9 WA WB na nb dab dba
    show bT _ _ _
    subst eT
    refine seq_abs fun bT eT => ?_
    have hLw : Lw rs.length zs rs rs2 t 120 a := hLw
    have hs0 : ∀ {Hx : Hp}, B15 K (lwT Pt) Hx h l p o st zs rs rs2 t L → ∃ ca sh : Addr, SqT K Hx st [.int t, .ref ca, .ref sh] := fun b => by
      obtain ⟨ca, sh, h1, _⟩ := b.s.ex
      exact ⟨ca, sh, h1⟩
    obtain ⟨c1, c2, hst⟩ := hs0 BA
    refine ⟨.ref p, rfl, .ref o, rfl, .ref st, rfl, st, _, 0, .int t, rfl, rfl, hst, rfl, ?_⟩
    show qFd K _ _ _ _ _ _
    refine go_fd BA.p hv BA.o hv2 hl2.symm fun G1 b sm1 hb => ?_
    have BB := BA.sm sm1
    refine ⟨.ref o, rfl, .ref p, rfl, .ref st, rfl, st, _, 0, .int t, rfl, rfl, sqT_same sm1 hst, rfl, ?_⟩
    show qFd K _ _ _ _ _ _
    refine go_fd BB.o hv2 BB.p hv hl2 fun G2 b2 sm2 hb2 => ?_
    have BC := BB.sm sm2
    rw [hl2] at hb2
    obtain rfl := hb.comm.one hb2
    obtain rfl := lw_fd (by decide) hLw hb
    clear BA BB sm1 sm2 hst hb2
    refine ⟨(by show 2 ≤ sizeLine; decide), fun l1 hl1 => ⟨oV a, rfl, oV a, rfl, (by show 2 ≤ sizeLine; decide), fun l2 hl3 => ?_⟩⟩
    have g1 := same_upd (o := .lst [oV a, oV a]) hl1
    have g2 := same_upd (o := .lst [oV a, oV a]) hl3
    have kk : (upd (upd G2 l1 (.lst [oV a, oV a])) l2 (.lst [oV a, oV a])) l1 = some (.lst [oV a, oV a]) := g2 _ _ upd_same
    have BD := (BC.sm g1).sm g2
    show qAlike K _ _ _ _
    refine go_alike (d := .list [dO a, dO a]) (.lst (.inl (.inl kk)) (.cons (dp_oV a) (.cons (dp_oV a) .nil))) (.lst (.inl (.inl upd_same)) (.cons (dp_oV a) (.cons (dp_oV a) .nil))) (okD_l (by show 2 ≤ 1000; decide) (okDs_2 (okD_dO _ a) (okD_dO _ a))) fun G5 sm5 => ⟨true, rfl, iteF ?_⟩
    have BE := BD.sm sm5
    clear BC g1 g2 kk BD sm5 hl1 hl3
    show bT _ _ _
    subst eT
    refine seq_abs fun bT eT => ?_
    -- far away
    have L1 := hv.lc1
    have L2' := hv2.lc1
    obtain ⟨c1, c2, hst⟩ := hs0 BE
    refine seq_ways2 (B := fun σ' H' => B15 K (lwT Pt) H' h l p o st zs rs rs2 t L ∧ ∃ x10, σ' = [x0, some (.ref h), y2, some (.ref p), some (.ref o), some (.ref st), some (.ref wa), some (.ref wb), some (oV a), y9, x10, y11, y12, y13, y14, y15, y16]) (fun σ' H' ⟨BF, x10, es⟩ => ?_) (fun tail => ?_)
    · subst es
      clear BE hst
      subst eT
      refine seq_abs fun bT eT => ?_
      -- other sizes
      obtain ⟨pa, pb, hp1, hA1, hB1⟩ := BF.p.ex
      obtain ⟨qs, hB2, hP⟩ := hB1.ex
      have hql := paired_len hP
      obtain ⟨z0, hz0⟩ : ∃ z0, zs[0]? = some z0 := ⟨_, List.getElem?_eq_getElem (by omega)⟩
      refine ⟨.ref p, rfl, p, _, rfl, hp1, rfl, _, _, rfl, _, _, rfl, rfl, ?_⟩
      show bT _ _ _
      subst eT
      refine seq_abs fun bT eT => ?_
      refine ⟨.ref pa, rfl, (by show 1 ≤ sizeLine; decide), fun t1 ht1 => ?_⟩
      have e1 := same_upd (o := .tup [.int 0]) ht1
      refine cat_go (sqT_same e1 hA1) (.inl (.inl upd_same)) (by rw [List.length_map]; show _ + 1 ≤ 1000; omega) fun F1 a1 e2 c1 => ?_
      refine ⟨.ref pb, rfl, (by show 2 ≤ sizeLine; decide), fun u1 hu1 => ?_⟩
      have e3 := same_upd (o := .tup [.ref a1, .ref pb]) hu1
      have m3 := (e1.trans e2).trans e3
      refine ⟨.ref pa, rfl, .ref pb, rfl, (by show 1 ≤ sizeLine; decide), fun t2 ht2 => ⟨(by show 1 ≤ sizeLine; decide), fun t3 ht3 => ?_⟩⟩
      have e4 := same_upd (o := .tup [.non]) ht2
      have e5 := same_upd (o := .tup [.ref t2]) ht3
      have m5 := (m3.trans e4).trans e5
      refine cat_go (sqT_same m5 hB2) (.inl (.inl upd_same)) (by rw [List.length_map, hql]; show _ + 1 ≤ 1000; omega) fun F2 a2 e6 c2 => ?_
      refine ⟨(by show 2 ≤ sizeLine; decide), fun u2 hu2 => ?_⟩
      have e7 := same_upd (o := .tup [.ref pa, .ref a2]) hu2
      have m7 := (m5.trans e6).trans e7
      refine ⟨.ref pa, rfl, pa, _, 0, .int z0, rfl, rfl, sqT_same m7 hA1, atI_nat (j := 0) (by rw [List.getElem?_map, hz0]; rfl), z0, 2, rfl, rfl, ⟨by decide, by decide⟩, z0 / 2, 1, rfl, rfl, (by show 1 ≤ sizeLine; decide), fun t4 ht4 => ?_⟩
      have e8 := same_upd (o := .tup [.int (z0 / 2 + 1)]) ht4
      have m8 := m7.trans e8
      refine ⟨.ref pa, rfl, _, rfl, sl_go (sqT_same m8 hA1) fun F3 a3 e9 c3 => ?_⟩
      have ecut : cutV (zs.map V.int) (some 1) none = (zs.map V.int).drop 1 := cut_from (k := 1)
      rw [ecut] at c3
      refine cat_go (sqT_same e9 (.inl (.inl upd_same))) c3 (by rw [List.length_drop, List.length_map]; show 1 + _ ≤ 1000; omega) fun F4 a4 e10 c4 => ?_
      refine ⟨.ref pb, rfl, (by show 2 ≤ sizeLine; decide), fun u3 hu3 => ⟨(by show 3 ≤ sizeLine; decide), fun D hD => ?_⟩⟩
      have e11 := same_upd (o := .tup [.ref a4, .ref pb]) hu3
      have e12 := same_upd (o := .lst [.ref u1, .ref u2, .ref u3]) hD
      have m10 := (m8.trans e9).trans e10
      have m12 := (m10.trans e11).trans e12
      have q1 : PlanAt K (upd (upd F4 u3 (.tup [.ref a4, .ref pb])) D (.lst [.ref u1, .ref u2, .ref u3])) u1 (zs ++ [0]) rs := ⟨a1, pb, sqT_same ((((((((e4.trans e5).trans e6).trans e7).trans e8).trans e9).trans e10).trans e11).trans e12) (.inl (.inl upd_same)), by rw [List.map_append]; exact sqT_same (((((((((e3.trans e4).trans e5).trans e6).trans e7).trans e8).trans e9).trans e10).trans e11).trans e12) c1, hB1.same m12⟩
      have q2 : PlanAt K (upd (upd F4 u3 (.tup [.ref a4, .ref pb])) D (.lst [.ref u1, .ref u2, .ref u3])) u2 zs (rs ++ [[none]]) := ⟨pa, a2, sqT_same ((((e8.trans e9).trans e10).trans e11).trans e12) (.inl (.inl upd_same)), sqT_same m12 hA1, qs ++ [t2], by rw [List.map_append]; exact sqT_same (((((e7.trans e8).trans e9).trans e10).trans e11).trans e12) c2, paired_snoc (sqT_same (((((((e5.trans e6).trans e7).trans e8).trans e9).trans e10).trans e11).trans e12) (.inl (.inl upd_same))) (paired_same m12 hP)⟩
      have q3 : PlanAt K (upd (upd F4 u3 (.tup [.ref a4, .ref pb])) D (.lst [.ref u1, .ref u2, .ref u3])) u3 ((z0 / 2 + 1) :: zs.drop 1) rs := ⟨a4, pb, sqT_same e12 (.inl (.inl upd_same)), by rw [List.map_cons, List.map_drop]; exact sqT_same (e11.trans e12) c4, hB1.same m12⟩
      have kD : (upd (upd F4 u3 (.tup [.ref a4, .ref pb])) D (.lst [.ref u1, .ref u2, .ref u3])) D = some (.lst [.ref u1, .ref u2, .ref u3]) := upd_same
      have nD := ((BF.sm m10).sm e11).ls.law.nh hD
      have BG := BF.sm m12
      generalize upd (upd F4 u3 (.tup [.ref a4, .ref pb])) D (.lst [.ref u1, .ref u2, .ref u3]) = G1 at q1 q2 q3 kD BG m12 ⊢
      have hA2 := sqT_same m12 hA1
      have hB3 := sqT_same m12 hB2
      clear e1 e2 e3 e4 e5 e6 e7 e8 e9 e10 e11 e12 m3 m5 m7 m8 m10 m12 ht1 ht2 ht3 ht4 hu1 hu2 hu3 hD c1 c2 c3 c4 BF hp1 hA1 hB2 hB1 hP ecut
      refine ⟨.ref h, rfl, ?_⟩
      show qNext _ _ _ _
      refine go_next BG.ls.law (by decide) (by decide) fun wq G2 hw L2 x2' => ?_
      obtain ⟨u, zs3, rs3, hu, hPU, hv3⟩ : ∃ (u : Addr) (zs3 : List Int) (rs3 : List Ro), [V.ref u1, V.ref u2, V.ref u3][wq]? = some (.ref u) ∧ PlanAt K G1 u zs3 rs3 ∧ Val zs3 rs3 := by
        have : wq = 0 ∨ wq = 1 ∨ wq = 2 := by omega
        rcases this with rfl | rfl | rfl
        · exact ⟨u1, _, _, rfl, q1, val_more hv (by omega)⟩
        · exact ⟨u2, _, _, rfl, q2, val_idle hv (by omega)⟩
        · exact ⟨u3, _, _, rfl, q3, val_half hv hz0⟩
      refine ⟨D, _, _, .ref u, rfl, rfl, .inl (.inl (x2' _ _ nD.1 nD.2 kD)), atI_nat hu, ?_⟩
      have BH := BG.nx L2 x2'
      have hPU2 := plan_imp hPU fun _ _ => sqT_x BG.ls.law x2'
      have hA3 := sqT_x BG.ls.law x2' hA2
      have hB4 := sqT_x BG.ls.law x2' hB3
      clear q1 q2 q3 kD nD BG L2 x2' hPU hA2 hB3 hu hw
      show bT _ _ _
      subst eT
      refine seq_abs fun bT eT => ?_
      -- is it another plan
      obtain ⟨za, rb, hk1, hza, hrb⟩ := hPU2.ex
      obtain ⟨qs3, hrb2, hP3⟩ := hrb.ex
      have hql3 := paired_len hP3
      have z13 := hv3.z1
      have r13 := hv3.r1
      refine seq_ways2 (B := fun σ' H' => B15 K (lwT Pt) H' h l p o st zs rs rs2 t L ∧ ∃ y0 y1 y2 y4 y5 y6 y7 y8 y9 y10 y11 y12 y13 y14 y15 y16, y1 = some (.ref h) ∧ σ' = [y0, y1, y2, some (.ref p), y4, y5, y6, y7, y8, y9, y10, y11, y12, y13, y14, y15, y16]) (fun σ' H' ⟨BI, w0, w1, w2, w4, w5, w6, w7, w8, w9, w10, w11, w12, w13, w14, w15, w16, ew, es⟩ => ?_) (fun tail => ?_)
      · subst es
        subst ew
        clear BH hPU2 hA3 hB4 hk1 hza hrb hrb2 hP3
        subst eT
        refine seq_abs fun bT eT => ?_
        -- a wrong plan
        refine ⟨(by show 1 ≤ sizeLine; decide), fun t1 ht1 => ⟨(by show 1 ≤ sizeLine; decide), fun t2 ht2 => ⟨(by show 1 ≤ sizeLine; decide), fun t3 ht3 => ⟨(by show 2 ≤ sizeLine; decide), fun u9 hu9 => ?_⟩⟩⟩⟩
        have e1 := same_upd (o := .tup [.int 10]) ht1
        have e2 := same_upd (o := .tup [.int 0]) ht2
        have e3 := same_upd (o := .tup [.ref t2]) ht3
        have e4 := same_upd (o := .tup [.ref t1, .ref t3]) hu9
        have BJ := (((BI.sm e1).sm e2).sm e3).sm e4
        have q9 : PlanAt K (upd (upd (upd (upd H' t1 (.tup [.int 10])) t2 (.tup [.int 0])) t3 (.tup [.ref t2])) u9 (.tup [.ref t1, .ref t3])) u9 [10] [[some 0]] := ⟨t1, t3, .inl (.inl upd_same), sqT_same ((e2.trans e3).trans e4) (.inl (.inl upd_same)), [t2], sqT_same e4 (.inl (.inl upd_same)), .cons (sqT_same (e3.trans e4) (.inl (.inl upd_same))) .nil⟩
        generalize upd (upd (upd (upd H' t1 (.tup [.int 10])) t2 (.tup [.int 0])) t3 (.tup [.ref t2])) u9 (.tup [.ref t1, .ref t3]) = H9 at BJ q9 ⊢
        clear e1 e2 e3 e4 ht1 ht2 ht3 hu9 BI
        show bT _ _ _
        subst eT
        refine seq_abs fun bT eT => ?_
        refine ⟨BJ.ls.tabs, fun f0 Ha xa va ta nfa is0 => ⟨ta, fun f1 Hb xb vb tb nfb is1 => ⟨(by show 2 ≤ sizeLine; decide), fun W hW => ?_⟩⟩⟩
        have IA := ((BJ.en xa ta).en xb tb).sm (same_upd (o := .lst [.ref f0, .ref f1]) hW)
        have qA := plan_imp q9 fun _ _ z => sqT_same (same_upd (o := .lst [.ref f0, .ref f1]) hW) (sqT_ext (ExtL.n xb) (sqT_ext (ExtL.n xa) z))
        have WA : WL4 (cxOf CX0 P w K mg base nLaw "law" (defScope sLaw) f (.ref c) A outer s H E).nox 8 CS T.C C1 T.CC C3 C4 C5 C6 C7 T.CD C9 C10 C11 C12 C13 C14 (fun H' => B15 K (lwT Pt) H' h l p o st zs rs rs2 t L ∧ PlanAt K H' u9 [10] [[some 0]]) (SlL15 p u9) (upd Hb W (.lst [.ref f0, .ref f1])) W [f0, f1] [dueW, dueW] := ⟨upd_same, .cons (wkW1 (X := (cxOf CX0 P w K mg base nLaw "law" (defScope sLaw) f (.ref c) A outer s H E).nox) T AN hv (is0.ext (xb.trans (extN_same (same_upd hW))))) (.cons (wkW2 (X := (cxOf CX0 P w K mg base nLaw "law" (defScope sLaw) f (.ref c) A outer s H E).nox) T AN hv (is1.ext (extN_same (same_upd hW)))) .nil)⟩
        generalize upd Hb W (.lst [.ref f0, .ref f1]) = HA9 at IA qA WA ⊢
        clear xa va ta nfa is0 xb vb tb nfb is1 BJ q9 hW
        show bT _ _ _
        subst eT
        refine ⟨.ref W, rfl, W, rfl, ⟨_, .inl (.inl WA.at_)⟩, fun D hD => ?_⟩
        refine lc_errs4 (TT := lwT Pt) WA ⟨_, _, _, _, _, _, _, _, _, _, _, _, _, _, _, rfl⟩ IA.ls.tabs (fun H' e t => ⟨IA.en e t, plan_imp qA fun _ _ => sqT_ext (ExtL.n e)⟩) (by show 2 ≤ 900; decide) hD (fun v => ⟨rfl, rfl⟩) (fun HF eF tF ⟨ps, hd, hp⟩ => ?_)
        have IR := IA.en eF tF
        clear eF tF IA WA hD qA
        refine ⟨(by show 3 ≤ sizeLine; decide), fun t3 h3 => ⟨(by show 1 ≤ sizeLine; decide), fun a1 ha1 => ⟨a1, 2, _, rfl, rfl, upd_same, by decide, by decide, (by show 2 ≤ sizeLine; decide), fun a2 ha2 => ?_⟩⟩⟩
        have sB := ((same_upd h3 (o := .tup dueW)).trans (same_upd ha1 (o := .lst [.ref t3]))).trans (same_upd ha2 (o := .lst (List.replicate (2 : Int).toNat [V.ref t3]).flatten))
        have kt : (upd (upd (upd HF t3 (.tup dueW)) a1 (.lst [.ref t3])) a2 (.lst (List.replicate (2 : Int).toNat [V.ref t3]).flatten)) t3 = some (.tup dueW) := ((same_upd ha1).trans (same_upd ha2)) _ _ upd_same
        have dps : ∀ {Hx : Hp} {ps : List Addr}, TupsV Hx ps [dueW, dueW] → DpAll K Hx (ps.map V.ref) [dW, dW] := fun {Hx ps} z => by
          cases z with
          | cons z1 z => cases z with
            | cons z2 z => cases z; exact .cons (dp_W z1) (.cons (dp_W z2) .nil)
        have canp : PyData.canLay0 (.str ("plan" : Str)) = true := by decide +kernel
        have cans : PyData.canLay0 (.str ("sizes" : Str)) = true := by decide +kernel
        have pW : pld dW = true := by
          unfold dW pld pldAll pldAll pldAll pldAll pld
          rw [canp, cans]
          rfl
        show qNe K _ _ _ _
        refine ne_same (n := 2) (a := .list [dW, dW]) (.lst (.inl (.inl (sB _ _ hd))) (dps (tupsV_imp (fun _ _ => sB _ _) hp))) (.lst (.inl (.inl upd_same)) (dps (ps := [t3, t3]) (.cons kt (.cons kt .nil)))) (by unfold pld pldAll pldAll pldAll; rw [pW]; rfl) (okD_l (by show 2 ≤ 1000; decide) (okDs_2 (by rfl) (by rfl))) (by decide) ⟨false, rfl, ite_no rfl ?_⟩
        exact ⟨⟨_, _, _, _, _, _, _, _, _, _, _, _, _, _, _, _, rfl⟩, (IR.sm sB).ls⟩
      · have le12 : ∀ {A B : Prop}, A → (if decide (((zs3.length : Nat) : Int) ≤ 12) = true then A else B) := fun a => ite_yes (decide_eq_true (by omega)) a
        have no : ¬ (zs = zs3 ∧ rs.length = rs3.length) ∨ (zs3 = zs ∧ rs3.length = rs.length) := by
          by_cases e : zs = zs3 ∧ rs.length = rs3.length
          · exact .inr ⟨e.1.symm, e.2.symm⟩
          · exact .inl e
        refine ⟨.ref u, rfl, u, _, 0, .ref za, rfl, rfl, hk1, rfl, za, _, rfl, .inr hza, _, _, rfl, rfl, _, rfl, ?_⟩
        rw [List.length_map]
        refine le12 ⟨.ref u, rfl, u, _, 0, .ref za, rfl, rfl, hk1, rfl, .ref pa, rfl, ?_⟩
        show qNe K _ _ _ _
        refine neZ_go hza hA3 (by omega) (by omega) ⟨_, rfl, ?_⟩
        -- the call
        have can8 : PyData.canLay0 (.str ("sizes" : Str)) = true := by decide +kernel
        by_cases ez : zs3 = zs
        · refine ite_no (by rw [decide_eq_true ez]; rfl) ⟨.ref u, rfl, u, _, 1, .ref rb, rfl, rfl, hk1, rfl, rb, _, rfl, .inr hrb2, .ref pb, rfl, pb, _, rfl, .inr hB4, rfl, _, rfl, ?_⟩
          rw [List.length_map, List.length_map, hql3, hql, int_eqV]
          by_cases en : rs3.length = rs.length
          · refine ite_no (by rw [decide_eq_true (by omega)]; rfl) ?_
            exact tail _ _ ⟨BH, _, _, _, _, _, _, _, _, _, _, _, _, _, _, _, _, rfl, rfl⟩
          · refine ite_yes (by rw [decide_eq_false (by omega)]; rfl) ?_
            refine ⟨.ref u, rfl, u, _, 0, .ref za, rfl, rfl, hk1, rfl, za, _, rfl, .inr hza, _, _, rfl, rfl, _, rfl, ?_⟩
            rw [List.length_map]
            refine le12 ⟨BH.ls.tabs, fun HB g1 v1 t1' => ⟨u, p, rfl, go_fdS (BH.en g1 t1').p hv (plan_imp hPU2 fun _ _ => sqT_ext (ExtL.n g1)) hv3 (fun z => en z.2.symm) fun H9 sm9 => errE_of AN.sizes.ex (fun HE e sm10 hne hke => ?_) (by decide) (by decide)⟩⟩
            have BI := ((BH.en g1 t1').sm sm9).sm sm10
            refine ⟨(by show 1 ≤ sizeLine; decide), fun d hd => ne_nm ((same_upd hd) _ _ hke) upd_same can8 ⟨false, rfl, ite_no rfl ?_⟩⟩
            exact tail _ _ ⟨BI.sm (same_upd hd), _, _, _, _, _, _, _, _, _, _, _, _, _, _, _, _, rfl, rfl⟩
        · refine ite_yes (by rw [decide_eq_false ez]; rfl) ?_
          refine ⟨.ref u, rfl, u, _, 0, .ref za, rfl, rfl, hk1, rfl, za, _, rfl, .inr hza, _, _, rfl, rfl, _, rfl, ?_⟩
          rw [List.length_map]
          refine le12 ⟨BH.ls.tabs, fun HB g1 v1 t1' => ⟨u, p, rfl, go_fdS (BH.en g1 t1').p hv (plan_imp hPU2 fun _ _ => sqT_ext (ExtL.n g1)) hv3 (fun z => ez z.1.symm) fun H9 sm9 => errE_of AN.sizes.ex (fun HE e sm10 hne hke => ?_) (by decide) (by decide)⟩⟩
          have BI := ((BH.en g1 t1').sm sm9).sm sm10
          refine ⟨(by show 1 ≤ sizeLine; decide), fun d hd => ne_nm ((same_upd hd) _ _ hke) upd_same can8 ⟨false, rfl, ite_no rfl ?_⟩⟩
          exact tail _ _ ⟨BI.sm (same_upd hd), _, _, _, _, _, _, _, _, _, _, _, _, _, _, _, _, rfl, rfl⟩
    · have eff : ∀ k : Nat, (∀ j : Nat, j < k → o1 rs.length zs rs (t + (j : Nat)) = o1 rs.length zs rs2 (t + (j : Nat))) → effT rs.length zs rs t (k : Nat) = effT rs2.length zs rs2 t (k : Nat) := fun k hk => by
        rw [hl2]
        exact eff_same hv.rne hv2.rne L1 L2' k hk
      have el : ∀ k : Nat, (iN (effT rs.length zs rs t (k : Nat))).length ≤ 1000 := fun k => by
        unfold iN
        rw [List.length_map, effT_len]
        omega
      cases a with
      | none =>
        refine ⟨oV none, rfl, rfl, _, rfl, ite_yes (decide_eq_true rfl) ?_⟩
        refine ⟨.ref h, rfl, 10, 18, rfl, rfl, ⟨by decide, by decide, by decide⟩, ?_⟩
        show qNext [.ref h, .int ((10 : Int) ^ (18 : Int).toNat)] _ _ _
        rw [show (10 : Int) ^ (18 : Int).toNat = 1000000000000000000 by decide]
        refine go_next BE.ls.law (by decide) (by decide) fun wf G6 hwf L6 x6' => ?_
        have BG := BE.nx L6 x6'
        have hst6 := sqT_x BE.ls.law x6' hst
        refine ⟨.ref p, rfl, .ref st, rfl, st, _, 0, .int t, rfl, rfl, hst6, rfl, .int (wf : Nat), rfl, ?_⟩
        show qEffOf K _ _ _ _ _ _
        refine go_effOf BG.p hv ⟨by omega, by omega⟩ fun G7 u sm7 ku => ?_
        have BH := BG.sm sm7
        refine ⟨.ref o, rfl, .ref st, rfl, st, _, 0, .int t, rfl, rfl, sqT_same sm7 hst6, rfl, .int (wf : Nat), rfl, ?_⟩
        show qEffOf K _ _ _ _ _ _
        refine go_effOf BH.o hv2 ⟨by omega, by omega⟩ fun G8 u2 sm8 ku2 => ?_
        rw [← eff wf fun j _ => hb j] at ku2
        refine neT_go (sqT_same sm8 ku) ku2 (el wf) ⟨false, rfl, ite_no rfl ?_⟩
        exact tail _ _ ⟨BH.sm sm8, _, rfl⟩
      | some m =>
        have em : ((m : Nat) : Int) - 1 = ((m - 1 : Nat) : Int) := by have := hb.1; omega
        refine ⟨oV (some m), rfl, rfl, _, rfl, ite_no (decide_eq_false fun z => nomatch z) ?_⟩
        refine ⟨.ref p, rfl, .ref st, rfl, st, _, 0, .int t, rfl, rfl, hst, rfl, oV (some m), rfl, ((m : Nat) : Int), 1, rfl, rfl, ?_⟩
        show qEffOf K _ _ [.ref p, .int t, .int (((m : Nat) : Int) - 1)] _ _ _
        rw [em]
        have m60 := hb.2.1
        refine go_effOf BE.p hv ⟨by omega, by omega⟩ fun G7 u sm7 ku => ?_
        have BH := BE.sm sm7
        refine ⟨.ref o, rfl, .ref st, rfl, st, _, 0, .int t, rfl, rfl, sqT_same sm7 hst, rfl, oV (some m), rfl, ((m : Nat) : Int), 1, rfl, rfl, ?_⟩
        show qEffOf K _ _ [.ref o, .int t, .int (((m : Nat) : Int) - 1)] _ _ _
        rw [em]
        refine go_effOf BH.o hv2 ⟨by omega, by omega⟩ fun G8 u2 sm8 ku2 => ?_
        rw [← eff (m - 1) fun j hj => hb.2.2.2 j hj] at ku2
        refine neT_go (sqT_same sm8 ku) ku2 (el (m - 1)) ⟨false, rfl, ite_no rfl ?_⟩
        exact tail _ _ ⟨BH.sm sm8, _, rfl⟩
end
end Sv
set_option maxHeartbeats 8000000
namespace Sv
open PySem PySem.Spec PyProof.Rows L2 LamX NdefX
theorem walk_ofTsX {l : PySem.W.OpenLaw} {n k : Nat} {q : Program} {loose : List Str} {XP : (Str → Option Value) → Heap → Prop} {YP : World → Heap → Prop} {d : DefRec} {K : Params → PySem.W.Frag} {CX : World → CXT} {x : Str}
    (hn : l.most = some n) (hn2 : n ≤ sizeLine) (hdf : d.params.defaults = []) (hr : Room k callerA) (hY : ∀ (w : World) (h : Heap), YP w h → (K w.params).In h)
    (F : ∀ (w : World) (mg : Str → Option Value) (fa : Addr) (h : Heap), XP mg h → YP w h → (K w.params).In h → h.Ns mainGlobals mg → mg d.name = some (.ref fa) → LawAtS l w (K w.params) (CX w) k n x mg fa h)
    (hCX : ∀ (w : World) (H : Hp) (s : Shared) (e : Value) (s' : Shared), CX w [] H s (fun _ _ _ => False) e s' → False) :
    PySem.W.WalkO q loose XP YP l.row.toRowW d [] (fun f vs => PySem.call f vs) := by
  refine Att.attach_callB hn hdf fun w s₀ s₁ mg mb fa o pm cd doc a vs ns G Y ho hd hcd hmg hobj hints hlen hbits hg => ?_
  have KX := hY w _ Y
  obtain ⟨fd, cs, sp, hT, nT, C, hb, hsp, hF⟩ := F w mg fa _ G.X Y KX G.T.g hmg
  exact law_callTs KX G.T.g G.T.b G.T.builtins G.T.nolimit hg hT nT C G.T.bmain hobj hints (Nat.le_trans hlen hn2) hr hF hb (fun H hH hS => hsp H a ns hlen hbits hH hS) fun H e s' => hCX w H s₁ e s'
theorem be_of {l : List V} {j : Nat} (h : (l.take j).all (fun z => !eqV z (.bl true)) = true) : ∀ (m : Nat) (z : V), m < j → l[m]? = some z → eqV z (.bl true) = false := fun m z hm hz => by
  have q := List.all_eq_true.mp h z (List.mem_of_getElem? (i := m) (by rw [List.getElem?_take, if_pos hm]; exact hz))
  simpa using q
section
variable {K : PySem.W.Frag} {h : Heap} {mg : Str → Option Value}
theorem df_mk {x : Str} {st : Stmt} {f : Addr} {oc : Value} {od an : Option Addr} {osl : Array (Option Value)} {kV doc pm cdv ct : Value} {ps : List Str} (X : K.In h) (G : h.Ns mainGlobals mg) (a : PySem.W.nsIn K mainGlobals x = some (some (.ref f)))
    (l : K.lookup f = some ⟨oc, od, .func (PySem.W.fnOf x x (defArgs st) (defBody st) (defScope st) .none kV doc pm an cdv ct), osl⟩) (c : PySem.W.codeIn K cdv x = true) (k : PySem.W.keepIn K (.ref f) = true)
    (b : ∀ (kV doc pm : Value) (an : Option Addr) (cdv ct : Value) (us : List Value), us.length = ps.length → bindArgs (PySem.W.fnOf x x (defArgs st) (defBody st) (defScope st) .none kV doc pm an cdv ct) ⟨us, []⟩ = pure (ps.zip us)) :
    Df K mg x st ps f (PySem.W.fnOf x x (defArgs st) (defBody st) (defScope st) .none kV doc pm an cdv ct) := ⟨fun_mk l c k, (fun_mk l c k).binds b, PySem.W.mg_of X G a⟩
/-- all that is asked of one of the classes that the law names -/
structure ErF (K : PySem.W.Frag) (CS C0 C1 C2 C3 C4 C5 C6 C7 C8 C9 C10 C11 C12 C13 C14 D : Addr) (b0 b1 b2 b3 b4 b5 b6 b7 b8 b9 b10 b11 b12 b13 b14 : Bool) : Prop where
  exc : ExcC K D
  ex : PySem.W.exmOne K (.ref D) (.ref CS) = some true
  ve : PySem.W.kitOne K (.ref D) (.type "ValueError") = some true
  k0 : PySem.W.kitOne K (.ref D) (.ref C0) = some b0
  k1 : PySem.W.kitOne K (.ref D) (.ref C1) = some b1
  k2 : PySem.W.kitOne K (.ref D) (.ref C2) = some b2
  k3 : PySem.W.kitOne K (.ref D) (.ref C3) = some b3
  k4 : PySem.W.kitOne K (.ref D) (.ref C4) = some b4
  k5 : PySem.W.kitOne K (.ref D) (.ref C5) = some b5
  k6 : PySem.W.kitOne K (.ref D) (.ref C6) = some b6
  k7 : PySem.W.kitOne K (.ref D) (.ref C7) = some b7
  k8 : PySem.W.kitOne K (.ref D) (.ref C8) = some b8
  k9 : PySem.W.kitOne K (.ref D) (.ref C9) = some b9
  k10 : PySem.W.kitOne K (.ref D) (.ref C10) = some b10
  k11 : PySem.W.kitOne K (.ref D) (.ref C11) = some b11
  k12 : PySem.W.kitOne K (.ref D) (.ref C12) = some b12
  k13 : PySem.W.kitOne K (.ref D) (.ref C13) = some b13
  k14 : PySem.W.kitOne K (.ref D) (.ref C14) = some b14
theorem era_plan {CS C0 C1 C2 C3 C4 C5 C6 C7 C8 C9 C10 C11 C12 C13 C14 : Addr} (F : ErF K CS C0 C1 C2 C3 C4 C5 C6 C7 C8 C9 C10 C11 C12 C13 C14 C0 true false false false false false false false false false false false false false false) : ErA K CS C0 C1 C2 C3 C4 C5 C6 C7 C8 C9 C10 C11 C12 C13 C14 C0 "plan" :=
  ⟨_, _, _, _, _, _, _, _, _, _, _, _, _, _, _, 0, ⟨F.exc, F.ex, F.ve, F.k0, F.k1, F.k2, F.k3, F.k4, F.k5, F.k6, F.k7, F.k8, F.k9, F.k10, F.k11, F.k12, F.k13, F.k14, rfl, rfl, be_of rfl, rfl⟩⟩
theorem era_sizes {CS C0 C1 C2 C3 C4 C5 C6 C7 C8 C9 C10 C11 C12 C13 C14 : Addr} (F : ErF K CS C0 C1 C2 C3 C4 C5 C6 C7 C8 C9 C10 C11 C12 C13 C14 C8 false false false false false false false false true false false false false false false) : ErA K CS C0 C1 C2 C3 C4 C5 C6 C7 C8 C9 C10 C11 C12 C13 C14 C8 "sizes" :=
  ⟨_, _, _, _, _, _, _, _, _, _, _, _, _, _, _, 8, ⟨F.exc, F.ex, F.ve, F.k0, F.k1, F.k2, F.k3, F.k4, F.k5, F.k6, F.k7, F.k8, F.k9, F.k10, F.k11, F.k12, F.k13, F.k14, rfl, rfl, be_of rfl, rfl⟩⟩
theorem all_mk {P : Program} {w : World} {fa : Addr} {fWithin : Addr} {ocWithin kVWithin dcWithin pmWithin cdWithin ctWithin : Value} {odWithin anWithin : Option Addr} {slWithin : Array (Option Value)}
    {fCheckCount : Addr} {ocCheckCount kVCheckCount dcCheckCount pmCheckCount cdCheckCount ctCheckCount : Value} {odCheckCount anCheckCount : Option Addr} {slCheckCount : Array (Option Value)}
    {fCheckBetween : Addr} {ocCheckBetween kVCheckBetween dcCheckBetween pmCheckBetween cdCheckBetween ctCheckBetween : Value} {odCheckBetween anCheckBetween : Option Addr} {slCheckBetween : Array (Option Value)}
    {fCheckPlan : Addr} {ocCheckPlan kVCheckPlan dcCheckPlan pmCheckPlan cdCheckPlan ctCheckPlan : Value} {odCheckPlan anCheckPlan : Option Addr} {slCheckPlan : Array (Option Value)}
    {fCheckSizes : Addr} {ocCheckSizes kVCheckSizes dcCheckSizes pmCheckSizes cdCheckSizes ctCheckSizes : Value} {odCheckSizes anCheckSizes : Option Addr} {slCheckSizes : Array (Option Value)}
    {fCheckRoutes : Addr} {ocCheckRoutes kVCheckRoutes dcCheckRoutes pmCheckRoutes cdCheckRoutes ctCheckRoutes : Value} {odCheckRoutes anCheckRoutes : Option Addr} {slCheckRoutes : Array (Option Value)}
    {fIsRoute : Addr} {ocIsRoute kVIsRoute dcIsRoute pmIsRoute cdIsRoute ctIsRoute : Value} {odIsRoute anIsRoute : Option Addr} {slIsRoute : Array (Option Value)}
    {fNumPlaces : Addr} {ocNumPlaces kVNumPlaces dcNumPlaces pmNumPlaces cdNumPlaces ctNumPlaces : Value} {odNumPlaces anNumPlaces : Option Addr} {slNumPlaces : Array (Option Value)}
    {fVisitsIn : Addr} {ocVisitsIn kVVisitsIn dcVisitsIn pmVisitsIn cdVisitsIn ctVisitsIn : Value} {odVisitsIn anVisitsIn : Option Addr} {slVisitsIn : Array (Option Value)}
    {fCommon : Addr} {ocCommon kVCommon dcCommon pmCommon cdCommon ctCommon : Value} {odCommon anCommon : Option Addr} {slCommon : Array (Option Value)}
    {fRoutePat : Addr} {ocRoutePat kVRoutePat dcRoutePat pmRoutePat cdRoutePat ctRoutePat : Value} {odRoutePat anRoutePat : Option Addr} {slRoutePat : Array (Option Value)}
    {fJoin : Addr} {ocJoin kVJoin dcJoin pmJoin cdJoin ctJoin : Value} {odJoin anJoin : Option Addr} {slJoin : Array (Option Value)}
    {fSplit : Addr} {ocSplit kVSplit dcSplit pmSplit cdSplit ctSplit : Value} {odSplit anSplit : Option Addr} {slSplit : Array (Option Value)}
    {fAfterTick : Addr} {ocAfterTick kVAfterTick dcAfterTick pmAfterTick cdAfterTick ctAfterTick : Value} {odAfterTick anAfterTick : Option Addr} {slAfterTick : Array (Option Value)}
    {fOrigins : Addr} {ocOrigins kVOrigins dcOrigins pmOrigins cdOrigins ctOrigins : Value} {odOrigins anOrigins : Option Addr} {slOrigins : Array (Option Value)}
    {fEffectOf : Addr} {ocEffectOf kVEffectOf dcEffectOf pmEffectOf cdEffectOf ctEffectOf : Value} {odEffectOf anEffectOf : Option Addr} {slEffectOf : Array (Option Value)}
    {fEffectTicks : Addr} {ocEffectTicks kVEffectTicks dcEffectTicks pmEffectTicks cdEffectTicks ctEffectTicks : Value} {odEffectTicks anEffectTicks : Option Addr} {slEffectTicks : Array (Option Value)}
    {fRepeated : Addr} {ocRepeated kVRepeated dcRepeated pmRepeated cdRepeated ctRepeated : Value} {odRepeated anRepeated : Option Addr} {slRepeated : Array (Option Value)}
    {fCyclesOf : Addr} {ocCyclesOf kVCyclesOf dcCyclesOf pmCyclesOf cdCyclesOf ctCyclesOf : Value} {odCyclesOf anCyclesOf : Option Addr} {slCyclesOf : Array (Option Value)}
    {fCycleFrom : Addr} {ocCycleFrom kVCycleFrom dcCycleFrom pmCycleFrom cdCycleFrom ctCycleFrom : Value} {odCycleFrom anCycleFrom : Option Addr} {slCycleFrom : Array (Option Value)}
    {fFirstDiff : Addr} {ocFirstDiff kVFirstDiff dcFirstDiff pmFirstDiff cdFirstDiff ctFirstDiff : Value} {odFirstDiff anFirstDiff : Option Addr} {slFirstDiff : Array (Option Value)}
    {fLMix : Addr} {ocLMix kVLMix dcLMix pmLMix cdLMix ctLMix : Value} {odLMix anLMix : Option Addr} {slLMix : Array (Option Value)}
    {fLNext : Addr} {ocLNext kVLNext dcLNext pmLNext cdLNext ctLNext : Value} {odLNext anLNext : Option Addr} {slLNext : Array (Option Value)}
    {fLAlike : Addr} {ocLAlike kVLAlike dcLAlike pmLAlike cdLAlike ctLAlike : Value} {odLAlike anLAlike : Option Addr} {slLAlike : Array (Option Value)}
    {fLError : Addr} {ocLError kVLError dcLError pmLError cdLError ctLError : Value} {odLError anLError : Option Addr} {slLError : Array (Option Value)}
    {fLPlan : Addr} {ocLPlan kVLPlan dcLPlan pmLPlan cdLPlan ctLPlan : Value} {odLPlan anLPlan : Option Addr} {slLPlan : Array (Option Value)}
    {fLState : Addr} {ocLState kVLState dcLState pmLState cdLState ctLState : Value} {odLState anLState : Option Addr} {slLState : Array (Option Value)}
    {fLStep : Addr} {ocLStep kVLStep dcLStep pmLStep cdLStep ctLStep : Value} {odLStep anLStep : Option Addr} {slLStep : Array (Option Value)}
    {fLBegun : Addr} {ocLBegun kVLBegun dcLBegun pmLBegun cdLBegun ctLBegun : Value} {odLBegun anLBegun : Option Addr} {slLBegun : Array (Option Value)}
    {fLSeen : Addr} {ocLSeen kVLSeen dcLSeen pmLSeen cdLSeen ctLSeen : Value} {odLSeen anLSeen : Option Addr} {slLSeen : Array (Option Value)}
    {fLOther : Addr} {ocLOther kVLOther dcLOther pmLOther cdLOther ctLOther : Value} {odLOther anLOther : Option Addr} {slLOther : Array (Option Value)}
    {fLLateRight : Addr} {ocLLateRight kVLLateRight dcLLateRight pmLLateRight cdLLateRight ctLLateRight : Value} {odLLateRight anLLateRight : Option Addr} {slLLateRight : Array (Option Value)}
    {fLaw : Addr} {ocLaw kVLaw dcLaw pmLaw cdLaw ctLaw : Value} {odLaw anLaw : Option Addr} {slLaw : Array (Option Value)}
    {tm1 : Tok}
    {tm2 : Tok}
    {tm3 : Tok}
    {tm4 : Tok}
    {CS C0 C1 C2 C3 C4 C5 C6 C7 C8 C9 C10 C11 C12 C13 C14 : Addr}
    {CL fL : Addr} {odL anL : Option Addr} {slL : Array (Option Value)} {ocL kVL dcL pmL cdL ctL : Value}
    {pnm pq : Str} {pN : Addr} {pbs pbm : List Value} {psn : List Str} {psub : List Value} {pab : Bool} {pcol : Option Bool} {pdd : Option Addr} {pk0 pk1 pk2 pk3 pk5 : Option Value}
    {fI cc c0 : Addr} {ocI docI pmI ctI : Value} {odI : Option Addr} {slI : Array (Option Value)}
    {ccl : Value} {ccd : Option Addr} {ccs : Array (Option Value)}
    {kcl : Value} {kcd : Option Addr} {kvs : Array Value} {kcs : Array (Option Value)} {kfl : Str} {ktf : Tok}
    {c Pt : Addr} (X : K.In h) (G : h.Ns mainGlobals mg) (hfa : mg "law" = some (.ref fa)) (hPt : h.get? Pt = some { cls := .none, data := .fields #[] }) (hlim : ∃ t, mg "COUNT_LIMIT" = some (.int 1000000000000000000 t))
    (aWithin : PySem.W.nsIn K mainGlobals "is_within" = some (some (.ref fWithin)))
    (lWithin : K.lookup fWithin = some ⟨ocWithin, odWithin, .func (PySem.W.fnOf "is_within" "is_within" (defArgs sWithin) (defBody sWithin) (defScope sWithin) .none kVWithin dcWithin pmWithin anWithin cdWithin ctWithin), slWithin⟩)
    (cWithin : PySem.W.codeIn K cdWithin "is_within" = true)
    (kWithin : PySem.W.keepIn K (.ref fWithin) = true)
    (aCheckCount : PySem.W.nsIn K mainGlobals "check_count" = some (some (.ref fCheckCount)))
    (lCheckCount : K.lookup fCheckCount = some ⟨ocCheckCount, odCheckCount, .func (PySem.W.fnOf "check_count" "check_count" (defArgs sCheckCount) (defBody sCheckCount) (defScope sCheckCount) .none kVCheckCount dcCheckCount pmCheckCount anCheckCount cdCheckCount ctCheckCount), slCheckCount⟩)
    (cCheckCount : PySem.W.codeIn K cdCheckCount "check_count" = true)
    (kCheckCount : PySem.W.keepIn K (.ref fCheckCount) = true)
    (aCheckBetween : PySem.W.nsIn K mainGlobals "check_between" = some (some (.ref fCheckBetween)))
    (lCheckBetween : K.lookup fCheckBetween = some ⟨ocCheckBetween, odCheckBetween, .func (PySem.W.fnOf "check_between" "check_between" (defArgs sCheckBetween) (defBody sCheckBetween) (defScope sCheckBetween) .none kVCheckBetween dcCheckBetween pmCheckBetween anCheckBetween cdCheckBetween ctCheckBetween), slCheckBetween⟩)
    (cCheckBetween : PySem.W.codeIn K cdCheckBetween "check_between" = true)
    (kCheckBetween : PySem.W.keepIn K (.ref fCheckBetween) = true)
    (aCheckPlan : PySem.W.nsIn K mainGlobals "check_plan" = some (some (.ref fCheckPlan)))
    (lCheckPlan : K.lookup fCheckPlan = some ⟨ocCheckPlan, odCheckPlan, .func (PySem.W.fnOf "check_plan" "check_plan" (defArgs sCheckPlan) (defBody sCheckPlan) (defScope sCheckPlan) .none kVCheckPlan dcCheckPlan pmCheckPlan anCheckPlan cdCheckPlan ctCheckPlan), slCheckPlan⟩)
    (cCheckPlan : PySem.W.codeIn K cdCheckPlan "check_plan" = true)
    (kCheckPlan : PySem.W.keepIn K (.ref fCheckPlan) = true)
    (aCheckSizes : PySem.W.nsIn K mainGlobals "check_sizes" = some (some (.ref fCheckSizes)))
    (lCheckSizes : K.lookup fCheckSizes = some ⟨ocCheckSizes, odCheckSizes, .func (PySem.W.fnOf "check_sizes" "check_sizes" (defArgs sCheckSizes) (defBody sCheckSizes) (defScope sCheckSizes) .none kVCheckSizes dcCheckSizes pmCheckSizes anCheckSizes cdCheckSizes ctCheckSizes), slCheckSizes⟩)
    (cCheckSizes : PySem.W.codeIn K cdCheckSizes "check_sizes" = true)
    (kCheckSizes : PySem.W.keepIn K (.ref fCheckSizes) = true)
    (aCheckRoutes : PySem.W.nsIn K mainGlobals "check_routes" = some (some (.ref fCheckRoutes)))
    (lCheckRoutes : K.lookup fCheckRoutes = some ⟨ocCheckRoutes, odCheckRoutes, .func (PySem.W.fnOf "check_routes" "check_routes" (defArgs sCheckRoutes) (defBody sCheckRoutes) (defScope sCheckRoutes) .none kVCheckRoutes dcCheckRoutes pmCheckRoutes anCheckRoutes cdCheckRoutes ctCheckRoutes), slCheckRoutes⟩)
    (cCheckRoutes : PySem.W.codeIn K cdCheckRoutes "check_routes" = true)
    (kCheckRoutes : PySem.W.keepIn K (.ref fCheckRoutes) = true)
    (aIsRoute : PySem.W.nsIn K mainGlobals "is_route" = some (some (.ref fIsRoute)))
    (lIsRoute : K.lookup fIsRoute = some ⟨ocIsRoute, odIsRoute, .func (PySem.W.fnOf "is_route" "is_route" (defArgs sIsRoute) (defBody sIsRoute) (defScope sIsRoute) .none kVIsRoute dcIsRoute pmIsRoute anIsRoute cdIsRoute ctIsRoute), slIsRoute⟩)
    (cIsRoute : PySem.W.codeIn K cdIsRoute "is_route" = true)
    (kIsRoute : PySem.W.keepIn K (.ref fIsRoute) = true)
    (aNumPlaces : PySem.W.nsIn K mainGlobals "number_of_places" = some (some (.ref fNumPlaces)))
    (lNumPlaces : K.lookup fNumPlaces = some ⟨ocNumPlaces, odNumPlaces, .func (PySem.W.fnOf "number_of_places" "number_of_places" (defArgs sNumPlaces) (defBody sNumPlaces) (defScope sNumPlaces) .none kVNumPlaces dcNumPlaces pmNumPlaces anNumPlaces cdNumPlaces ctNumPlaces), slNumPlaces⟩)
    (cNumPlaces : PySem.W.codeIn K cdNumPlaces "number_of_places" = true)
    (kNumPlaces : PySem.W.keepIn K (.ref fNumPlaces) = true)
    (aVisitsIn : PySem.W.nsIn K mainGlobals "visits_in_tick" = some (some (.ref fVisitsIn)))
    (lVisitsIn : K.lookup fVisitsIn = some ⟨ocVisitsIn, odVisitsIn, .func (PySem.W.fnOf "visits_in_tick" "visits_in_tick" (defArgs sVisitsIn) (defBody sVisitsIn) (defScope sVisitsIn) .none kVVisitsIn dcVisitsIn pmVisitsIn anVisitsIn cdVisitsIn ctVisitsIn), slVisitsIn⟩)
    (cVisitsIn : PySem.W.codeIn K cdVisitsIn "visits_in_tick" = true)
    (kVisitsIn : PySem.W.keepIn K (.ref fVisitsIn) = true)
    (aCommon : PySem.W.nsIn K mainGlobals "common_pattern" = some (some (.ref fCommon)))
    (lCommon : K.lookup fCommon = some ⟨ocCommon, odCommon, .func (PySem.W.fnOf "common_pattern" "common_pattern" (defArgs sCommon) (defBody sCommon) (defScope sCommon) .none kVCommon dcCommon pmCommon anCommon cdCommon ctCommon), slCommon⟩)
    (cCommon : PySem.W.codeIn K cdCommon "common_pattern" = true)
    (kCommon : PySem.W.keepIn K (.ref fCommon) = true)
    (aRoutePat : PySem.W.nsIn K mainGlobals "route_pattern" = some (some (.ref fRoutePat)))
    (lRoutePat : K.lookup fRoutePat = some ⟨ocRoutePat, odRoutePat, .func (PySem.W.fnOf "route_pattern" "route_pattern" (defArgs sRoutePat) (defBody sRoutePat) (defScope sRoutePat) .none kVRoutePat dcRoutePat pmRoutePat anRoutePat cdRoutePat ctRoutePat), slRoutePat⟩)
    (cRoutePat : PySem.W.codeIn K cdRoutePat "route_pattern" = true)
    (kRoutePat : PySem.W.keepIn K (.ref fRoutePat) = true)
    (aJoin : PySem.W.nsIn K mainGlobals "join_layout" = some (some (.ref fJoin)))
    (lJoin : K.lookup fJoin = some ⟨ocJoin, odJoin, .func (PySem.W.fnOf "join_layout" "join_layout" (defArgs sJoin) (defBody sJoin) (defScope sJoin) .none kVJoin dcJoin pmJoin anJoin cdJoin ctJoin), slJoin⟩)
    (cJoin : PySem.W.codeIn K cdJoin "join_layout" = true)
    (kJoin : PySem.W.keepIn K (.ref fJoin) = true)
    (aSplit : PySem.W.nsIn K mainGlobals "split_layout" = some (some (.ref fSplit)))
    (lSplit : K.lookup fSplit = some ⟨ocSplit, odSplit, .func (PySem.W.fnOf "split_layout" "split_layout" (defArgs sSplit) (defBody sSplit) (defScope sSplit) .none kVSplit dcSplit pmSplit anSplit cdSplit ctSplit), slSplit⟩)
    (cSplit : PySem.W.codeIn K cdSplit "split_layout" = true)
    (kSplit : PySem.W.keepIn K (.ref fSplit) = true)
    (aAfterTick : PySem.W.nsIn K mainGlobals "after_tick" = some (some (.ref fAfterTick)))
    (lAfterTick : K.lookup fAfterTick = some ⟨ocAfterTick, odAfterTick, .func (PySem.W.fnOf "after_tick" "after_tick" (defArgs sAfterTick) (defBody sAfterTick) (defScope sAfterTick) .none kVAfterTick dcAfterTick pmAfterTick anAfterTick cdAfterTick ctAfterTick), slAfterTick⟩)
    (cAfterTick : PySem.W.codeIn K cdAfterTick "after_tick" = true)
    (kAfterTick : PySem.W.keepIn K (.ref fAfterTick) = true)
    (aOrigins : PySem.W.nsIn K mainGlobals "origins_after_tick" = some (some (.ref fOrigins)))
    (lOrigins : K.lookup fOrigins = some ⟨ocOrigins, odOrigins, .func (PySem.W.fnOf "origins_after_tick" "origins_after_tick" (defArgs sOrigins) (defBody sOrigins) (defScope sOrigins) .none kVOrigins dcOrigins pmOrigins anOrigins cdOrigins ctOrigins), slOrigins⟩)
    (cOrigins : PySem.W.codeIn K cdOrigins "origins_after_tick" = true)
    (kOrigins : PySem.W.keepIn K (.ref fOrigins) = true)
    (aEffectOf : PySem.W.nsIn K mainGlobals "effect_of" = some (some (.ref fEffectOf)))
    (lEffectOf : K.lookup fEffectOf = some ⟨ocEffectOf, odEffectOf, .func (PySem.W.fnOf "effect_of" "effect_of" (defArgs sEffectOf) (defBody sEffectOf) (defScope sEffectOf) .none kVEffectOf dcEffectOf pmEffectOf anEffectOf cdEffectOf ctEffectOf), slEffectOf⟩)
    (cEffectOf : PySem.W.codeIn K cdEffectOf "effect_of" = true)
    (kEffectOf : PySem.W.keepIn K (.ref fEffectOf) = true)
    (aEffectTicks : PySem.W.nsIn K mainGlobals "effect_of_ticks" = some (some (.ref fEffectTicks)))
    (lEffectTicks : K.lookup fEffectTicks = some ⟨ocEffectTicks, odEffectTicks, .func (PySem.W.fnOf "effect_of_ticks" "effect_of_ticks" (defArgs sEffectTicks) (defBody sEffectTicks) (defScope sEffectTicks) .none kVEffectTicks dcEffectTicks pmEffectTicks anEffectTicks cdEffectTicks ctEffectTicks), slEffectTicks⟩)
    (cEffectTicks : PySem.W.codeIn K cdEffectTicks "effect_of_ticks" = true)
    (kEffectTicks : PySem.W.keepIn K (.ref fEffectTicks) = true)
    (aRepeated : PySem.W.nsIn K mainGlobals "repeated" = some (some (.ref fRepeated)))
    (lRepeated : K.lookup fRepeated = some ⟨ocRepeated, odRepeated, .func (PySem.W.fnOf "repeated" "repeated" (defArgs sRepeated) (defBody sRepeated) (defScope sRepeated) .none kVRepeated dcRepeated pmRepeated anRepeated cdRepeated ctRepeated), slRepeated⟩)
    (cRepeated : PySem.W.codeIn K cdRepeated "repeated" = true)
    (kRepeated : PySem.W.keepIn K (.ref fRepeated) = true)
    (aCyclesOf : PySem.W.nsIn K mainGlobals "cycles_of" = some (some (.ref fCyclesOf)))
    (lCyclesOf : K.lookup fCyclesOf = some ⟨ocCyclesOf, odCyclesOf, .func (PySem.W.fnOf "cycles_of" "cycles_of" (defArgs sCyclesOf) (defBody sCyclesOf) (defScope sCyclesOf) .none kVCyclesOf dcCyclesOf pmCyclesOf anCyclesOf cdCyclesOf ctCyclesOf), slCyclesOf⟩)
    (cCyclesOf : PySem.W.codeIn K cdCyclesOf "cycles_of" = true)
    (kCyclesOf : PySem.W.keepIn K (.ref fCyclesOf) = true)
    (aCycleFrom : PySem.W.nsIn K mainGlobals "cycle_from" = some (some (.ref fCycleFrom)))
    (lCycleFrom : K.lookup fCycleFrom = some ⟨ocCycleFrom, odCycleFrom, .func (PySem.W.fnOf "cycle_from" "cycle_from" (defArgs sCycleFrom) (defBody sCycleFrom) (defScope sCycleFrom) .none kVCycleFrom dcCycleFrom pmCycleFrom anCycleFrom cdCycleFrom ctCycleFrom), slCycleFrom⟩)
    (cCycleFrom : PySem.W.codeIn K cdCycleFrom "cycle_from" = true)
    (kCycleFrom : PySem.W.keepIn K (.ref fCycleFrom) = true)
    (aFirstDiff : PySem.W.nsIn K mainGlobals "first_difference" = some (some (.ref fFirstDiff)))
    (lFirstDiff : K.lookup fFirstDiff = some ⟨ocFirstDiff, odFirstDiff, .func (PySem.W.fnOf "first_difference" "first_difference" (defArgs sFirstDiff) (defBody sFirstDiff) (defScope sFirstDiff) .none kVFirstDiff dcFirstDiff pmFirstDiff anFirstDiff cdFirstDiff ctFirstDiff), slFirstDiff⟩)
    (cFirstDiff : PySem.W.codeIn K cdFirstDiff "first_difference" = true)
    (kFirstDiff : PySem.W.keepIn K (.ref fFirstDiff) = true)
    (aLMix : PySem.W.nsIn K mainGlobals "_law_mix" = some (some (.ref fLMix)))
    (lLMix : K.lookup fLMix = some ⟨ocLMix, odLMix, .func (PySem.W.fnOf "_law_mix" "_law_mix" (defArgs sMix) (defBody sMix) (defScope sMix) .none kVLMix dcLMix pmLMix anLMix cdLMix ctLMix), slLMix⟩)
    (cLMix : PySem.W.codeIn K cdLMix "_law_mix" = true)
    (kLMix : PySem.W.keepIn K (.ref fLMix) = true)
    (aLNext : PySem.W.nsIn K mainGlobals "_law_next" = some (some (.ref fLNext)))
    (lLNext : K.lookup fLNext = some ⟨ocLNext, odLNext, .func (PySem.W.fnOf "_law_next" "_law_next" (defArgs sNext) (defBody sNext) (defScope sNext) .none kVLNext dcLNext pmLNext anLNext cdLNext ctLNext), slLNext⟩)
    (cLNext : PySem.W.codeIn K cdLNext "_law_next" = true)
    (kLNext : PySem.W.keepIn K (.ref fLNext) = true)
    (aLAlike : PySem.W.nsIn K mainGlobals "_law_alike" = some (some (.ref fLAlike)))
    (lLAlike : K.lookup fLAlike = some ⟨ocLAlike, odLAlike, .func (PySem.W.fnOf "_law_alike" "_law_alike" (defArgs sAlike) (defBody sAlike) (defScope sAlike) .none kVLAlike dcLAlike pmLAlike anLAlike cdLAlike ctLAlike), slLAlike⟩)
    (cLAlike : PySem.W.codeIn K cdLAlike "_law_alike" = true)
    (kLAlike : PySem.W.keepIn K (.ref fLAlike) = true)
    (aLError : PySem.W.nsIn K mainGlobals "_law_error" = some (some (.ref fLError)))
    (lLError : K.lookup fLError = some ⟨ocLError, odLError, .func (PySem.W.fnOf "_law_error" "_law_error" (defArgs sError) (defBody sError) (defScope sError) .none kVLError dcLError pmLError anLError cdLError ctLError), slLError⟩)
    (cLError : PySem.W.codeIn K cdLError "_law_error" = true)
    (kLError : PySem.W.keepIn K (.ref fLError) = true)
    (aLPlan : PySem.W.nsIn K mainGlobals "_law_plan" = some (some (.ref fLPlan)))
    (lLPlan : K.lookup fLPlan = some ⟨ocLPlan, odLPlan, .func (PySem.W.fnOf "_law_plan" "_law_plan" (defArgs sPlan) (defBody sPlan) (defScope sPlan) .none kVLPlan dcLPlan pmLPlan anLPlan cdLPlan ctLPlan), slLPlan⟩)
    (cLPlan : PySem.W.codeIn K cdLPlan "_law_plan" = true)
    (kLPlan : PySem.W.keepIn K (.ref fLPlan) = true)
    (aLState : PySem.W.nsIn K mainGlobals "_law_state" = some (some (.ref fLState)))
    (lLState : K.lookup fLState = some ⟨ocLState, odLState, .func (PySem.W.fnOf "_law_state" "_law_state" (defArgs sState) (defBody sState) (defScope sState) .none kVLState dcLState pmLState anLState cdLState ctLState), slLState⟩)
    (cLState : PySem.W.codeIn K cdLState "_law_state" = true)
    (kLState : PySem.W.keepIn K (.ref fLState) = true)
    (aLStep : PySem.W.nsIn K mainGlobals "_law_step" = some (some (.ref fLStep)))
    (lLStep : K.lookup fLStep = some ⟨ocLStep, odLStep, .func (PySem.W.fnOf "_law_step" "_law_step" (defArgs sStep) (defBody sStep) (defScope sStep) .none kVLStep dcLStep pmLStep anLStep cdLStep ctLStep), slLStep⟩)
    (cLStep : PySem.W.codeIn K cdLStep "_law_step" = true)
    (kLStep : PySem.W.keepIn K (.ref fLStep) = true)
    (aLBegun : PySem.W.nsIn K mainGlobals "_law_begun" = some (some (.ref fLBegun)))
    (lLBegun : K.lookup fLBegun = some ⟨ocLBegun, odLBegun, .func (PySem.W.fnOf "_law_begun" "_law_begun" (defArgs sBegun) (defBody sBegun) (defScope sBegun) .none kVLBegun dcLBegun pmLBegun anLBegun cdLBegun ctLBegun), slLBegun⟩)
    (cLBegun : PySem.W.codeIn K cdLBegun "_law_begun" = true)
    (kLBegun : PySem.W.keepIn K (.ref fLBegun) = true)
    (aLSeen : PySem.W.nsIn K mainGlobals "_law_seen" = some (some (.ref fLSeen)))
    (lLSeen : K.lookup fLSeen = some ⟨ocLSeen, odLSeen, .func (PySem.W.fnOf "_law_seen" "_law_seen" (defArgs sSeen) (defBody sSeen) (defScope sSeen) .none kVLSeen dcLSeen pmLSeen anLSeen cdLSeen ctLSeen), slLSeen⟩)
    (cLSeen : PySem.W.codeIn K cdLSeen "_law_seen" = true)
    (kLSeen : PySem.W.keepIn K (.ref fLSeen) = true)
    (aLOther : PySem.W.nsIn K mainGlobals "_law_other" = some (some (.ref fLOther)))
    (lLOther : K.lookup fLOther = some ⟨ocLOther, odLOther, .func (PySem.W.fnOf "_law_other" "_law_other" (defArgs sOther) (defBody sOther) (defScope sOther) .none kVLOther dcLOther pmLOther anLOther cdLOther ctLOther), slLOther⟩)
    (cLOther : PySem.W.codeIn K cdLOther "_law_other" = true)
    (kLOther : PySem.W.keepIn K (.ref fLOther) = true)
    (aLLateRight : PySem.W.nsIn K mainGlobals "_law_late_right" = some (some (.ref fLLateRight)))
    (lLLateRight : K.lookup fLLateRight = some ⟨ocLLateRight, odLLateRight, .func (PySem.W.fnOf "_law_late_right" "_law_late_right" (defArgs sLateRight) (defBody sLateRight) (defScope sLateRight) .none kVLLateRight dcLLateRight pmLLateRight anLLateRight cdLLateRight ctLLateRight), slLLateRight⟩)
    (cLLateRight : PySem.W.codeIn K cdLLateRight "_law_late_right" = true)
    (kLLateRight : PySem.W.keepIn K (.ref fLLateRight) = true)
    (aLaw : PySem.W.nsIn K mainGlobals "law" = some (some (.ref fLaw)))
    (lLaw : K.lookup fLaw = some ⟨ocLaw, odLaw, .func (PySem.W.fnOf "law" "law" (defArgs sLaw) (defBody sLaw) (defScope sLaw) .none kVLaw dcLaw pmLaw anLaw cdLaw ctLaw), slLaw⟩)
    (cLaw : PySem.W.codeIn K cdLaw "law" = true)
    (kLaw : PySem.W.keepIn K (.ref fLaw) = true)
    (n_isinstance : PySem.W.nsIn K mainGlobals "isinstance" = some none)
    (n_bool : PySem.W.nsIn K mainGlobals "bool" = some none)
    (n_int : PySem.W.nsIn K mainGlobals "int" = some none)
    (n_str : PySem.W.nsIn K mainGlobals "str" = some none)
    (n_list : PySem.W.nsIn K mainGlobals "list" = some none)
    (n_tuple : PySem.W.nsIn K mainGlobals "tuple" = some none)
    (n_dict : PySem.W.nsIn K mainGlobals "dict" = some none)
    (n_len : PySem.W.nsIn K mainGlobals "len" = some none)
    (n_range : PySem.W.nsIn K mainGlobals "range" = some none)
    (n_enumerate : PySem.W.nsIn K mainGlobals "enumerate" = some none)
    (n_max : PySem.W.nsIn K mainGlobals "max" = some none)
    (n_sum : PySem.W.nsIn K mainGlobals "sum" = some none)
    (n_set : PySem.W.nsIn K mainGlobals "set" = some none)
    (n_zip : PySem.W.nsIn K mainGlobals "zip" = some none)
    (n_divmod : PySem.W.nsIn K mainGlobals "divmod" = some none)
    (n_sorted : PySem.W.nsIn K mainGlobals "sorted" = some none)
    (n_abs : PySem.W.nsIn K mainGlobals "abs" = some none)
    (n_min : PySem.W.nsIn K mainGlobals "min" = some none)
    (n_super : PySem.W.nsIn K mainGlobals "super" = some none)
    (n_ValueError : PySem.W.nsIn K mainGlobals "ValueError" = some none)
    (n_lcm : PySem.W.nsIn K mainGlobals "lcm" = some (some (.builtin "math.lcm")))
    (m1 : PySem.W.nsIn K mainGlobals "MOST_SHELVES" = some (some (.int 12 tm1)))
    (m2 : PySem.W.nsIn K mainGlobals "MOST_ON_SHELF" = some (some (.int 9 tm2)))
    (m3 : PySem.W.nsIn K mainGlobals "MOST_CARRIERS" = some (some (.int 6 tm3)))
    (m4 : PySem.W.nsIn K mainGlobals "MOST_ENTRIES" = some (some (.int 6 tm4)))
    (eS : PySem.W.nsIn K mainGlobals "ShelfError" = some (some (.ref CS)))
    (e0 : PySem.W.nsIn K mainGlobals "InvalidPlan" = some (some (.ref C0)))
    (e1 : PySem.W.nsIn K mainGlobals "InvalidState" = some (some (.ref C1)))
    (e2 : PySem.W.nsIn K mainGlobals "InvalidCount" = some (some (.ref C2)))
    (e3 : PySem.W.nsIn K mainGlobals "UnknownPlace" = some (some (.ref C3)))
    (e4 : PySem.W.nsIn K mainGlobals "UnknownParcel" = some (some (.ref C4)))
    (e5 : PySem.W.nsIn K mainGlobals "UnknownShelf" = some (some (.ref C5)))
    (e6 : PySem.W.nsIn K mainGlobals "UnknownCarrier" = some (some (.ref C6)))
    (e7 : PySem.W.nsIn K mainGlobals "InvalidEffect" = some (some (.ref C7)))
    (e8 : PySem.W.nsIn K mainGlobals "DifferentSizes" = some (some (.ref C8)))
    (e9 : PySem.W.nsIn K mainGlobals "InvalidParcels" = some (some (.ref C9)))
    (e10 : PySem.W.nsIn K mainGlobals "Contradiction" = some (some (.ref C10)))
    (e11 : PySem.W.nsIn K mainGlobals "InvalidArrangement" = some (some (.ref C11)))
    (e12 : PySem.W.nsIn K mainGlobals "ShelfFull" = some (some (.ref C12)))
    (e13 : PySem.W.nsIn K mainGlobals "ParcelCarried" = some (some (.ref C13)))
    (e14 : PySem.W.nsIn K mainGlobals "InvalidSwap" = some (some (.ref C14)))
    (xk0 : PySem.W.keepIn K (.ref C0) = true)
    (xb0 : PySem.W.subIn K (.ref C0) (.type "BaseException") = some true)
    (xt0 : PySem.W.typeIn K (.ref C0) = some (.type "type"))
    (yg0 : PySem.W.findIn K (.ref C0) "__getattribute__" = some (some (.builtin "BaseException.__getattribute__")))
    (yk0 : PySem.W.findIn K (.ref C0) "__getattr__" = some none)
    (yd0 : PySem.W.hasDictIn K C0 = true)
    (ya0 : PySem.W.findIn K (.ref C0) "__class__" = some (some (.builtin "object.__class__")))
    (ym0 : PySem.W.mroIn K C0 (.type "object") = some true)
    (ze0 : PySem.W.exmOne K (.ref C0) (.ref CS) = some true)
    (zv0 : PySem.W.kitOne K (.ref C0) (.type "ValueError") = some true)
    (z0_0 : PySem.W.kitOne K (.ref C0) (.ref C0) = some true)
    (z0_1 : PySem.W.kitOne K (.ref C0) (.ref C1) = some false)
    (z0_2 : PySem.W.kitOne K (.ref C0) (.ref C2) = some false)
    (z0_3 : PySem.W.kitOne K (.ref C0) (.ref C3) = some false)
    (z0_4 : PySem.W.kitOne K (.ref C0) (.ref C4) = some false)
    (z0_5 : PySem.W.kitOne K (.ref C0) (.ref C5) = some false)
    (z0_6 : PySem.W.kitOne K (.ref C0) (.ref C6) = some false)
    (z0_7 : PySem.W.kitOne K (.ref C0) (.ref C7) = some false)
    (z0_8 : PySem.W.kitOne K (.ref C0) (.ref C8) = some false)
    (z0_9 : PySem.W.kitOne K (.ref C0) (.ref C9) = some false)
    (z0_10 : PySem.W.kitOne K (.ref C0) (.ref C10) = some false)
    (z0_11 : PySem.W.kitOne K (.ref C0) (.ref C11) = some false)
    (z0_12 : PySem.W.kitOne K (.ref C0) (.ref C12) = some false)
    (z0_13 : PySem.W.kitOne K (.ref C0) (.ref C13) = some false)
    (z0_14 : PySem.W.kitOne K (.ref C0) (.ref C14) = some false)
    (x1 : PySem.W.excIn K C1 [.type "ValueError", .type "Exception", .type "BaseException", .type "object"] "ValueError.__new__" = true)
    (xk1 : PySem.W.keepIn K (.ref C1) = true)
    (xb1 : PySem.W.subIn K (.ref C1) (.type "BaseException") = some true)
    (xt1 : PySem.W.typeIn K (.ref C1) = some (.type "type"))
    (x2 : PySem.W.excIn K C2 [.type "ValueError", .type "Exception", .type "BaseException", .type "object"] "ValueError.__new__" = true)
    (xk2 : PySem.W.keepIn K (.ref C2) = true)
    (xb2 : PySem.W.subIn K (.ref C2) (.type "BaseException") = some true)
    (xt2 : PySem.W.typeIn K (.ref C2) = some (.type "type"))
    (x3 : PySem.W.excIn K C3 [.type "ValueError", .type "Exception", .type "BaseException", .type "object"] "ValueError.__new__" = true)
    (xk3 : PySem.W.keepIn K (.ref C3) = true)
    (xb3 : PySem.W.subIn K (.ref C3) (.type "BaseException") = some true)
    (xt3 : PySem.W.typeIn K (.ref C3) = some (.type "type"))
    (x4 : PySem.W.excIn K C4 [.type "ValueError", .type "Exception", .type "BaseException", .type "object"] "ValueError.__new__" = true)
    (xk4 : PySem.W.keepIn K (.ref C4) = true)
    (xb4 : PySem.W.subIn K (.ref C4) (.type "BaseException") = some true)
    (xt4 : PySem.W.typeIn K (.ref C4) = some (.type "type"))
    (x5 : PySem.W.excIn K C5 [.type "ValueError", .type "Exception", .type "BaseException", .type "object"] "ValueError.__new__" = true)
    (xk5 : PySem.W.keepIn K (.ref C5) = true)
    (xb5 : PySem.W.subIn K (.ref C5) (.type "BaseException") = some true)
    (xt5 : PySem.W.typeIn K (.ref C5) = some (.type "type"))
    (x6 : PySem.W.excIn K C6 [.type "ValueError", .type "Exception", .type "BaseException", .type "object"] "ValueError.__new__" = true)
    (xk6 : PySem.W.keepIn K (.ref C6) = true)
    (xb6 : PySem.W.subIn K (.ref C6) (.type "BaseException") = some true)
    (xt6 : PySem.W.typeIn K (.ref C6) = some (.type "type"))
    (x7 : PySem.W.excIn K C7 [.type "ValueError", .type "Exception", .type "BaseException", .type "object"] "ValueError.__new__" = true)
    (xk7 : PySem.W.keepIn K (.ref C7) = true)
    (xb7 : PySem.W.subIn K (.ref C7) (.type "BaseException") = some true)
    (xt7 : PySem.W.typeIn K (.ref C7) = some (.type "type"))
    (x8 : PySem.W.excIn K C8 [.type "ValueError", .type "Exception", .type "BaseException", .type "object"] "ValueError.__new__" = true)
    (xk8 : PySem.W.keepIn K (.ref C8) = true)
    (xb8 : PySem.W.subIn K (.ref C8) (.type "BaseException") = some true)
    (xt8 : PySem.W.typeIn K (.ref C8) = some (.type "type"))
    (yg8 : PySem.W.findIn K (.ref C8) "__getattribute__" = some (some (.builtin "BaseException.__getattribute__")))
    (yk8 : PySem.W.findIn K (.ref C8) "__getattr__" = some none)
    (yd8 : PySem.W.hasDictIn K C8 = true)
    (ya8 : PySem.W.findIn K (.ref C8) "__class__" = some (some (.builtin "object.__class__")))
    (ym8 : PySem.W.mroIn K C8 (.type "object") = some true)
    (ze8 : PySem.W.exmOne K (.ref C8) (.ref CS) = some true)
    (zv8 : PySem.W.kitOne K (.ref C8) (.type "ValueError") = some true)
    (z8_0 : PySem.W.kitOne K (.ref C8) (.ref C0) = some false)
    (z8_1 : PySem.W.kitOne K (.ref C8) (.ref C1) = some false)
    (z8_2 : PySem.W.kitOne K (.ref C8) (.ref C2) = some false)
    (z8_3 : PySem.W.kitOne K (.ref C8) (.ref C3) = some false)
    (z8_4 : PySem.W.kitOne K (.ref C8) (.ref C4) = some false)
    (z8_5 : PySem.W.kitOne K (.ref C8) (.ref C5) = some false)
    (z8_6 : PySem.W.kitOne K (.ref C8) (.ref C6) = some false)
    (z8_7 : PySem.W.kitOne K (.ref C8) (.ref C7) = some false)
    (z8_8 : PySem.W.kitOne K (.ref C8) (.ref C8) = some true)
    (z8_9 : PySem.W.kitOne K (.ref C8) (.ref C9) = some false)
    (z8_10 : PySem.W.kitOne K (.ref C8) (.ref C10) = some false)
    (z8_11 : PySem.W.kitOne K (.ref C8) (.ref C11) = some false)
    (z8_12 : PySem.W.kitOne K (.ref C8) (.ref C12) = some false)
    (z8_13 : PySem.W.kitOne K (.ref C8) (.ref C13) = some false)
    (z8_14 : PySem.W.kitOne K (.ref C8) (.ref C14) = some false)
    (x9 : PySem.W.excIn K C9 [.type "ValueError", .type "Exception", .type "BaseException", .type "object"] "ValueError.__new__" = true)
    (xk9 : PySem.W.keepIn K (.ref C9) = true)
    (xb9 : PySem.W.subIn K (.ref C9) (.type "BaseException") = some true)
    (xt9 : PySem.W.typeIn K (.ref C9) = some (.type "type"))
    (x10 : PySem.W.excIn K C10 [.type "ValueError", .type "Exception", .type "BaseException", .type "object"] "ValueError.__new__" = true)
    (xk10 : PySem.W.keepIn K (.ref C10) = true)
    (xb10 : PySem.W.subIn K (.ref C10) (.type "BaseException") = some true)
    (xt10 : PySem.W.typeIn K (.ref C10) = some (.type "type"))
    (x11 : PySem.W.excIn K C11 [.type "ValueError", .type "Exception", .type "BaseException", .type "object"] "ValueError.__new__" = true)
    (xk11 : PySem.W.keepIn K (.ref C11) = true)
    (xb11 : PySem.W.subIn K (.ref C11) (.type "BaseException") = some true)
    (xt11 : PySem.W.typeIn K (.ref C11) = some (.type "type"))
    (x12 : PySem.W.excIn K C12 [.type "ValueError", .type "Exception", .type "BaseException", .type "object"] "ValueError.__new__" = true)
    (xk12 : PySem.W.keepIn K (.ref C12) = true)
    (xb12 : PySem.W.subIn K (.ref C12) (.type "BaseException") = some true)
    (xt12 : PySem.W.typeIn K (.ref C12) = some (.type "type"))
    (x13 : PySem.W.excIn K C13 [.type "ValueError", .type "Exception", .type "BaseException", .type "object"] "ValueError.__new__" = true)
    (xk13 : PySem.W.keepIn K (.ref C13) = true)
    (xb13 : PySem.W.subIn K (.ref C13) (.type "BaseException") = some true)
    (xt13 : PySem.W.typeIn K (.ref C13) = some (.type "type"))
    (y_n : PySem.W.specialIn K (.builtin "object.__class__") "__get__" = some (some (.builtin "getset_descriptor.__get__")))
    (y_t : PySem.W.takesIn K (.builtin "object.__class__") = some true)
    (qC : PySem.W.nsIn K mainGlobals "Lap" = some (some (.ref CL)))
    (q1 : PySem.W.findIn K (.ref CL) "__init__" = some (some (.ref fL)))
    (q2 : PySem.W.isFn K (.ref fL) = true)
    (q3 : K.lookup fL = some ⟨ocL, odL, .func (PySem.W.fnOf "__init__" "Lap.__init__" (defArgs sLapInit) (defBody sLapInit) (defScope sLapInit) .none kVL dcL pmL anL cdL ctL), slL⟩)
    (q4 : PySem.W.codeIn K cdL "Lap.__init__" = true)
    (q5 : PySem.W.keepIn K (.ref fL) = true)
    (q6 : PySem.W.plainGet K CL Str.empty = true)
    (q7 : PySem.W.hasDictIn K CL = true)
    (q8 : PySem.W.plainOver K CL = true)
    (q9 : PySem.W.findIn K (.ref CL) "__setattr__" = some (some (.builtin "object.__setattr__")))
    (q10 : PySem.W.makesIn K CL = true)
    (q11 : PySem.W.keepIn K (.ref CL) = true)
    (q12 : PySem.W.findIn K (.ref CL) "length" = some none)
    (q13 : PySem.W.findIn K (.ref CL) "stops" = some none)
    (q14 : PySem.W.findIn K (.ref CL) "lefts" = some none)
    (q15 : PySem.W.findIn K (.ref CL) "effect" = some none)
    (pC : K.lookup C0 = some (excClassObj pnm pq C0 pN pbs pbm true psn psub pab pcol pdd pk0 pk1 pk2 pk3 pk5 "ValueError.__new__"))
    (pR : PySem.HandSPX.refsVE pbm = true)
    (pSa : PySem.W.findIn K (.ref C0) "__setattr__" = some (some (.builtin "object.__setattr__")))
    (pN1 : PySem.W.findIn K (.ref C0) "part" = some none)
    (pN2 : PySem.W.findIn K (.ref C0) "index" = some none)
    (iC : PySem.W.findIn K (.ref C0) "__init__" = some (some (.ref fI)))
    (tI : PySem.W.typeIn K (.ref fI) = some (.type "function"))
    (lI : K.lookup fI = some ⟨ocI, odI, .func ((nfPlan cc c0).fd docI pmI ctI), slI⟩)
    (pCell : K.lookup cc = some ⟨ccl, ccd, .cell (some (.ref C0)), ccs⟩)
    (pCode : PySem.W.codeIn K (.ref c0) "InvalidPlan.__init__" = true)
    (pKo : K.lookup c0 = some ⟨kcl, kcd, .fields kvs, kcs⟩)
    (pKf : kvs[2]? = some (.str kfl ktf))
    (pKm : ((P.main.file : Str) == kfl) = true)
    (pTop : (P.main.scope.names.lookup ("super" : Str)).isSome = false)
    (pHs : PySem.W.ks_superIn K C0 C0 "__init__" = some (some (.builtin "ValueError.__init__")))
    (pHo : PySem.W.nsIn K PySem.cStatics "thirdparty.any" = some none)
    (pHB : PySem.W.subIn K (.ref C0) (.type "ValueError") = some true)
    (pHm : PySem.W.mroIn K C0 (.ref C0) = some true)
    (hcode : cdLaw = .ref c)
    (htab : PySem.W.codeHdIn K c Pt = true)
    (hnone : K.lookup Pt = none)
    : ∃ (fd : FuncData) (cs : List (Addr × Addr)) (sp : Sp), (∀ p ∈ cs, h.get? p.2 = some { cls := .none, data := .fields #[] }) ∧ (∀ p ∈ cs, K.lookup p.2 = none) ∧ (∀ p ∈ cs, PySem.W.CodeHd h p.1 p.2) ∧ (∀ (s : Shared) (u : Value), BindsTo s fd ⟨[u], []⟩ [("_law_script", u)]) ∧
    (∀ (H : Hp) (a : Addr) (ns : List Int), ns.length ≤ 63 → (∀ z ∈ ns, Builtin.Int.intBits z ≤ 1048576) → (∀ p ∈ cs, H p.2 = some (.tbl #[])) → SqL K H a (ns.map V.int) → sp [.ref a] H (fun v _ => v = .bl true) fun _ _ _ => False) ∧
    ∀ base : Heap, K.In base → base.Ns mainGlobals mg → (∀ p ∈ cs, TabB base mg p.1 p.2) → FnOk P w K mg base CX0 14 fa fd ["_law_script"] sp := by
  have e := hfa.symm.trans (PySem.W.mg_of X G aLaw)
  cases e
  subst hcode
  have DWithin := df_mk (ps := ["number", "low", "high"]) X G aWithin lWithin cWithin kWithin fun _ _ _ _ _ _ us hl => match us, hl with | [_, _, _], _ => rfl
  have DCheckCount := df_mk (ps := ["count"]) X G aCheckCount lCheckCount cCheckCount kCheckCount fun _ _ _ _ _ _ us hl => match us, hl with | [_], _ => rfl
  have DCheckBetween := df_mk (ps := ["number", "low", "high"]) X G aCheckBetween lCheckBetween cCheckBetween kCheckBetween fun _ _ _ _ _ _ us hl => match us, hl with | [_, _, _], _ => rfl
  have DCheckPlan := df_mk (ps := ["plan"]) X G aCheckPlan lCheckPlan cCheckPlan kCheckPlan fun _ _ _ _ _ _ us hl => match us, hl with | [_], _ => rfl
  have DCheckSizes := df_mk (ps := ["sizes"]) X G aCheckSizes lCheckSizes cCheckSizes kCheckSizes fun _ _ _ _ _ _ us hl => match us, hl with | [_], _ => rfl
  have DCheckRoutes := df_mk (ps := ["routes", "shelves"]) X G aCheckRoutes lCheckRoutes cCheckRoutes kCheckRoutes fun _ _ _ _ _ _ us hl => match us, hl with | [_, _], _ => rfl
  have DIsRoute := df_mk (ps := ["route", "shelves"]) X G aIsRoute lIsRoute cIsRoute kIsRoute fun _ _ _ _ _ _ us hl => match us, hl with | [_, _], _ => rfl
  have DNumPlaces := df_mk (ps := ["plan"]) X G aNumPlaces lNumPlaces cNumPlaces kNumPlaces fun _ _ _ _ _ _ us hl => match us, hl with | [_], _ => rfl
  have DVisitsIn := df_mk (ps := ["routes", "number"]) X G aVisitsIn lVisitsIn cVisitsIn kVisitsIn fun _ _ _ _ _ _ us hl => match us, hl with | [_, _], _ => rfl
  have DCommon := df_mk (ps := ["routes"]) X G aCommon lCommon cCommon kCommon fun _ _ _ _ _ _ us hl => match us, hl with | [_], _ => rfl
  have DRoutePat := df_mk (ps := ["route"]) X G aRoutePat lRoutePat cRoutePat kRoutePat fun _ _ _ _ _ _ us hl => match us, hl with | [_], _ => rfl
  have DJoin := df_mk (ps := ["carried", "shelves"]) X G aJoin lJoin cJoin kJoin fun _ _ _ _ _ _ us hl => match us, hl with | [_, _], _ => rfl
  have DSplit := df_mk (ps := ["plan", "contents"]) X G aSplit lSplit cSplit kSplit fun _ _ _ _ _ _ us hl => match us, hl with | [_, _], _ => rfl
  have DAfterTick := df_mk (ps := ["plan", "number", "carried", "shelves"]) X G aAfterTick lAfterTick cAfterTick kAfterTick fun _ _ _ _ _ _ us hl => match us, hl with | [_, _, _, _], _ => rfl
  have DOrigins := df_mk (ps := ["plan", "number"]) X G aOrigins lOrigins cOrigins kOrigins fun _ _ _ _ _ _ us hl => match us, hl with | [_, _], _ => rfl
  have DEffectOf := df_mk (ps := ["plan", "time", "count"]) X G aEffectOf lEffectOf cEffectOf kEffectOf fun _ _ _ _ _ _ us hl => match us, hl with | [_, _, _], _ => rfl
  have DEffectTicks := df_mk (ps := ["plan", "time", "count"]) X G aEffectTicks lEffectTicks cEffectTicks kEffectTicks fun _ _ _ _ _ _ us hl => match us, hl with | [_, _, _], _ => rfl
  have DRepeated := df_mk (ps := ["effect", "count"]) X G aRepeated lRepeated cRepeated kRepeated fun _ _ _ _ _ _ us hl => match us, hl with | [_, _], _ => rfl
  have DCyclesOf := df_mk (ps := ["effect"]) X G aCyclesOf lCyclesOf cCyclesOf kCyclesOf fun _ _ _ _ _ _ us hl => match us, hl with | [_], _ => rfl
  have DCycleFrom := df_mk (ps := ["effect", "start"]) X G aCycleFrom lCycleFrom cCycleFrom kCycleFrom fun _ _ _ _ _ _ us hl => match us, hl with | [_, _], _ => rfl
  have DFirstDiff := df_mk (ps := ["plan", "other", "time"]) X G aFirstDiff lFirstDiff cFirstDiff kFirstDiff fun _ _ _ _ _ _ us hl => match us, hl with | [_, _, _], _ => rfl
  have DLMix := df_mk (ps := ["_law_script", "_law_seed"]) X G aLMix lLMix cLMix kLMix fun _ _ _ _ _ _ us hl => match us, hl with | [_, _], _ => rfl
  have DLNext := df_mk (ps := ["_law_h", "_law_limit"]) X G aLNext lLNext cLNext kLNext fun _ _ _ _ _ _ us hl => match us, hl with | [_, _], _ => rfl
  have DLAlike := df_mk (ps := ["_law_found", "_law_due"]) X G aLAlike lLAlike cLAlike kLAlike fun _ _ _ _ _ _ us hl => match us, hl with | [_, _], _ => rfl
  have DLError := df_mk (ps := ["_law_call"]) X G aLError lLError cLError kLError fun _ _ _ _ _ _ us hl => match us, hl with | [_], _ => rfl
  have DLPlan := df_mk (ps := ["_law_h", "_law_shelves", "_law_carriers"]) X G aLPlan lLPlan cLPlan kLPlan fun _ _ _ _ _ _ us hl => match us, hl with | [_, _, _], _ => rfl
  have DLState := df_mk (ps := ["_law_h", "_law_plan_here"]) X G aLState lLState cLState kLState fun _ _ _ _ _ _ us hl => match us, hl with | [_, _], _ => rfl
  have DLStep := df_mk (ps := ["_law_plan_here", "_law_w"]) X G aLStep lLStep cLStep kLStep fun _ _ _ _ _ _ us hl => match us, hl with | [_, _], _ => rfl
  have DLBegun := df_mk (ps := ["_law_state_here"]) X G aLBegun lLBegun cLBegun kLBegun fun _ _ _ _ _ _ us hl => match us, hl with | [_], _ => rfl
  have DLSeen := df_mk (ps := ["_law_w"]) X G aLSeen lLSeen cLSeen kLSeen fun _ _ _ _ _ _ us hl => match us, hl with | [_], _ => rfl
  have DLOther := df_mk (ps := ["_law_h", "_law_plan_here"]) X G aLOther lLOther cLOther kLOther fun _ _ _ _ _ _ us hl => match us, hl with | [_, _], _ => rfl
  have DLLateRight := df_mk (ps := ["_law_h"]) X G aLLateRight lLLateRight cLLateRight kLLateRight fun _ _ _ _ _ _ us hl => match us, hl with | [_], _ => rfl
  have DLaw := df_mk (ps := ["_law_script"]) X G aLaw lLaw cLaw kLaw fun _ _ _ _ _ _ us hl => match us, hl with | [_], _ => rfl
  have B : Bt mg := ⟨PySem.W.mg_none_of X G n_isinstance, PySem.W.mg_none_of X G n_bool, PySem.W.mg_none_of X G n_int, PySem.W.mg_none_of X G n_str, PySem.W.mg_none_of X G n_list, PySem.W.mg_none_of X G n_tuple, PySem.W.mg_none_of X G n_dict, PySem.W.mg_none_of X G n_len, PySem.W.mg_none_of X G n_range, PySem.W.mg_none_of X G n_enumerate, PySem.W.mg_none_of X G n_max, PySem.W.mg_none_of X G n_sum, PySem.W.mg_none_of X G n_set, PySem.W.mg_none_of X G n_zip, PySem.W.mg_none_of X G n_divmod, PySem.W.mg_none_of X G n_sorted, PySem.W.mg_none_of X G n_abs, PySem.W.mg_none_of X G n_min⟩
  have OX : OexC K C0 := ⟨⟨pnm, pq, pN, pbs, pbm, psn, psub, pab, pcol, pdd, pk0, pk1, pk2, pk3, pk5, pC, pR⟩, pSa, xb0, xt0, xk0⟩
  have XF : XfC K C0 := ⟨yg0, yk0, xb0, yd0⟩
  have SF : SupF P K mg C0 fI cc (nfPlan cc c0) arPlan := ⟨OX, rfl, ⟨_, _, _, pCell⟩, pCode, ⟨_, _, _, _, _, _, pKo, pKf, pKm⟩, pTop, PySem.W.mg_none_of X G n_super, rfl, rfl, rfl, pHs, pHo, pHB, pHm⟩
  have PL : Pl P K mg C0 fI ((nfPlan cc c0).fd docI pmI ctI) := ⟨⟨cc, c0, _, _, _, _, _, _, rfl, SF, lI⟩, pN1, pN2, PySem.W.mg_of X G e0, iC, tI, .all fun us hl => match us, hl with | [_, _, _], _ => rfl, XF⟩
  have FLp := fun_mk (st := sLapInit) q3 q4 q5
  have LPF : LapF K mg CL fL _ := ⟨PySem.W.mg_of X G qC, ⟨q10, q1, q2, q11⟩, ⟨q6, q7, q8, q9⟩, q12, q13, q14, q15, FLp, FLp.binds (ps := ["self", "plan", "time"]) fun _ _ _ _ _ _ us hl => match us, hl with | [_, _, _], _ => rfl⟩
  let T : Bd P K mg := { bt := B, CLap := CL, aLap := fL, dLap := _, lap := LPF, lcm := PySem.W.mg_of X G n_lcm, C := C0, aInit := fI, dInit := _, pl := PL, m1 := ⟨_, PySem.W.mg_of X G m1⟩, m2 := ⟨_, PySem.W.mg_of X G m2⟩, m3 := ⟨_, PySem.W.mg_of X G m3⟩, m4 := ⟨_, PySem.W.mg_of X G m4⟩, lim := hlim, CE := C7, ce := ⟨PySem.W.mg_of X G e7, x7, xk7, xb7, xt7⟩, CC := C2, cc := ⟨PySem.W.mg_of X G e2, x2, xk2, xb2, xt2⟩, CD := C8, cd := ⟨PySem.W.mg_of X G e8, x8, xk8, xb8, xt8⟩, CS := C1, cs := ⟨PySem.W.mg_of X G e1, x1, xk1, xb1, xt1⟩, CUp := C3, cup := ⟨PySem.W.mg_of X G e3, x3, xk3, xb3, xt3⟩, CUr := C4, cur := ⟨PySem.W.mg_of X G e4, x4, xk4, xb4, xt4⟩, CUs := C5, cus := ⟨PySem.W.mg_of X G e5, x5, xk5, xb5, xt5⟩, CUc := C6, cuc := ⟨PySem.W.mg_of X G e6, x6, xk6, xb6, xt6⟩, CIp := C9, cip := ⟨PySem.W.mg_of X G e9, x9, xk9, xb9, xt9⟩, CCt := C10, cct := ⟨PySem.W.mg_of X G e10, x10, xk10, xb10, xt10⟩, CAr := C11, car := ⟨PySem.W.mg_of X G e11, x11, xk11, xb11, xt11⟩, CFu := C12, cfu := ⟨PySem.W.mg_of X G e12, x12, xk12, xb12, xt12⟩, CPc := C13, cpc := ⟨PySem.W.mg_of X G e13, x13, xk13, xb13, xt13⟩, aWithin := _, dWithin := _, Within := DWithin, aCheckCount := _, dCheckCount := _, CheckCount := DCheckCount, aCheckBetween := _, dCheckBetween := _, CheckBetween := DCheckBetween, aCheckPlan := _, dCheckPlan := _, CheckPlan := DCheckPlan, aCheckSizes := _, dCheckSizes := _, CheckSizes := DCheckSizes, aCheckRoutes := _, dCheckRoutes := _, CheckRoutes := DCheckRoutes, aIsRoute := _, dIsRoute := _, IsRoute := DIsRoute, aNumPlaces := _, dNumPlaces := _, NumPlaces := DNumPlaces, aVisitsIn := _, dVisitsIn := _, VisitsIn := DVisitsIn, aCommon := _, dCommon := _, Common := DCommon, aRoutePat := _, dRoutePat := _, RoutePat := DRoutePat, aJoin := _, dJoin := _, Join := DJoin, aSplit := _, dSplit := _, Split := DSplit, aAfterTick := _, dAfterTick := _, AfterTick := DAfterTick, aOrigins := _, dOrigins := _, Origins := DOrigins, aEffectOf := _, dEffectOf := _, EffectOf := DEffectOf, aEffectTicks := _, dEffectTicks := _, EffectTicks := DEffectTicks, aRepeated := _, dRepeated := _, Repeated := DRepeated, aCyclesOf := _, dCyclesOf := _, CyclesOf := DCyclesOf, aCycleFrom := _, dCycleFrom := _, CycleFrom := DCycleFrom, aFirstDiff := _, dFirstDiff := _, FirstDiff := DFirstDiff, aLMix := _, dLMix := _, LMix := DLMix, aLNext := _, dLNext := _, LNext := DLNext, aLAlike := _, dLAlike := _, LAlike := DLAlike, aLError := _, dLError := _, LError := DLError, aLPlan := _, dLPlan := _, LPlan := DLPlan, aLState := _, dLState := _, LState := DLState, aLStep := _, dLStep := _, LStep := DLStep, aLBegun := _, dLBegun := _, LBegun := DLBegun, aLSeen := _, dLSeen := _, LSeen := DLSeen, aLOther := _, dLOther := _, LOther := DLOther, aLLateRight := _, dLLateRight := _, LLateRight := DLLateRight, aLaw := _, dLaw := _, Law := DLaw }
  have EG : ErG mg CS C0 C1 C2 C3 C4 C5 C6 C7 C8 C9 C10 C11 C12 C13 C14 := ⟨PySem.W.mg_of X G eS, PySem.W.mg_of X G e0, PySem.W.mg_of X G e1, PySem.W.mg_of X G e2, PySem.W.mg_of X G e3, PySem.W.mg_of X G e4, PySem.W.mg_of X G e5, PySem.W.mg_of X G e6, PySem.W.mg_of X G e7, PySem.W.mg_of X G e8, PySem.W.mg_of X G e9, PySem.W.mg_of X G e10, PySem.W.mg_of X G e11, PySem.W.mg_of X G e12, PySem.W.mg_of X G e13, PySem.W.mg_of X G e14, PySem.W.mg_none_of X G n_ValueError⟩
  have A0 := era_plan (K := K) ⟨⟨yg0, yk0, xb0, yd0, ya0, y_n, y_t, ym0⟩, ze0, zv0, z0_0, z0_1, z0_2, z0_3, z0_4, z0_5, z0_6, z0_7, z0_8, z0_9, z0_10, z0_11, z0_12, z0_13, z0_14⟩
  have A8 := era_sizes (K := K) ⟨⟨yg8, yk8, xb8, yd8, ya8, y_n, y_t, ym8⟩, ze8, zv8, z8_0, z8_1, z8_2, z8_3, z8_4, z8_5, z8_6, z8_7, z8_8, z8_9, z8_10, z8_11, z8_12, z8_13, z8_14⟩
  refine ⟨_, [(c, Pt)], spLaw K Pt, fun p hp => ?_, fun p hp => ?_, fun p hp => ?_, fun s u => ?_, fun H a ns hl _ hH hS => ?_, fun base _ _ TB => ok_law T DLaw rfl (TB (c, Pt) (List.mem_singleton.mpr rfl)) EG XF pN1 pN2 ⟨A0, A8⟩⟩
  · rw [List.mem_singleton.mp hp]
    exact hPt
  · rw [List.mem_singleton.mp hp]
    exact hnone
  · rw [List.mem_singleton.mp hp]
    exact PySem.W.codeHd_of_K X htab
  · exact .of_eq rfl
  · exact ⟨a, ns, rfl, hS, hl, fun p hp => by rw [List.mem_singleton.mp hp]; exact TabS.nil (hH (c, Pt) (List.mem_singleton.mpr rfl)), fun _ => rfl⟩
end
end Sv
open PySem PySem.W PyProof.Rows
set_option maxHeartbeats 0 in
theorem PySem.Challenge.cw_swapshelves_k15_differences_of_plans_holds : PySem.Challenge.rw_swapshelves_k15_differences_of_plans.Holds := by
  refine head ?_
  k_fill
  refine Sv.walk_ofTsX (l := PySem.Challenge.rw_swapshelves_k15_differences_of_plans) (n := 63) (k := 14) (x := "_law_script") (CX := fun _ => L2.CX0) rfl (by decide) rfl ⟨rfl, by decide, by decide⟩ (fun w h Y => PySem.W.km_in_of Y) ?F (fun _ _ _ _ _ h => h)
  case F =>
    intro w mg fa h XPh Y KX G hmg
    have hPt := PySem.W.km_tabs_of Y _ (List.mem_singleton.mpr rfl)
    have hlim : ∃ t, mg "COUNT_LIMIT" = some (.int 1000000000000000000 t) := by
      obtain ⟨v, hv, hr⟩ := XPh.2.val _ (List.mem_cons_self ..)
      cases hr
      exact ⟨_, hv⟩
    refine' Sv.all_mk (Pt := _) KX G hmg hPt hlim ?aWithin ?lWithin ?cWithin ?kWithin ?aCheckCount ?lCheckCount ?cCheckCount ?kCheckCount ?aCheckBetween ?lCheckBetween ?cCheckBetween ?kCheckBetween ?aCheckPlan ?lCheckPlan ?cCheckPlan ?kCheckPlan ?aCheckSizes ?lCheckSizes ?cCheckSizes ?kCheckSizes ?aCheckRoutes ?lCheckRoutes ?cCheckRoutes ?kCheckRoutes ?aIsRoute ?lIsRoute ?cIsRoute ?kIsRoute ?aNumPlaces ?lNumPlaces ?cNumPlaces ?kNumPlaces ?aVisitsIn ?lVisitsIn ?cVisitsIn ?kVisitsIn ?aCommon ?lCommon ?cCommon ?kCommon ?aRoutePat ?lRoutePat ?cRoutePat ?kRoutePat ?aJoin ?lJoin ?cJoin ?kJoin ?aSplit ?lSplit ?cSplit ?kSplit ?aAfterTick ?lAfterTick ?cAfterTick ?kAfterTick ?aOrigins ?lOrigins ?cOrigins ?kOrigins ?aEffectOf ?lEffectOf ?cEffectOf ?kEffectOf ?aEffectTicks ?lEffectTicks ?cEffectTicks ?kEffectTicks ?aRepeated ?lRepeated ?cRepeated ?kRepeated ?aCyclesOf ?lCyclesOf ?cCyclesOf ?kCyclesOf ?aCycleFrom ?lCycleFrom ?cCycleFrom ?kCycleFrom ?aFirstDiff ?lFirstDiff ?cFirstDiff ?kFirstDiff ?aLMix ?lLMix ?cLMix ?kLMix ?aLNext ?lLNext ?cLNext ?kLNext ?aLAlike ?lLAlike ?cLAlike ?kLAlike ?aLError ?lLError ?cLError ?kLError ?aLPlan ?lLPlan ?cLPlan ?kLPlan ?aLState ?lLState ?cLState ?kLState ?aLStep ?lLStep ?cLStep ?kLStep ?aLBegun ?lLBegun ?cLBegun ?kLBegun ?aLSeen ?lLSeen ?cLSeen ?kLSeen ?aLOther ?lLOther ?cLOther ?kLOther ?aLLateRight ?lLLateRight ?cLLateRight ?kLLateRight ?aLaw ?lLaw ?cLaw ?kLaw ?n_isinstance ?n_bool ?n_int ?n_str ?n_list ?n_tuple ?n_dict ?n_len ?n_range ?n_enumerate ?n_max ?n_sum ?n_set ?n_zip ?n_divmod ?n_sorted ?n_abs ?n_min ?n_super ?n_ValueError ?n_lcm ?m1 ?m2 ?m3 ?m4 ?eS ?e0 ?e1 ?e2 ?e3 ?e4 ?e5 ?e6 ?e7 ?e8 ?e9 ?e10 ?e11 ?e12 ?e13 ?e14 ?xk0 ?xb0 ?xt0 ?yg0 ?yk0 ?yd0 ?ya0 ?ym0 ?ze0 ?zv0 ?z0_0 ?z0_1 ?z0_2 ?z0_3 ?z0_4 ?z0_5 ?z0_6 ?z0_7 ?z0_8 ?z0_9 ?z0_10 ?z0_11 ?z0_12 ?z0_13 ?z0_14 ?x1 ?xk1 ?xb1 ?xt1 ?x2 ?xk2 ?xb2 ?xt2 ?x3 ?xk3 ?xb3 ?xt3 ?x4 ?xk4 ?xb4 ?xt4 ?x5 ?xk5 ?xb5 ?xt5 ?x6 ?xk6 ?xb6 ?xt6 ?x7 ?xk7 ?xb7 ?xt7 ?x8 ?xk8 ?xb8 ?xt8 ?yg8 ?yk8 ?yd8 ?ya8 ?ym8 ?ze8 ?zv8 ?z8_0 ?z8_1 ?z8_2 ?z8_3 ?z8_4 ?z8_5 ?z8_6 ?z8_7 ?z8_8 ?z8_9 ?z8_10 ?z8_11 ?z8_12 ?z8_13 ?z8_14 ?x9 ?xk9 ?xb9 ?xt9 ?x10 ?xk10 ?xb10 ?xt10 ?x11 ?xk11 ?xb11 ?xt11 ?x12 ?xk12 ?xb12 ?xt12 ?x13 ?xk13 ?xb13 ?xt13 ?y_n ?y_t ?qC ?q1 ?q2 ?q3 ?q4 ?q5 ?q6 ?q7 ?q8 ?q9 ?q10 ?q11 ?q12 ?q13 ?q14 ?q15 ?pC ?pR ?pSa ?pN1 ?pN2 ?iC ?tI ?lI ?pCell ?pCode ?pKo ?pKf ?pKm ?pTop ?pHs ?pHo ?pHB ?pHm ?hcode ?htab ?hnone
    (case aWithin => k_is)
    (case lWithin => k_is)
    (case cWithin => k_is)
    (case kWithin => k_is)
    (case aCheckCount => k_is)
    (case lCheckCount => k_is)
    (case cCheckCount => k_is)
    (case kCheckCount => k_is)
    (case aCheckBetween => k_is)
    (case lCheckBetween => k_is)
    (case cCheckBetween => k_is)
    (case kCheckBetween => k_is)
    (case aCheckPlan => k_is)
    (case lCheckPlan => k_is)
    (case cCheckPlan => k_is)
    (case kCheckPlan => k_is)
    (case aCheckSizes => k_is)
    (case lCheckSizes => k_is)
    (case cCheckSizes => k_is)
    (case kCheckSizes => k_is)
    (case aCheckRoutes => k_is)
    (case lCheckRoutes => k_is)
    (case cCheckRoutes => k_is)
    (case kCheckRoutes => k_is)
    (case aIsRoute => k_is)
    (case lIsRoute => k_is)
    (case cIsRoute => k_is)
    (case kIsRoute => k_is)
    (case aNumPlaces => k_is)
    (case lNumPlaces => k_is)
    (case cNumPlaces => k_is)
    (case kNumPlaces => k_is)
    (case aVisitsIn => k_is)
    (case lVisitsIn => k_is)
    (case cVisitsIn => k_is)
    (case kVisitsIn => k_is)
    (case aCommon => k_is)
    (case lCommon => k_is)
    (case cCommon => k_is)
    (case kCommon => k_is)
    (case aRoutePat => k_is)
    (case lRoutePat => k_is)
    (case cRoutePat => k_is)
    (case kRoutePat => k_is)
    (case aJoin => k_is)
    (case lJoin => k_is)
    (case cJoin => k_is)
    (case kJoin => k_is)
    (case aSplit => k_is)
    (case lSplit => k_is)
    (case cSplit => k_is)
    (case kSplit => k_is)
    (case aAfterTick => k_is)
    (case lAfterTick => k_is)
    (case cAfterTick => k_is)
    (case kAfterTick => k_is)
    (case aOrigins => k_is)
    (case lOrigins => k_is)
    (case cOrigins => k_is)
    (case kOrigins => k_is)
    (case aEffectOf => k_is)
    (case lEffectOf => k_is)
    (case cEffectOf => k_is)
    (case kEffectOf => k_is)
    (case aEffectTicks => k_is)
    (case lEffectTicks => k_is)
    (case cEffectTicks => k_is)
    (case kEffectTicks => k_is)
    (case aRepeated => k_is)
    (case lRepeated => k_is)
    (case cRepeated => k_is)
    (case kRepeated => k_is)
    (case aCyclesOf => k_is)
    (case lCyclesOf => k_is)
    (case cCyclesOf => k_is)
    (case kCyclesOf => k_is)
    (case aCycleFrom => k_is)
    (case lCycleFrom => k_is)
    (case cCycleFrom => k_is)
    (case kCycleFrom => k_is)
    (case aFirstDiff => k_is)
    (case lFirstDiff => k_is)
    (case cFirstDiff => k_is)
    (case kFirstDiff => k_is)
    (case aLMix => k_is)
    (case lLMix => k_is)
    (case cLMix => k_is)
    (case kLMix => k_is)
    (case aLNext => k_is)
    (case lLNext => k_is)
    (case cLNext => k_is)
    (case kLNext => k_is)
    (case aLAlike => k_is)
    (case lLAlike => k_is)
    (case cLAlike => k_is)
    (case kLAlike => k_is)
    (case aLError => k_is)
    (case lLError => k_is)
    (case cLError => k_is)
    (case kLError => k_is)
    (case aLPlan => k_is)
    (case lLPlan => k_is)
    (case cLPlan => k_is)
    (case kLPlan => k_is)
    (case aLState => k_is)
    (case lLState => k_is)
    (case cLState => k_is)
    (case kLState => k_is)
    (case aLStep => k_is)
    (case lLStep => k_is)
    (case cLStep => k_is)
    (case kLStep => k_is)
    (case aLBegun => k_is)
    (case lLBegun => k_is)
    (case cLBegun => k_is)
    (case kLBegun => k_is)
    (case aLSeen => k_is)
    (case lLSeen => k_is)
    (case cLSeen => k_is)
    (case kLSeen => k_is)
    (case aLOther => k_is)
    (case lLOther => k_is)
    (case cLOther => k_is)
    (case kLOther => k_is)
    (case aLLateRight => k_is)
    (case lLLateRight => k_is)
    (case cLLateRight => k_is)
    (case kLLateRight => k_is)
    (case aLaw => k_is)
    (case lLaw => k_is)
    (case cLaw => k_is)
    (case kLaw => k_is)
    (case n_isinstance => k_is)
    (case n_bool => k_is)
    (case n_int => k_is)
    (case n_str => k_is)
    (case n_list => k_is)
    (case n_tuple => k_is)
    (case n_dict => k_is)
    (case n_len => k_is)
    (case n_range => k_is)
    (case n_enumerate => k_is)
    (case n_max => k_is)
    (case n_sum => k_is)
    (case n_set => k_is)
    (case n_zip => k_is)
    (case n_divmod => k_is)
    (case n_sorted => k_is)
    (case n_abs => k_is)
    (case n_min => k_is)
    (case n_super => k_is)
    (case n_ValueError => k_is)
    (case n_lcm => k_is)
    (case m1 => k_is)
    (case m2 => k_is)
    (case m3 => k_is)
    (case m4 => k_is)
    (case eS => k_is)
    (case e0 => k_is)
    (case e1 => k_is)
    (case e2 => k_is)
    (case e3 => k_is)
    (case e4 => k_is)
    (case e5 => k_is)
    (case e6 => k_is)
    (case e7 => k_is)
    (case e8 => k_is)
    (case e9 => k_is)
    (case e10 => k_is)
    (case e11 => k_is)
    (case e12 => k_is)
    (case e13 => k_is)
    (case e14 => k_is)
    (case xk0 => k_is)
    (case xb0 => k_is)
    (case xt0 => k_is)
    (case yg0 => k_is)
    (case yk0 => k_is)
    (case yd0 => k_is)
    (case ya0 => k_is)
    (case ym0 => k_is)
    (case ze0 => kernel_rfl)
    (case zv0 => kernel_rfl)
    (case z0_0 => kernel_rfl)
    (case z0_1 => kernel_rfl)
    (case z0_2 => kernel_rfl)
    (case z0_3 => kernel_rfl)
    (case z0_4 => kernel_rfl)
    (case z0_5 => kernel_rfl)
    (case z0_6 => kernel_rfl)
    (case z0_7 => kernel_rfl)
    (case z0_8 => kernel_rfl)
    (case z0_9 => kernel_rfl)
    (case z0_10 => kernel_rfl)
    (case z0_11 => kernel_rfl)
    (case z0_12 => kernel_rfl)
    (case z0_13 => kernel_rfl)
    (case z0_14 => kernel_rfl)
    (case x1 => first | k_exc | k_is)
    (case xk1 => k_is)
    (case xb1 => k_is)
    (case xt1 => k_is)
    (case x2 => first | k_exc | k_is)
    (case xk2 => k_is)
    (case xb2 => k_is)
    (case xt2 => k_is)
    (case x3 => first | k_exc | k_is)
    (case xk3 => k_is)
    (case xb3 => k_is)
    (case xt3 => k_is)
    (case x4 => first | k_exc | k_is)
    (case xk4 => k_is)
    (case xb4 => k_is)
    (case xt4 => k_is)
    (case x5 => first | k_exc | k_is)
    (case xk5 => k_is)
    (case xb5 => k_is)
    (case xt5 => k_is)
    (case x6 => first | k_exc | k_is)
    (case xk6 => k_is)
    (case xb6 => k_is)
    (case xt6 => k_is)
    (case x7 => first | k_exc | k_is)
    (case xk7 => k_is)
    (case xb7 => k_is)
    (case xt7 => k_is)
    (case x8 => first | k_exc | k_is)
    (case xk8 => k_is)
    (case xb8 => k_is)
    (case xt8 => k_is)
    (case yg8 => k_is)
    (case yk8 => k_is)
    (case yd8 => k_is)
    (case ya8 => k_is)
    (case ym8 => k_is)
    (case ze8 => kernel_rfl)
    (case zv8 => kernel_rfl)
    (case z8_0 => kernel_rfl)
    (case z8_1 => kernel_rfl)
    (case z8_2 => kernel_rfl)
    (case z8_3 => kernel_rfl)
    (case z8_4 => kernel_rfl)
    (case z8_5 => kernel_rfl)
    (case z8_6 => kernel_rfl)
    (case z8_7 => kernel_rfl)
    (case z8_8 => kernel_rfl)
    (case z8_9 => kernel_rfl)
    (case z8_10 => kernel_rfl)
    (case z8_11 => kernel_rfl)
    (case z8_12 => kernel_rfl)
    (case z8_13 => kernel_rfl)
    (case z8_14 => kernel_rfl)
    (case x9 => first | k_exc | k_is)
    (case xk9 => k_is)
    (case xb9 => k_is)
    (case xt9 => k_is)
    (case x10 => first | k_exc | k_is)
    (case xk10 => k_is)
    (case xb10 => k_is)
    (case xt10 => k_is)
    (case x11 => first | k_exc | k_is)
    (case xk11 => k_is)
    (case xb11 => k_is)
    (case xt11 => k_is)
    (case x12 => first | k_exc | k_is)
    (case xk12 => k_is)
    (case xb12 => k_is)
    (case xt12 => k_is)
    (case x13 => first | k_exc | k_is)
    (case xk13 => k_is)
    (case xb13 => k_is)
    (case xt13 => k_is)
    (case y_n => k_is)
    (case y_t => k_is)
    (case qC => k_is)
    (case q1 => k_is)
    (case q2 => k_is)
    (case q3 => k_is)
    (case q4 => k_is)
    (case q5 => k_is)
    (case q6 => k_is)
    (case q7 => k_is)
    (case q8 => k_is)
    (case q9 => k_is)
    (case q10 => k_is)
    (case q11 => k_is)
    (case q12 => k_is)
    (case q13 => k_is)
    (case q14 => k_is)
    (case q15 => k_is)
    (case pC => k_is)
    (case pR => decide +kernel)
    (case pSa => k_is)
    (case pN1 => k_is)
    (case pN2 => k_is)
    (case iC => k_is)
    (case tI => k_is)
    (case lI => k_is)
    (case pCell => k_is)
    (case pCode => k_is)
    (case pKo => k_is)
    (case pKf => rfl)
    (case pKm => first | rfl | decide +kernel)
    (case pTop => first | rfl | decide +kernel)
    (case pHs => kernel_rfl)
    (case pHo => first | k_is | kernel_rfl)
    (case pHB => k_is)
    (case pHm => first | k_is | kernel_rfl)
    (case hcode => rfl)
    (case htab => kernel_rfl)
    (case hnone => kernel_rfl)
