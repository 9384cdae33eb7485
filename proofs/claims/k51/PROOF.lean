import PyProof.Rows.All
import Wide.All
import OpenK.AllK
import Wide.FinOn
import HandS.ForMost
import HandS.ForExc
import HandS.Lambda
import HandS.Nested
import HandS.EndTab
import HandS.Conv
import HandS.Zip
import HandS.SetFor
import HandS.TupAny
import HandS.Gcd
import HandS.Wide
import HandS.WideBits
import HandS.IsInst
import HandS.ExcIs
import HandS.Flow
import KE.KMathGC
import KE.GoesMore
import PyProof.EnumMake
import PyProof.Draws
import HandS.ExcInit
import HandS.ExcSuper
import HandS.ExcField
import HandS.FStr
import KE.KExcSuper
import KE.KSuper
import PySem.Str
import HandS.TupMul
import KE.KTupSum
import KE.KExcIs
import HandS.DictComp
import HandS.Strs
import KE.GoesZip
import HandS.Style
import HandS.Codes
import HandS.Walk
import HandS.More
import HandS.SortInts
import KE.KDictWalk
import PyProof.SumAny
import PyProof.WalksMore
import KE.KDictDisplayH
import KE.KUnpackStar
import KE.GoesRaise
import HandS.Exc
import HandS.Comp
import HandS.TryMany
import PyProof.StrOps2
import PySem.Challenge.RW_swapshelves_k51_texts_round_trip
set_option Elab.async false
set_option linter.all false
set_option maxRecDepth 100000
set_option genInjectivity false
set_option genSizeOf false
set_option genSizeOfSpec false
section
open PySem PySem.W PyProof.Rows
set_option maxHeartbeats 0
open_top head for PySem.Challenge.rw_swapshelves_k51_texts_round_trip
end
set_option maxHeartbeats 4000000
namespace Sv
open PySem PySem.Spec PyProof.Rows L2 LamX NdefX
/-- a lambda: its text, what it captured, its defaults, its code object -/
structure LF where
  params : Arguments
  body : Expr
  scope : Scope
  qual : Str
  cl : List (Str × Addr)
  dV : Value
  c : Addr
def LF.fd (L : LF) (pm ctv : Value) : FuncData :=
  { PySem.W.kla_fn "<lambda>" L.qual L.params L.body L.scope L.cl pm (.ref L.c) ctv with defaults := L.dV }
def LF.obj (L : LF) (pm ctv : Value) : Obj := { cls := .type "function", data := .func (L.fd pm ctv) }
def LamO (f : Addr) (L : LF) : HO := .ext fun h => ∃ (od : Option Addr) (sl : Array (Option Value)) (pm ctv : Value), h.get? f = some (⟨.type "function", od, .func (L.fd pm ctv), sl⟩ : Obj)
theorem lamO_tbl {f : Addr} {L : LF} (ps : Array Value) : LamO f L ≠ .tbl ps := fun z => by
  unfold LamO at z
  cases z
theorem lamO_at {P : Program} {w : World} {H : Hp} {h : Heap} {f : Addr} {L : LF} (hok : HOk P w H h) (e : H f = some (LamO f L)) :
    ∃ (od : Option Addr) (sl : Array (Option Value)) (pm ctv : Value), h.get? f = some (⟨.type "function", od, .func (L.fd pm ctv), sl⟩ : Obj) := (hok f _ e).1
section
variable {M : Model} {A : Around} {E : Value → Shared → Prop} {s : Shared} {qual : Str} {params : Arguments} {body : Expr} {scope : Scope} {env : Env} {c P : Addr} {ps : Array Value}
  {pos : Pos} {fl : Nat} {mg : Str → Option Value} {clos : List (Str × Addr)} {dV : Value} {Q : Value → Shared → Prop}
/-- the end of its making, the code object new -/
theorem tail_new (hcl : closureFor scope env = pure clos) (hge : env.globals = mainGlobals) (hg : s.heap.Ns mainGlobals mg) (hcode : env.code = .ref c) (C : PySem.W.CodeHd s.heap c P)
    (hP : s.heap.get? P = some { cls := .none, data := .fields ps }) (ht : TriplesOk ps.toList) (hnf : codeAmong pos ps.toList = none) (hgP : mainGlobals ≠ P) (hb : s.heap.BuiltinsAt mg P)
    (h : ∀ c' ctv h' tk, Heap.ExtBut P s.heap h' → s.heap.objs.size ≤ c' → c' < h'.objs.size → h'.CodeRec (.ref c') qual →
      h'.get? P = some { cls := .none, data := .fields (ps ++ #[rawInt pos.line, rawInt pos.col, .ref c']) } →
      Q (.ref h'.objs.size) { s with heap := h'.push (LF.obj ⟨params, body, scope, qual, clos, dV, c'⟩ ((mg "__name__").getD .none) ctv), toks := tk }) :
    wpAny M A (makeTail "<lambda>" qual params (.expr body) scope env dV .none none pos fl) Q E s := by
  obtain ⟨bm, ob, e1, e2, _, e3, e4, e5, e6, e7⟩ := hb
  unfold makeTail
  rw [hcl, hge]
  refine wpAny_bind (wpAny_pure ?_)
  by_cases hz : clos.isEmpty = true
  · rw [if_pos hz]
    refine wpAny_bind (wpAny_pure (wpAny_bind (wpAny_functionCodeX hcode (C.code hP ht) (C.tab hP) hnf fun c' h' tk x1 x2 x3 _ x4 x5 _ => ?_)))
    have g1 := hg.extBut x1 hgP
    refine wpAny_bind (wpAny_builtinsFor g1 e1 e2 (x1 _ _ e3 e4) e5 e6 e7 (wpAny_bind (wpAny_nsGet g1 ?_)))
    exact wpAny_bind (wpAny_pure (wpAny_newObj_type (h c' .none h' tk x1 x2 x3 x4 x5.2) (by size_fits)))
  · rw [if_neg hz]
    refine wpAny_bind (wpAny_newTextTuple ?_)
    have kp : ∀ (oT : Obj) b o, s.heap.get? b = some o → (s.heap.push oT).get? b = some o := fun oT b o e => Heap.get?_push_of_some _ e
    refine wpAny_bind (wpAny_functionCodeX hcode ((C.keeps (kp _)).code (kp _ _ _ hP) ht) ((C.keeps (kp _)).tab (kp _ _ _ hP)) hnf fun c' h' tk x1 x2 x3 _ x4 x5 _ => ?_)
    have g1 := (hg.push _).extBut x1 hgP
    have x1' : Heap.ExtBut P s.heap h' := fun b o n e => x1 b o n (kp _ b o e)
    have x2' : s.heap.objs.size ≤ c' := Nat.le_trans (by rw [Heap.size_push]; omega) x2
    refine wpAny_bind (wpAny_builtinsFor g1 e1 e2 (x1' _ _ e3 e4) e5 e6 e7 (wpAny_bind (wpAny_nsGet g1 ?_)))
    exact wpAny_bind (wpAny_pure (wpAny_newObj_type (h c' _ h' tk x1' x2' x3 x4 x5.2) (by size_fits)))
/-- .. the code object found -/
theorem tail_hit {c' : Addr} (hcl : closureFor scope env = pure clos) (hge : env.globals = mainGlobals) (hg : s.heap.Ns mainGlobals mg) (hcode : env.code = .ref c) (C : PySem.W.CodeHd s.heap c P)
    (hP : s.heap.get? P = some { cls := .none, data := .fields ps }) (ht : TriplesOk ps.toList) (hf : codeAmong pos ps.toList = some (.ref c')) (hb : s.heap.BuiltinsAt mg P)
    (h : ∀ (ctv : Value) (h' : Heap) (tk : Tok), (∀ b o, s.heap.get? b = some o → h'.get? b = some o) → s.heap.objs.size ≤ h'.objs.size →
      Q (.ref h'.objs.size) { s with heap := h'.push (LF.obj ⟨params, body, scope, qual, clos, dV, c'⟩ ((mg "__name__").getD .none) ctv), toks := tk }) :
    wpAny M A (makeTail "<lambda>" qual params (.expr body) scope env dV .none none pos fl) Q E s := by
  obtain ⟨bm, ob, e1, e2, _, e3, e4, e5, e6, e7⟩ := hb
  unfold makeTail
  rw [hcl, hge]
  refine wpAny_bind (wpAny_pure ?_)
  by_cases hz : clos.isEmpty = true
  · rw [if_pos hz]
    refine wpAny_bind (wpAny_pure (wpAny_bind (wpAny_functionCode_hit hcode (C.code hP ht) hf ?_)))
    refine wpAny_bind (wpAny_builtinsFor hg e1 e2 e4 e5 e6 e7 (wpAny_bind (wpAny_nsGet hg ?_)))
    exact wpAny_bind (wpAny_pure (wpAny_newObj_type (h .none s.heap s.toks (fun _ _ e => e) (Nat.le_refl _)) (by size_fits)))
  · rw [if_neg hz]
    refine wpAny_bind (wpAny_newTextTuple ?_)
    have kp : ∀ (oT : Obj) b o, s.heap.get? b = some o → (s.heap.push oT).get? b = some o := fun oT b o e => Heap.get?_push_of_some _ e
    refine wpAny_bind (wpAny_functionCode_hit hcode ((C.keeps (kp _)).code (kp _ _ _ hP) ht) hf ?_)
    refine wpAny_bind (wpAny_builtinsFor (hg.push _) e1 e2 (kp _ _ _ e4) e5 e6 e7 (wpAny_bind (wpAny_nsGet (hg.push _) ?_)))
    have sz : ∀ oT : Obj, s.heap.objs.size ≤ (s.heap.push oT).objs.size := fun oT => by rw [Heap.size_push]; omega
    exact wpAny_bind (wpAny_pure (wpAny_newObj_type (h _ _ s.toks (kp _) (sz _)) (by size_fits)))
end
section
variable {X : Cx} {pins : List (Addr × Obj)} {σ : L2.St} {H : Hp} {s : Shared}
/-- a function object just made is known from now on -/
theorem inv_lam {L : LF} {t' : Nat} {pm ctv : Value} (I : Inv X pins σ H s) :
    Inv X pins σ (upd H s.heap.objs.size (LamO s.heap.objs.size L)) { s with heap := s.heap.push (L.obj pm ctv), toks := t' } := by
  refine I.laid (a := s.heap.objs.size) (fun b u e => Heap.get?_push_of_some _ e) (Nat.le_refl _) ?_
  have e : (s.heap.push (L.obj pm ctv)).get? s.heap.objs.size = some (L.obj pm ctv) := Heap.get?_push_size _ rfl
  exact ⟨⟨_, _, pm, ctv, e⟩, ⟨_, e⟩, fun h1 h2 ⟨a1, a2, a3, a4, z⟩ st => ⟨a1, a2, a3, a4, st _ z⟩⟩
/-- what is asked of the makers' tables -/
structure LamT (X : Cx) (T : List (Addr × Str)) (c P : Addr) : Prop where
  tb : TabB X.base X.mg c P
  code : X.env.code = .ref c
  mem : (P, X.env.qual ++ "<lambda>") ∈ T
  uni : ∀ p ∈ T, p.1 = P → p.2 = X.env.qual ++ "<lambda>"
theorem lam_tail {T : List (Addr × Str)} {c P : Addr} {params : Arguments} {body : Expr} {scope : Scope} {pos : Pos} {fl : Nat} {dV : Value} {E : Value → Shared → Prop} {Q : Value → Shared → Prop} (I : Inv X pins σ H s) (LT : LamT X T c P)
    (hT : Tabs T H) (hfree : ∀ y ∈ scope.names, y.2 = .free → ∃ c, X.env.cells.lookup y.1 = some c)
    (h : ∀ (f c' : Addr) (H1 : Hp) (s' : Shared), Inv X pins σ H1 s' → ExtN H H1 → (∀ b, H1 b = none → H b = none) → Tabs T H1 → H f = none →
      H1 f = some (LamO f ⟨params, body, scope, X.env.qual ++ "<lambda>", cloFrom X.env.cells scope.names [], dV, c'⟩) → H1 c' = some (CodeO c' (X.env.qual ++ "<lambda>")) → Q (.ref f) s') :
    wpAny (model X.prog X.w) X.A (makeTail "<lambda>" (X.env.qual ++ "<lambda>") params (.expr body) scope X.env dV .none none pos fl) Q E s := by
  obtain ⟨ps, hP, ht, ha⟩ := hT _ LT.mem
  have bP : s.heap.BuiltinsAt X.mg P := LT.tb.bm.keeps I.bk
  have gP : s.heap.get? P = some { cls := .none, data := .fields ps } := I.hok P _ hP
  cases hc : codeAmong pos ps.toList with
  | none =>
    refine tail_new (mg := X.mg) (c := c) (P := P) (ps := ps) (closure_ok hfree) I.ok.glob (I.mod.glob.keeps I.bk) LT.code (LT.tb.code.keeps I.bk) gP ht hc LT.tb.gP bP fun c' ctv h' tk x1 x2 x3 x4 x5 => ?_
    obtain ⟨c2, oc, vs, t, e2, hoc, hd, hv⟩ := x4
    cases e2
    have nC : H c' = none := I.hok.fresh x2
    have I1 := inv_table (t' := tk) (more := #[rawInt pos.line, rawInt pos.col, .ref c']) (h' := h') I hP (fun b o hb e => x1 b o hb e) x5 x2 ⟨oc, vs, t, hoc, hd, hv⟩
    generalize hG : upd (upd H P (.tbl (ps ++ #[rawInt pos.line, rawInt pos.col, .ref c']))) c' (CodeO c' (X.env.qual ++ "<lambda>")) = G at I1
    have atC : G c' = some (CodeO c' (X.env.qual ++ "<lambda>")) := by rw [← hG]; exact upd_same
    have hE : ExtN H G := fun b o e n => by
      rw [← hG, upd_ne (ne_of_none e nC), upd_ne (fun z => n ps (Option.some.inj (e.symm.trans (by rw [z]; exact hP))))]
      exact e
    have eL : (ps ++ #[rawInt pos.line, rawInt pos.col, .ref c']).toList = ps.toList ++ [rawInt pos.line, rawInt pos.col, .ref c'] := by simp
    have T1 : Tabs T G := fun p hp => by
      by_cases hb : p.1 = P
      · rw [LT.uni p hp hb, hb]
        refine ⟨_, by rw [← hG, upd_ne (ne_of_none hP nC), upd_same], by rw [eL]; exact PySem.TriplesOk_snoc _ _ _ _ ht, fun p' cv hcv => ?_⟩
        rw [eL] at hcv
        rcases among_app _ ht hcv with z | z
        · obtain ⟨c0, q1, q2⟩ := ha p' cv z
          exact ⟨c0, q1, hE _ _ q2 codeO_ne⟩
        · exact ⟨c', z, atC⟩
      · obtain ⟨ps', a1, a2, a3⟩ := hT p hp
        refine ⟨ps', by rw [← hG, upd_ne (ne_of_none a1 nC), upd_ne hb]; exact a1, a2, fun p' cv hcv => ?_⟩
        obtain ⟨c0, q1, q2⟩ := a3 p' cv hcv
        exact ⟨c0, q1, hE _ _ q2 codeO_ne⟩
    have nF := I1.hok.fresh (Nat.le_refl _)
    have I2 := inv_lam (L := ⟨params, body, scope, X.env.qual ++ "<lambda>", cloFrom X.env.cells scope.names [], dV, c'⟩) (t' := tk) (pm := (X.mg "__name__").getD .none) (ctv := ctv) I1
    refine h h'.objs.size c' _ _ I2 (fun b o e n => ?_) (fun b e => ?_) (T1.ext fun b o e => ?_) (I.hok.fresh (Nat.le_trans x2 (Nat.le_of_lt x3))) upd_same ?_
    · exact (upd_ne (ne_of_none (hE b o e n) nF)).trans (hE b o e n)
    · have e1 := upd_none e
      rw [← hG] at e1
      exact upd_none (upd_none e1)
    · exact (upd_ne (ne_of_none e nF)).trans e
    · exact (upd_ne (Nat.ne_of_lt x3)).trans atC
  | some cv =>
    obtain ⟨c', e, hco⟩ := ha pos cv hc
    subst e
    refine tail_hit (mg := X.mg) (c := c) (P := P) (ps := ps) (closure_ok hfree) I.ok.glob (I.mod.glob.keeps I.bk) LT.code (LT.tb.code.keeps I.bk) gP ht hc bP fun ctv h' tk x1 x2 => ?_
    have I1 : Inv X pins σ H { s with heap := h', toks := tk } := I.kept x1
    have nF : H h'.objs.size = none := I1.hok.fresh (Nat.le_refl _)
    have I2 := inv_lam (L := ⟨params, body, scope, X.env.qual ++ "<lambda>", cloFrom X.env.cells scope.names [], dV, c'⟩) (t' := tk) (pm := (X.mg "__name__").getD .none) (ctv := ctv) I1
    refine h h'.objs.size c' _ _ I2 (fun b o e n => ?_) (fun b e => upd_none e) (hT.ext fun b o e => ?_) nF upd_same ?_
    · exact (upd_ne (ne_of_none e nF)).trans e
    · exact (upd_ne (ne_of_none e nF)).trans e
    · exact (upd_ne (ne_of_none hco nF)).trans hco
end
/-- what the defaults' place holds -/
def DflAt (H : Hp) (dV : Value) (dvs : List V) : Prop := (dvs = [] ∧ dV = .none) ∨ (dvs ≠ [] ∧ ∃ T, dV = .ref T ∧ H T = some (.tup dvs))
/-- the reading of a lambda: a new function, mk its datum -/
def tLamV (T : List (Addr × Str)) (dvs : List V) (mk : Value → Addr → LF) : TE := fun _ H Q => Tabs T H ∧ ∀ (f c' : Addr) (dV : Value) (H1 : Hp), ExtN H H1 → (∀ b, H1 b = none → H b = none) → Tabs T H1 → H f = none →
  H1 f = some (LamO f (mk dV c')) → H1 c' = some (CodeO c' (mk dV c').qual) → DflAt H1 dV dvs → Q (.ref f) H1
section
variable {X : Cx}
theorem pe_lam0 {T : List (Addr × Str)} {c P : Addr} {params : Arguments} {body : Expr} {scope : Scope} {pos : Pos} (LT : LamT X T c P) (hd : defaultsOf params X.env = ([], []))
    (hfree : ∀ y ∈ scope.names, y.2 = .free → X.env.scope.names.lookup y.1 = some .cell ∨ X.env.scope.names.lookup y.1 = some .free) :
    PE X (.Lambda params body scope pos) (tLamV T [] fun dV c' => ⟨params, body, scope, X.env.qual ++ "<lambda>", cloFrom X.env.cells scope.names [], dV, c'⟩) := by
  refine ⟨fun pins s σ H Q I ⟨hT, h⟩ => PySem.W.kla_eval hd ?_⟩
  rw [makeFunction_eq]
  simp only [List.zip_nil_right, List.filterMap_nil, List.isEmpty_nil, if_true, pure_bind]
  have hf : ∀ y ∈ scope.names, y.2 = .free → ∃ c, X.env.cells.lookup y.1 = some c := fun y hy e => (hfree y hy e).elim (fun z => I.ok.has _ (.inl z)) fun z => I.ok.has _ (.inr z)
  exact lam_tail I LT hT hf fun f c' H1 s' I1 a1 a2 a3 a4 a5 a6 => ⟨.ref f, H1, I1, rfl, h f c' .none H1 a1 a2 a3 a4 a5 a6 (.inl ⟨rfl, rfl⟩)⟩
theorem pe_lam1 {T : List (Addr × Str)} {c P : Addr} {params : Arguments} {body : Expr} {scope : Scope} {pos : Pos} {i j : Int} {jn : Nat} {p2 : Pos} (LT : LamT X T c P)
    (hd : defaultsOf params X.env = ([eval (.Constant (.int i) jn p2) X.env], []))
    (hfree : ∀ y ∈ scope.names, y.2 = .free → X.env.scope.names.lookup y.1 = some .cell ∨ X.env.scope.names.lookup y.1 = some .free) :
    PE X (.Lambda params body scope pos) (tLamV T [.int i] fun dV c' => ⟨params, body, scope, X.env.qual ++ "<lambda>", cloFrom X.env.cells scope.names [], dV, c'⟩) := by
  refine ⟨fun pins s σ H Q I ⟨hT, h⟩ => ?_⟩
  rw [arm_eval_Lambda, hd]
  have hf : ∀ y ∈ scope.names, y.2 = .free → ∃ c, X.env.cells.lookup y.1 = some c := fun y hy e => (hfree y hy e).elim (fun z => I.ok.has _ (.inl z)) fun z => I.ok.has _ (.inr z)
  refine wpAny_bind (wpAny_evalAll_cons (thn ((pe_int (X := X) (i := i) (j := jn) (pos := p2)).run pins s σ H (fun v H1 => v = .int i ∧ H1 = H) I ⟨rfl, rfl⟩) fun u s1 ⟨v, H1, I1, r1, q1⟩ => ?_))
  obtain ⟨ev, eH⟩ := q1
  subst ev
  subst eH
  refine wpAny_evalAll_nil (wpAny_bind (wpAny_holding (wpAny_pure ?_)))
  rw [makeFunction_eq]
  simp only [List.zip_nil_right, List.filterMap_nil, List.isEmpty_nil, if_true, pure_bind, List.isEmpty_cons, Bool.false_eq_true, if_false]
  refine wpAny_bind (wpAny_newTextTuple ?_)
  have nT := I1.hok.fresh (Nat.le_refl s1.heap.objs.size)
  have I2 : Inv X pins σ (upd H1 s1.heap.objs.size (.tup [.int i])) { s1 with heap := s1.heap.push { cls := .type "tuple", data := .seq [u].toArray } } := by
    refine I1.laid (t' := s1.toks) (fun b o e => Heap.get?_push_of_some _ e) (Nat.le_refl _) ⟨(by decide : (1 : Nat) ≤ sizeLine), [u], .cons r1 .nil, ?_⟩
    exact ⟨_, Heap.get?_push_size _ rfl, rfl, ⟨_, rfl⟩⟩
  have hT2 : Tabs T (upd H1 s1.heap.objs.size (.tup [.int i])) := hT.ext fun b o e => by
    rw [upd_ne (ne_of_none e nT)]
    exact e
  refine lam_tail I2 LT hT2 hf fun f c' H2 s' I3 a1 a2 a3 a4 a5 a6 => ⟨.ref f, H2, I3, rfl, h f c' _ H2 (fun b o e n => ?_) (fun b e => upd_none (a2 b e)) a3 (upd_none a4) a5 a6 (.inr ⟨List.cons_ne_nil _ _, _, rfl, ?_⟩)⟩
  · exact a1 b o (by rw [upd_ne (ne_of_none e nT)]; exact e) n
  · exact a1 _ _ upd_same (fun ps z => nomatch z)
end
end Sv
set_option maxHeartbeats 4000000
namespace Sv
open PySem PySem.Spec PyProof.Rows L2 LamX NdefX
def LF.nf (L : LF) : NF := ⟨"<lambda>", L.qual, L.params, [], L.scope, L.cl, L.c⟩
/-- how the defaults bind -/
def LBinds (L : LF) (ps : List Str) (dvs : List V) : Prop := ∀ (H : Hp) (P : Program) (w : World) (s : Shared), HOk P w H s.heap → DflAt H L.dV dvs →
  ∃ us, Vals dvs us ∧ ∀ pm ctv, BindsTo s (L.fd pm ctv) ⟨[], []⟩ (ps.zip us)
theorem lbinds0 {L : LF} (h : ∀ q cl pm cv ctv, bindArgs (PySem.W.kla_fn "<lambda>" q L.params L.body L.scope cl pm cv ctv) ⟨[], []⟩ = pure []) : LBinds L [] [] := fun H P w s hok d => by
  rcases d with ⟨_, e⟩ | ⟨e, _⟩
  · refine ⟨[], .nil, fun pm ctv => .of_eq ?_⟩
    have z := h L.qual L.cl pm (.ref L.c) ctv
    unfold LF.fd
    rw [e]
    exact z
  · exact absurd rfl e
theorem lbinds1 {L : LF} {a : Str} {v : V} (h : ∀ q cl pm cv ctv (T : Addr) (u : Value), ∃ k, bindArgs { PySem.W.kla_fn "<lambda>" q L.params L.body L.scope cl pm cv ctv with defaults := .ref T } ⟨[], []⟩ = seqItems? (.ref T) >>= k ∧
    k (some [u].toArray) = pure [(a, u)]) : LBinds L [a] [v] := fun H P w s hok d => by
  rcases d with ⟨e, _⟩ | ⟨_, T, e, hT⟩
  · cases e
  · obtain ⟨_, its, r, o, ho, _, n, hd⟩ := hok T _ hT
    obtain ⟨u, rfl, ru⟩ := Vals.one r
    refine ⟨[u], .cons ru .nil, fun pm ctv M A Q E q => ?_⟩
    obtain ⟨k, e1, e2⟩ := h L.qual L.cl pm (.ref L.c) ctv T u
    unfold LF.fd
    rw [e]
    rw [e1]
    refine wpAny_bind (wpAny_seqItems ho hd ?_)
    rw [e2]
    exact wpAny_pure q
/-- the promise of the lambda L at f, its cells holding ws -/
structure LOk (P : Program) (w : World) (K : PySem.W.Frag) (mg : Str → Option Value) (base : Heap) (k : Nat) (f : Addr) (L : LF) (fr : List Str) (dvs : List V) (tl : List (Option V) → XK → Hp → VK → Prop) : Prop where
  run : ∀ (A : Around) (outer : List Env) (s : Shared) (H : Hp) (ws : List (Option V)) (Q : VK) (E : XK), Room k A → Env0 P w K mg base A outer s H → H f = some (LamO f L) → H L.c = some (CodeO L.c L.qual) → DflAt H L.dV dvs →
    CellsAt L.cl fr ws s.heap H → tl ws E H Q → codeAny (model P w) A (.call (.ref f) ⟨[], []⟩) (CR (L2.CX P w) outer P w H s Q E) s
section
variable {P : Program} {w : World} {K : PySem.W.Frag} {mg : Str → Option Value} {base : Heap} {N ps fr : List Str} {L : LF} {f : Addr} {k : Nat} {dvs : List V} {tl : List (Option V) → XK → Hp → VK → Prop}
theorem lok_of (S : NScope N ps fr L.scope) (hb : LBinds L ps dvs) (hl : dvs.length = ps.length)
    (hbody : ∀ (A : Around) (outer : List Env) (s : Shared) (H : Hp) (ws : List (Option V)) (Q : VK) (E : XK), Room k (A.deeper (envF L.nf f s.heap.objs.size)) → ws.length = fr.length → tl ws E H Q →
      ∃ t, PE (ncx (L2.CX P w) P w K mg base N L.nf f A outer s H E) L.body t ∧ t (startF N dvs ws) H Q) : LOk P w K mg base (k + 1) f L fr dvs tl := by
  refine ⟨fun A outer s H ws Q E hr e0 hf hc hd C ht => ?_⟩
  have lim : s.heap.NoLimit := e0.mod.nolimit.keeps fun b o e => (e0.bs b o e).1
  obtain ⟨od, sl, pm, ctv, ho⟩ := lamO_at e0.hok hf
  obtain ⟨us, r, hbi⟩ := hb H P w s e0.hok hd
  obtain ⟨⟨oc, vs, t, hoc, hdc, hvc⟩, _, _⟩ := e0.hok L.c _ hc
  have hus : us.length = ps.length := by rw [← r.length]; exact hl
  refine PySem.W.kla_callFunE hr.depth ho rfl S.co S.gen rfl ⟨L.c, oc, vs, t, rfl, hoc, hdc, hvc⟩ (hbi pm ctv _ _ _ _ ?_)
  refine wpAny_newFunctionEnv S.nocell (fun ⟨n, _⟩ hy => S.par n (List.of_mem_zip hy).1) (fun h₁ hns hsb => ⟨lim.fresh _ hsb, ?_⟩) S.kind
  show codeAny _ _ (.expr L.body (envF L.nf f s.heap.objs.size)) _ _
  have kp : ∀ b o, s.heap.get? b = some o → h₁.get? b = some o := fun b o e => hsb.extBut b o (Nat.ne_of_lt (Heap.lt_size e)) (Heap.get?_push_of_some _ e)
  obtain ⟨t, hp, hq⟩ := hbody A outer s H ws Q E (hr.deeper _) C.len ht
  have I : Inv (ncx (L2.CX P w) P w K mg base N L.nf f A outer s H E) [] (startF N dvs ws) H { s with heap := h₁, toks := s.toks + (ps.zip us).length } := inv_startN (F := L.nf) S hr.hd e0 hl r C hns kp
  refine PySem.W.kla_codeExpr (wpAny_mono (hp.run [] _ _ H Q I hq) (fun u s' hs => ?_) fun e s' hs => hs)
  obtain ⟨v', H', J, rv, q⟩ := hs
  exact ⟨v', H', J.os, J.bare, J.base, J.hok, rv, q⟩
theorem LOk.mono {j : Nat} (o : LOk P w K mg base j f L fr dvs tl) (h : j ≤ k) : LOk P w K mg base k f L fr dvs tl := ⟨fun A outer s H ws Q E hr => o.run A outer s H ws Q E (hr.mono h)⟩
end
/-- what the cells held they hold behind anything that keeps the untracked -/
theorem cells_later {fs ex : List Addr} {cl : List (Str × Addr)} {fr : List Str} {ws : List (Option V)} {h h1 : Heap} {H H1 : Hp} (C : CellsAt cl fr ws h H) (nf : ∀ y c, cl.lookup y = some c → c ∉ fs) (nx : ∀ y c, cl.lookup y = some c → c ∉ ex) (u : Un fs ex H H1 h h1) :
    CellsAt cl fr ws h1 H1 := by
  have kp : ∀ y c, cl.lookup y = some c → ∀ v, h.IsCell c v → h1.IsCell c v := fun y c e v ⟨o, ho, hd⟩ => ⟨o, u.keep c o ho (C.all y c e).1 (nf y c e) (nx y c e), hd⟩
  refine ⟨C.len, fun y c e => ?_, C.inj, fun i y e => ?_⟩
  · obtain ⟨n, v, z⟩ := C.all y c e
    refine ⟨?_, v, kp y c e v z⟩
    obtain ⟨o, ho, _⟩ := z
    exact u.free c o ho n (nx y c e)
  · obtain ⟨c, hc, hv⟩ := C.has i y e
    refine ⟨c, hc, fun v ev => ?_⟩
    obtain ⟨uu, r, z⟩ := hv v ev
    exact ⟨uu, r, kp y c hc _ z⟩
/-- no cell of the running frame is one of the frames that run -/
def Far (X : Cx) : Prop := ∀ y c, X.env.cells.lookup y = some c → c ∉ frs X.stack
theorem far_def {X : Cx} {pins : List (Addr × Obj)} {σ : L2.St} {H : Hp} {s : Shared} (I : Inv X pins σ H s) (hf : ∀ y, X.fn y = true) : Far X := fun y c e hm => by
  rcases List.mem_cons.mp (I.stkSub c hm) with z | z
  · exact I.cne y c e z
  · obtain ⟨_, o, ho, _⟩ := I.ok.funs.mem z
    exact Nat.lt_irrefl _ (Nat.lt_of_lt_of_le (Heap.lt_size ho) (I.ok.cab y c (hf y) e))
/-- what is known where a comprehension's block begins -/
structure Blk0 (X : Cx) (σ : L2.St) (s : Shared) (H : Hp) (cl : List (Str × Addr)) (fp : List Addr) : Prop where
  inv : ∃ pins, Inv X pins σ H s ∧ ∀ b ∈ fp, FpOk X pins H b
  far : Far X → ∀ y c, cl.lookup y = some c → c ∉ frs X.stack
theorem blk_far {X : Cx} {pins : List (Addr × Obj)} {σ : L2.St} {H : Hp} {s : Shared} {scope : Scope} (I : Inv X pins σ H s) (hfree : ∀ y ∈ scope.names, y.2 = .free → ∃ c, X.env.cells.lookup y.1 = some c) (F : Far X) :
    ∀ y c, (cellsFrom (s.heap.objs.size + 1) scope.names (cloFrom X.env.cells scope.names [])).lookup y = some c → c ∉ frs X.stack := fun y c e hm => by
  rw [← Heap.size_push s.heap { cls := .type "dict", data := .dict #[] }] at e
  rcases cells_mem (PySem.mem_of_lookup e) with z | ⟨_, z, _⟩
  · rcases cloFrom_mem z with z | ⟨h1, h2⟩
    · cases z
    · obtain ⟨c1, hc⟩ := hfree _ h1 rfl
      have e2 : c = c1 := by
        rw [h2, hc]
        rfl
      exact F y c (by rw [e2]; exact hc) hm
  · rw [Heap.size_push] at z
    obtain ⟨_, o, ho, _⟩ := I.stack.mem hm
    exact Nat.lt_irrefl _ (Nat.lt_of_lt_of_le (Heap.lt_size ho) (Nat.le_of_succ_le z))
end Sv
set_option maxHeartbeats 4000000
namespace Sv
open PySem PySem.Spec PyProof.Rows L2 LamX NdefX
/-- at this state the lambda stands at f, its cells hold ws -/
structure LamAt (P : Program) (w : World) (K : PySem.W.Frag) (mg : Str → Option Value) (base : Heap) (k : Nat) (fs : List Addr) (s : Shared) (H : Hp) (f : Addr) (L : LF) (fr : List Str) (dvs : List V) (ws : List (Option V)) (tl : List (Option V) → XK → Hp → VK → Prop) : Prop where
  fn : H f = some (LamO f L)
  code : H L.c = some (CodeO L.c L.qual)
  dfl : DflAt H L.dV dvs
  ok : LOk P w K mg base k f L fr dvs tl
  cells : CellsAt L.cl fr ws s.heap H
  far : ∀ y c, L.cl.lookup y = some c → c ∉ fs
section
variable {CXg : CXT} {P : Program} {w : World} {K : PySem.W.Frag} {mg : Str → Option Value} {base : Heap} {Ng : List Str} {qg : Str} {sg : Scope} {g : Addr} {cdg : Value} {A : Around} {outer : List Env} {s : Shared} {H : Hp} {Eg : XK}
  {k i : Nat} {a : Str} {pn : List (Addr × Obj)} {xe : Value → Shared → Prop} {W : WX} {E : XK} {f : Addr} {L : LF} {fr : List Str} {dvs : List V} {ws : List (Option V)} {tl : List (Option V) → XK → Hp → VK → Prop} {p1 p2 : Pos}
/-- x() in the def that was handed the lambda -/
theorem pe_actL (LA : LamAt P w K mg base k (frs outer) s H f L fr dvs ws tl) (tk : Takes ((cxOf CXg P w K mg base Ng qg sg g cdg A outer s H Eg).tr pn xe) W)
    (hr : Room k (A.deeper (envOfC qg sg s.heap.objs.size g cdg))) (hN : Ng[i]? = some a) (hv : Vis sg a) (hd : (a == ("__debug__" : Str)) = false := by decide) (hcd : (a == ("__classdict__" : Str)) = false := by decide) :
    PE ((cxOf CXg P w K mg base Ng qg sg g cdg A outer s H Eg).tr pn xe) (.Call (.Name a p1) [] [] p2)
      (fun σZ HZ Q => σZ[i]? = some (some (.ref f)) ∧ HZ f = some (LamO f L) ∧ HZ L.c = some (CodeO L.c L.qual) ∧ DflAt HZ L.dV dvs ∧ ∃ (E' : XK) (Q' : VK), (∀ cls d H', E' cls d H' → W cls d σZ H') ∧ (∀ v H', Q' v H' → Q v H') ∧ tl ws E' HZ Q') := by
  refine ⟨fun pinsZ sZ σZ HZ Q IZ ⟨hs, h1, h2, h3, E', Q', hE, hQ, h4⟩ => ?_⟩
  refine wpAny_Call_Name_kw (thn ((pe_var (pos := p1) hN hv hd hcd).run pinsZ sZ σZ HZ (fun v H1 => v = .ref f ∧ H1 = HZ) IZ ⟨.ref f, hs, rfl, rfl⟩) fun u s1 ⟨v, H1, I1, r1, e1, e2⟩ => ?_)
  subst e1
  subst e2
  obtain rfl : u = Value.ref f := r1
  obtain ⟨od, sl, pm, ctv, ho⟩ := lamO_at I1.hok h1
  refine PySem.W.callWith_F0 ⟨_, _, _, _, ho⟩ ?_
  have C1 : CellsAt L.cl fr ws s1.heap H1 := cells_later (fs := frs outer) (ex := []) LA.cells LA.far (fun y c e z => nomatch z) I1.base
  refine wpAny_call (codeAny_mono (LA.ok.run _ _ s1 H1 ws Q' E' hr I1.env0 h1 h2 h3 C1 h4) fun r s' hq => ?_)
  cases r with
  | error e => exact tk e s' (XE.of_call I1 hE hq)
  | ok fl =>
    cases fl with
    | ret u =>
      obtain ⟨v', H', J, rv, q⟩ := I1.after hq
      exact ⟨v', H', J, rv, hQ _ _ q⟩
    | next => exact False.elim hq
    | brk => exact False.elim hq
    | cont => exact False.elim hq
end
/-- a def of one parameter, its promise told of the very state -/
structure FnSt (P : Program) (w : World) (K : PySem.W.Frag) (mg : Str → Option Value) (base : Heap) (k : Nat) (g : Addr) (Kn : List Addr → Shared → Hp → V → VK → Prop) : Prop where
  run : ∀ (A : Around) (outer : List Env) (s : Shared) (H : Hp) (u : Value) (v : V) (Q : VK), Room k A → Env0 P w K mg base A outer s H → RelV v u → Kn (frs outer) s H v Q → codeAny (model P w) A (.call (.ref g) ⟨[u], []⟩) (CR CX0 outer P w H s Q E0) s
theorem fnst_of {P : Program} {w : World} {K : PySem.W.Frag} {mg : Str → Option Value} {base : Heap} {x : Str} {st : Stmt} {g : Addr} {fd : FuncData} {N : List Str} {a : Str} {k : Nat} {Kn : List Addr → Shared → Hp → V → VK → Prop}
    (F : Fun K x x st g fd) (S : FnScope N [a] (defScope st)) (hb : Binds K fd [a] [])
    (hbody : ∀ (cdv : Value) (A : Around) (outer : List Env) (s : Shared) (H : Hp) (v : V) (Q : VK), Room k (A.deeper (envOfC x (defScope st) s.heap.objs.size g cdv)) → Env0 P w K mg base A outer s H → Kn (frs outer) s H v Q →
      ∃ t, PSs (cxOf CX0 P w K mg base N x (defScope st) g cdv A outer s H E0).nox (defBody st) t ∧ t { nx := fun _ H' => Q .non H', rt := Q } (L2.start N [v]) H) : FnSt P w K mg base (k + 1) g Kn := by
  obtain ⟨oc, od, kV, doc, pm, an, cdv, ct, osl, rfl, lk, hcd⟩ := F.ex
  refine ⟨fun A outer s H u v Q hr e0 r hk => ?_⟩
  refine run_ofS (N := N) (ps := [a]) (us := [u]) (vs := [v]) lk hcd S hr e0 (hb s [u] (e0.mod.kin.keeps fun b o e => (e0.bs b o e).1) rfl) (.cons r .nil) rfl fun hr' => ?_
  obtain ⟨t, ht, hq⟩ := hbody cdv A outer s H v Q hr' e0 hk
  exact ⟨t, ht.nox, hq⟩
section
variable {Y : Cx} {x : Str} {g : Addr} {e : Expr} {te : TE} {k : Nat} {p pos : Pos} {Kn : List Addr → Shared → Hp → V → VK → Prop}
/-- its call -/
theorem pe_callSt (G : FnSt Y.prog Y.w Y.K Y.mg Y.base k g Kn) (hr : Room k Y.A) (hg : Gl Y x) (hm : Y.mg x = some (.ref g)) (hk : PySem.W.keepIn Y.K (.ref g) = true) (he : PE Y e te) (hdb : (x == ("__debug__" : Str)) = false := by decide)
    (hst : starEach [e] Y.env = (false, eval e Y.env) :: starEach [] Y.env := by rfl) : PE Y (.Call (.Name x p) [e] [] pos) (fun σ H Q => te σ H fun v H1 => ∀ pins s, Inv Y pins σ H1 s → Kn (frs Y.stack) s H1 v Q) := by
  refine ⟨fun pins s σ H Q I h => ?_⟩
  refine wpAny_Call_Name_kw (ld_glob I hg hm ?_ hdb)
  refine PySem.W.callWith_K (h₀ := Y.base) I.ok.mod.kin hk (thn ((pa_cons he pa_nil hst).run pos pins s σ H (fun vs H1 => match vs with | [v] => ∀ pins s, Inv Y pins σ H1 s → Kn (frs Y.stack) s H1 v Q | _ => False) I h) fun us s1 ⟨vs, H1, I1, r, q⟩ => ⟨I1.kIn, ?_⟩) hst (by rfl)
  match vs, r, q with
  | [v], r, q =>
    obtain ⟨u, rfl, ru⟩ := Vals.one r
    refine wpAny_call (codeAny_mono (G.run Y.A Y.stack s1 H1 u v Q hr I1.env0 ru (q pins s1 I1)) fun r s' hq => ?_)
    cases r with
    | error e => exact (show False from hq).elim
    | ok fl =>
      cases fl with
      | ret u => exact I1.after hq
      | next => exact False.elim hq
      | brk => exact False.elim hq
      | cont => exact False.elim hq
  | [], _, q => exact q.elim
  | _ :: _ :: _, _, q => exact q.elim
end
end Sv
set_option maxHeartbeats 4000000
namespace Sv
open PySem PySem.Spec PyProof.Rows L2
section
open AutoSeq1 (wpAny_loadPart')
theorem enum_newT (l : Addr) (items : Array Value) (n : Nat) (dct : Option Addr) (sl : Array (Option Value)) :
    Meets (Builtin.«enumerate.__new__» ⟨[.type "enumerate", .ref l], []⟩) (fun _ R s => s.heap.get? l = some { cls := .type "tuple", dict := dct, data := .seq items n, slots := sl } ∧
      R (.ok (.ret (.ref (s.heap.push { cls := .type "tuple_iterator", data := .fields #[.ref l, .int 0 0] }).objs.size)))
        { s with heap := (s.heap.push { cls := .type "tuple_iterator", data := .fields #[.ref l, .int 0 0] }).push { cls := .type "enumerate", data := .fields #[.none, .bool false, .ref s.heap.objs.size, rawInt 0, .none, .none] } }) :=
  .of_wp fun prog w A R s h => by
    obtain ⟨hp, g, d, tk, os⟩ := s
    obtain ⟨hl, h⟩ := h
    have hsub := sub_enumerate
    have hL : Heap.IsTuple (Shared.heap ⟨hp, g, d, tk, os⟩) l items := ⟨_, hl, rfl, n, rfl⟩
    wp_walk using wpAny_loadPart' hl
    refine wpAny_stack_any fun st => wpAny_pure ?_
    split
    · rename_i c _ _ _ _ _
      cases (c == Value.type "enumerate")
      · wp_walk using wpAny_loadPart' hl, wpAny_pyIter_tuple hL
        exact ⟨_, rfl, h⟩
      · wp_walk using wpAny_loadPart' hl, wpAny_pyIter_tuple hL
        exact ⟨_, rfl, h⟩
    · wp_walk using wpAny_loadPart' hl, wpAny_pyIter_tuple hL
      exact ⟨_, rfl, h⟩
end
section
variable {prog : Program} {w : World} {A : Around} {E : Value → Shared → Prop} {s : Shared}
theorem call_enumT {l : Addr} {items : Array Value} {Q : Value → Shared → Prop} (hL : s.heap.IsTuple l items)
    (h : ∀ h', IsEnum h' (s.heap.objs.size + 1) s.heap.objs.size 0 .none → h'.IsTupleIter s.heap.objs.size l 0 → h'.objs.size = s.heap.objs.size + 2 → (∀ b o, s.heap.get? b = some o → h'.get? b = some o) → Q (.ref (s.heap.objs.size + 1)) { s with heap := h' }) :
    wpAny (model prog w) A (call (.type "enumerate") [.ref l]) Q E s := by
  obtain ⟨⟨c, dct, dt, sl⟩, hl, hc, n, hd⟩ := hL
  obtain rfl : c = .type "tuple" := hc
  obtain rfl : dt = .seq items n := hd
  refine callType_new F.called_enumerate (by decide) (F.typeCall_enumerate_1 _) (F.newCall_enumerate_1 _) (fun obj => F.args_object_init_2 obj _) F.entry_enumerate_new (enum_newT l items n dct sl) ⟨hl, ?_⟩
  have hz : ∀ o : Obj, (s.heap.push o).objs.size = s.heap.objs.size + 1 := fun o => Heap.size_push ..
  have g2 : ∀ (o1 o2 : Obj), o2.isFreed = false → ((s.heap.push o1).push o2).get? (s.heap.objs.size + 1) = some o2 := fun o1 o2 e => by
    have q := Heap.get?_push_size (s.heap.push o1) (o := o2) e
    rw [hz] at q
    exact q
  show _ ∧ _
  rw [hz]
  refine ⟨⟨_, g2 _ _ rfl, rfl⟩, h _ (g2 _ _ rfl) ⟨_, Heap.get?_push_of_some _ (Heap.get?_push_size _ rfl), rfl, rfl⟩ (by rw [Heap.size_push, hz]) fun b o y => Heap.get?_push_of_some _ (Heap.get?_push_of_some _ y)⟩
end
/-- a tuple's items with their numbers, each in a new pair -/
def IteT (K : PySem.W.Frag) (a : Addr) : It :=
  ⟨fun i H => ∃ (xs : List V) (x : V), SqT K H a xs ∧ xs[i]? = some x, fun i H v H' => ∃ T x, v = .ref T ∧ H T = none ∧ H' = upd H T (.tup [.int (i : Nat), x]) ∧ ∀ xs, SqT K H a xs → xs[i]? = some x,
    fun i H => ∃ xs : List V, SqT K H a xs ∧ i = xs.length⟩
theorem turn_enumT {P : Program} {w : World} {K : PySem.W.Frag} {elts : List Expr} {kk : Nat} {tpos : Pos} (a e it : Addr) (hai : a ≠ it) (hea : e ≠ a) :
    Turn P w K (.Tuple elts kk tpos) (IteT K a) [e, it] e (fun i h => (∃ old, IsEnum h e it ((i : Nat) : Int) old) ∧ h.IsTupleIter it a i ∧ e ≠ it) where
  mem := by simp
  obj := fun i h st b hb => by
    obtain ⟨⟨old, he⟩, ⟨o, ho, hc, hd⟩, _⟩ := st
    rcases (by simpa using hb : b = e ∨ b = it) with z | z
    · subst z
      exact ⟨_, he, fun v q => nomatch q⟩
    · subst z
      exact ⟨o, ho, fun v q => by rw [hd] at q; cases q⟩
  keep := fun i h h' st k => ⟨st.1.elim fun old he => ⟨old, k e (by simp) _ he⟩, st.2.1.at fun o q => k it (by simp) o q, st.2.2⟩
  item := by
    intro X hP hw hK hc i pins s σ H E I hf st hg
    subst hP hw hK
    obtain ⟨⟨old, he⟩, hit, hne⟩ := st
    obtain ⟨xs, x, hq, hx⟩ := hg
    obtain ⟨its, rv, p, hz⟩ := I.tuple hq
    obtain ⟨u, hu, ru⟩ := rv.get hx
    have hi : i < its.toArray.size := by
      obtain ⟨hlt, _⟩ := List.getElem?_eq_some_iff.mp hu
      simpa using hlt
    have hel : e < s.heap.objs.size := Heap.lt_size he
    have hil : it < s.heap.objs.size := by obtain ⟨_, q, _⟩ := hit; exact Heap.lt_size q
    have hh : X.A.in1.handled = none := by
      have := I.ok.hd hc
      simpa using this
    refine wpAny_pyNext_enum_itemD (Draws.tuple hh it a hai its.toArray) he ⟨hit, p⟩ hi hne (by simp; exact ⟨hne, hea⟩) fun y h' tk hy ho hst' hT hsz hk => ?_
    obtain rfl : y = u := by
      have q : its.toArray[i]? = some y := hy
      rw [show its.toArray[i]? = some u by simpa using hu] at q
      exact (Option.some.inj q).symm
    refine ⟨_, rfl, wpAny_letOwnedTupleGo_enum (s := { s with heap := h', toks := tk + 1 }) ho fun h'' he' sb => ?_⟩
    have hT2 : h''.get? s.heap.objs.size = some { cls := .type "tuple", data := .seq #[.int i tk, y] } := (sb.2 _ (Nat.ne_of_gt hel)).trans hT
    have new : ObjOk X.prog X.w (upd H s.heap.objs.size (.tup [.int (i : Nat), x])) h'' s.heap.objs.size (.tup [.int (i : Nat), x]) :=
      ⟨by show 2 ≤ sizeLine; decide, [.int i tk, y], .cons ⟨_, rfl⟩ (.cons ru .nil), ⟨_, hT2, rfl, _, rfl⟩⟩
    have I1 : Inv X pins σ (upd H s.heap.objs.size (.tup [.int (i : Nat), x])) { s with heap := h'', toks := tk + 1 } :=
      I.turnedNew (ch := [e, it]) (fun b ob hb q => (sb.2 b (fun z => hb (by simp [z]))).trans (hk b ob (fun z => hb (by simp [z])) (fun z => hb (by simp [z])) q)) hf (Nat.le_refl _) new
    refine ⟨.ref s.heap.objs.size, _, I1, rfl, ⟨_, x, rfl, I.hok.fresh (Nat.le_refl _), rfl, fun ys hy => by rw [I.tuple_inj hy hq]; exact hx⟩, ⟨⟨y, ?_⟩, hst'.1.at fun o q => (sb.2 it (Ne.symm hne)).trans q, hne⟩, fun b hb => ?_⟩
    · rw [show ((i + 1 : Nat) : Int) = (i : Int) + 1 by omega]
      exact he'
    · have hb' : b < s.heap.objs.size := by
        rcases (by simpa using hb : b = e ∨ b = it) with z | z
        · rw [z]; exact hel
        · rw [z]; exact hil
      rw [upd_ne (Nat.ne_of_lt hb')]
      exact (hf b hb).1
  done := by
    intro X hP hw hK hc i pins s σ H E I hf st hg
    subst hP hw hK
    obtain ⟨⟨old, he⟩, hit, hne⟩ := st
    obtain ⟨xs, hq, hx⟩ := hg
    obtain ⟨its, rv, p, hz⟩ := I.tuple hq
    obtain ⟨f0, f1, f2, f3, f4, f5⟩ := hf it (by simp)
    have hl := rv.length
    have hh : X.A.in1.handled = none := by
      have := I.ok.hd hc
      simpa using this
    refine wpAny_pyNext_enum_endD (Draws.tuple hh it a hai its.toArray) he ⟨?_, p⟩ fun h' eb => ⟨rfl, I.turned (t' := s.toks) (fun b o hb q => eb b o hb q) f0 f1 f3 f4 f5⟩
    rw [List.size_toArray, ← hl, ← hx]
    exact hit
  self := fun A i s Q E st h => let ⟨⟨_, he⟩, _⟩ := st; wpAny_pyIter_enum he h
def iEnumT (K : PySem.W.Frag) (ta : TA) : TI := fun σ H R => ta σ H fun vs H1 => ∃ a xs, vs = [.ref a] ∧ SqT K H1 a xs ∧ R (IteT K a) H1
theorem pi_enumT {X : Cx} {e : Expr} {ta : TA} {p pos tpos : Pos} {elts : List Expr} {kk : Nat} (hg : Gl X "enumerate") (hm : X.mg "enumerate" = none) (ha : PA X [e] ta) (hs : starEach [e] X.env = [(false, eval e X.env)] := by rfl) :
    PI X (.Tuple elts kk tpos) (.Call (.Name "enumerate" p) [e] [] pos) (iEnumT X.K ta) := by
  refine ⟨fun pins s σ H R I h => ?_⟩
  refine Call_ (ld_blt I hg hm boot_enumerate (PyProof.Rows.callWith_type1 (thn (ha.run pos pins s σ H _ I h) fun us s1 ⟨vs, H1, I1, r1, a, xs, ex, hq, q⟩ => ?_) hs rfl))
  subst ex
  obtain rfl := r1.ref1
  obtain ⟨its, rv, p', hz⟩ := I1.tuple hq
  have hal : a < s1.heap.objs.size := (let ⟨_, q, _⟩ := p'; Heap.lt_size q)
  refine call_enumT p' fun h' he hit hsz hk => wpAny_pyIter_enum he ?_
  have I2 : Inv X pins σ H1 { s1 with heap := h' } := I1.kept (t' := s1.toks) hk
  refine ⟨s1.heap.objs.size + 1, [s1.heap.objs.size + 1, s1.heap.objs.size], _, _, H1, rfl, I2, turn_enumT a (s1.heap.objs.size + 1) s1.heap.objs.size (Nat.ne_of_lt hal) (Nat.ne_of_gt (Nat.lt_succ_of_lt hal)), ⟨⟨.none, he⟩, hit, Nat.succ_ne_self _⟩, fun b hb => ?_, q⟩
  have hle : s1.heap.objs.size ≤ b := by
    rcases (by simpa using hb : b = s1.heap.objs.size + 1 ∨ b = s1.heap.objs.size) with z | z
    · rw [z]; exact Nat.le_add_right _ _
    · rw [z]; exact Nat.le_refl _
  exact I1.fpOk hle (I1.hok.fresh hle)
theorem for_enumT {K : PySem.W.Frag} {a : Addr} {xs : List V} {g : TG} {tb : TS} {D : Ends} {σ : L2.St} {H : Hp} (Pv : Nat → L2.St → Hp → Prop) (h0 : Pv 0 σ H) (hl : ∀ i σ H, i ≤ xs.length → Pv i σ H → SqT K H a xs)
    (turn : ∀ i x σ H T, xs[i]? = some x → Pv i σ H → H T = none → g (.ref T) σ (upd H T (.tup [.int (i : Nat), x])) fun σ' H' => tb { nx := fun σ2 H2 => Pv (i + 1) σ2 H2, rt := D.rt, bk := D.nx, ct := fun σ2 H2 => Pv (i + 1) σ2 H2 } σ' H')
    (after : ∀ σ H, Pv xs.length σ H → D.nx σ H) : ∃ W : Nat → Nat → L2.St → Hp → Prop, (∃ m, W 0 m σ H) ∧ ∀ i m σ H, W i m σ H →
      ((IteT K a).stop i H ∧ D.nx σ H) ∨ ((IteT K a).go i H ∧ ∃ Nx : L2.St → Hp → Prop, (∀ σ' H', Nx σ' H' → ∃ m', m' < m ∧ W (i + 1) m' σ' H') ∧ ∀ x H', (IteT K a).yld i H x H' → g x σ H' fun σ2 H2 => tb { nx := Nx, rt := D.rt, bk := D.nx, ct := Nx } σ2 H2) := by
  refine ⟨fun i m σ H => i + m = xs.length ∧ Pv i σ H, ⟨xs.length, Nat.zero_add _, h0⟩, fun i m σ H ⟨em, hP⟩ => ?_⟩
  have hS := hl i σ H (by omega) hP
  by_cases hi : i < xs.length
  · have gx : xs[i]? = some xs[i] := List.getElem?_eq_getElem hi
    refine .inr ⟨⟨xs, _, hS, gx⟩, fun σ' H' => Pv (i + 1) σ' H', fun σ' H' h => ⟨m - 1, by omega, by omega, h⟩, fun x H' hy => ?_⟩
    obtain ⟨T, y, rfl, nT, rfl, hy⟩ := hy
    have ey : y = xs[i] := Option.some.inj ((hy xs hS).symm.trans gx)
    rw [ey]
    exact turn i _ σ H T gx hP nT
  · have e : i = xs.length := by omega
    refine .inl ⟨⟨xs, hS, e⟩, after σ H ?_⟩
    rw [← e]
    exact hP
theorem nodup_sub_len : ∀ {l m : List Int}, l.Nodup → (∀ x ∈ l, x ∈ m) → l.length ≤ m.length
  | [], _, _, _ => Nat.zero_le _
  | x :: r, m, nd, h => by
    have hx : x ∈ m := h x (List.mem_cons_self ..)
    have nr := (List.nodup_cons.mp nd)
    have ih := nodup_sub_len (l := r) (m := m.erase x) nr.2 fun y hy => (List.mem_erase_of_ne (fun e => nr.1 (by rw [← e]; exact hy))).mpr (h y (List.mem_cons_of_mem _ hy))
    rw [List.length_erase_of_mem hx] at ih
    have : 0 < m.length := List.length_pos_of_mem hx
    show r.length + 1 ≤ m.length
    omega
theorem nodup_of_len : ∀ {l m : List Int}, m.Nodup → (∀ x ∈ m, x ∈ l) → l.length ≤ m.length → l.Nodup
  | [], _, _, _, _ => List.nodup_nil
  | x :: r, m, nd, h, hl => by
    have hx : x ∉ r := fun hm => by
      have q := nodup_sub_len (l := m) (m := r) nd fun y hy => (List.mem_cons.mp (h y hy)).elim (fun e => by rw [e]; exact hm) id
      simp at hl
      omega
    refine List.nodup_cons.mpr ⟨hx, nodup_of_len (m := m.erase x) (nd.erase x) (fun y hy => ?_) ?_⟩
    · have hm := List.mem_of_mem_erase hy
      rcases List.mem_cons.mp (h y hm) with e | e
      · rw [e] at hy
        exact absurd hy (nd.not_mem_erase)
      · exact e
    · by_cases hm : x ∈ m
      · rw [List.length_erase_of_mem hm]
        simp at hl
        omega
      · rw [List.erase_of_not_mem hm]
        simp at hl
        omega
/-- how many: all of them, just where none stands twice -/
def tLenSetT (K : PySem.W.Frag) (ta : TE) : TE := fun σ H Q => ta σ H fun x H1 => ∃ (l : Addr) (ns : List Int), x = .ref l ∧ SqT K H1 l (ns.map V.int) ∧ ns.length ≤ 4000 ∧ ∀ c : Nat, c ≤ ns.length → (c = ns.length ↔ ns.Nodup) → Q (.int c) H1
theorem pe_lenSetT {X : Cx} {a : Expr} {ta : TE} {p p2 q pos : Pos} (hg : Gl X "len") (hm : X.mg "len" = none) (hg2 : Gl X "set") (hm2 : X.mg "set" = none) (ha : PE X a ta) (hc : X.calm = true := by rfl)
    (na : starEach [a] X.env = (false, eval a X.env) :: starEach [] X.env := by rfl) : PE X (.Call (.Name "len" p) [.Call (.Name "set" p2) [a] [] q] [] pos) (tLenSetT X.K ta) := by
  refine ⟨fun pins s σ H Q I h => Call_ (ld_blt I hg hm boot_len ?_)⟩
  refine PyProof.Rows.callWith_builtin1 (PyProof.Rows.args_cons (Call_ (ld_blt I hg2 hm2 boot_set ?_)) rfl) rfl rfl
  refine PyProof.Rows.callWith_type1 (PyProof.Rows.args_cons (thn (ha.run pins s σ H _ I h) fun v s1 ⟨x, H1, I1, r1, q1⟩ => PyProof.Rows.args_nil ?_) na) na rfl
  obtain ⟨l, ns, rfl, hq, hl, q1⟩ := q1
  cases r1
  obtain ⟨its, r, pl, hz⟩ := I1.tuple hq
  refine call_set_tupI ns (I1.ok.hd hc) pl (by simpa using RZ.intsAre_vals r) (by unfold scanBound; omega) fun h' tk c hS hcl hk => PyProof.Rows.args_nil ?_
  obtain ⟨o, es, ep, t, ho, hex, hd, _, nd, hmem, _, hf, hn, _⟩ := hS
  have I2 : Inv X pins σ H1 { s1 with heap := h', toks := tk } := I1.kept hk
  have hmm : ∀ k, k ∈ es.toList.map keyOf ↔ k ∈ ns := fun k => by rw [← hmem k]; exact decide_eq_true_iff
  have hlen : (es.toList.map keyOf).length = c := by rw [List.length_map, Array.length_toList]; exact hn
  refine call_len_set ho hex hd hf (by rw [hn] <;> omega) ⟨.int c, H1, I2.tok _, ⟨_, by rw [hn]⟩, q1 c hcl ⟨fun e => ?_, fun e => ?_⟩⟩
  · exact nodup_of_len nd (fun x hx => (hmm x).mp hx) (by rw [hlen, e]; exact Nat.le_refl _)
  · have q := nodup_sub_len e fun x hx => (hmm x).mpr hx
    rw [hlen] at q
    omega
end Sv
set_option maxHeartbeats 4000000
namespace Sv
open PySem PySem.Spec PyProof.Rows L2
def topS (i : Nat) : Stmt := PySem.Challenge.pw_swapshelves_k51_texts_round_trip.main.body.getD i (.Pass ⟨0, 0, 0, 0⟩)
abbrev sInvalidPlan : Stmt := topS 2
abbrev sInvalidText : Stmt := topS 4
abbrev sWithin : Stmt := topS 6
abbrev sCheckPlan : Stmt := topS 12
abbrev sCheckSizes : Stmt := topS 13
abbrev sCheckRoutes : Stmt := topS 14
abbrev sIsRoute : Stmt := topS 15
abbrev sJoin : Stmt := topS 18
abbrev sCheckState : Stmt := topS 22
abbrev sFits : Stmt := topS 23
abbrev sTupOf : Stmt := topS 24
abbrev sParcels : Stmt := topS 25
abbrev sFormatPlan : Stmt := topS 28
abbrev sParsePlan : Stmt := topS 29
abbrev sFormatState : Stmt := topS 30
abbrev sParseState : Stmt := topS 31
abbrev sLineOf : Stmt := topS 32
abbrev sTextOfEntry : Stmt := topS 33
abbrev sItemsOfLine : Stmt := topS 34
abbrev sItemOfText : Stmt := topS 35
abbrev sTimeOfLine : Stmt := topS 36
abbrev sIsNumber : Stmt := topS 37
abbrev sNumberOfText : Stmt := topS 38
abbrev sStart : Stmt := topS 40
abbrev sDrawn : Stmt := topS 41
abbrev sSame : Stmt := topS 42
abbrev sOutcome : Stmt := topS 43
abbrev sRndPlan : Stmt := topS 44
abbrev sRndRoute : Stmt := topS 45
abbrev sRndState : Stmt := topS 46
abbrev sInteger : Stmt := topS 47
abbrev sPlanOf : Stmt := topS 48
abbrev sStOf : Stmt := topS 49
abbrev sChanged : Stmt := topS 50
abbrev sLaw : Stmt := topS 51
end Sv
set_option maxHeartbeats 4000000
namespace Sv
open PySem PySem.Spec PyProof.Rows L2 NdefX
section
open PySem.W PySem.Calls
variable {prog : Program} {w : World} {A : Around} {E : Value → Shared → Prop} {h : Heap} {g : Array GenState} {d : Drawn} {t : Nat} {os : OsState}
variable {nm q : Str} {C N : Addr} {bs bm : List Value} {hdct : Bool} {sn : List Str} {sub : List Value} {ab : Bool} {col : Option Bool} {dd : Option Addr} {k0 k1 k2 k3 k5 : Option Value}
/-- the bound ValueError.__init__, called -/
theorem call_mw {u e t0 : Addr} {rest : List Value} {Q : Value → Shared → Prop}
    (hC : h.get? C = some (excClassObj nm q C N bs bm hdct sn sub ab col dd k0 k1 k2 k3 k5 "ValueError.__new__")) (he : h.get? e = some (HandSPX.excO C t0)) (hu : h.get? u = some (kxs_mw "ValueError.__init__" e)) (hrest : rest.length ≤ sizeLine)
    (hq : ∀ h' t1, (∀ b o, b ≠ e → h.get? b = some o → h'.get? b = some o) → h'.get? e = some (HandSPX.excO C t1) → Q .none ⟨h', g, d, t, os⟩) :
    wpAny (model prog w) A (call (.ref u) rest) Q E ⟨h, g, d, t, os⟩ := by
  refine wpAny_call (codeAny_of_tree ?_)
  show wpAny _ A.in1 (callAny (.ref u) ⟨rest, []⟩) _ _ _
  simp only [callAny]
  refine wpAny_bind (wpAny_load hu ?_)
  simp only [kxs_mw, show (Value.type "method-wrapper" == Value.type "method" || Value.type "method-wrapper" == Value.type "builtin_function_or_method" || Value.type "method-wrapper" == Value.type "method-wrapper") = true by decide, if_true]
  refine W.KFB.if_so (by decide) ?_
  refine wpAny_bind (ESX.check_bound F.excBase_ValueError hC he rfl ?_)
  refine wpAny_bind (wpAny_pure (wpAny_pure ?_))
  refine ⟨Code.quiet_builtin _ (by decide +kernel), codeAny_builtin F.excBase_ValueError.initEntry ?_⟩
  rw [Around.under_plainId F.excBase_ValueError.init.plain _]
  wp_walk
  refine hq _ h.objs.size (fun b o hb ho => ?_) ?_
  · rw [Heap.get?_update_other _ _ (Ne.symm hb)]
    exact Heap.get?_push_of_some _ ho
  · rw [Heap.get?_update_self _ (Heap.get?_push_of_some _ he) rfl]
    rfl
end
/-- what is asked of such a class and of its __init__ -/
structure SupF (P : Program) (K : PySem.W.Frag) (mg : Str → Option Value) (C fI cc : Addr) (F : NF) (ar : Arg) : Prop where
  T : OexC K C
  cl : F.cl = [(("__class__" : Str), cc)]
  cell : ∃ cl cld csl, K.lookup cc = some ⟨cl, cld, .cell (some (.ref C)), csl⟩
  code : PySem.W.codeIn K (.ref F.c) F.qual = true
  file : ∃ (ccl : Value) (cdd : Option Addr) (vs : Array Value) (ccs : Array (Option Value)) (fl : Str) (tf : Tok), K.lookup F.c = some ⟨ccl, cdd, .fields vs, ccs⟩ ∧ vs[2]? = some (.str fl tf) ∧ ((P.main.file : Str) == fl) = true
  top : (P.main.scope.names.lookup ("super" : Str)).isSome = false
  sup : mg "super" = none
  ks : F.scope.names.lookup ("super" : Str) = some .globalImplicit
  kc : F.scope.names.lookup ("__class__" : Str) = some .free
  hp : (F.params.posonlyargs ++ F.params.args).head? = some ar
  hs : PySem.W.ks_superIn K C C "__init__" = some (some (.builtin "ValueError.__init__"))
  ho : PySem.W.nsIn K PySem.cStatics "thirdparty.any" = some none
  hB : PySem.W.subIn K (.ref C) (.type "ValueError") = some true
  hm : PySem.W.mroIn K C (.ref C) = some true
section
variable {P : Program} {w : World} {K : PySem.W.Frag} {mg : Str → Option Value} {base : Heap} {C fI cc : Addr} {F : NF} {ar : Arg}
theorem boot_super : bootBuiltins "super" = some (.type "super") := by decide +kernel
/-- super().__init__(e) as a statement -/
theorem sup_stmt {X : Cx} {pins : List (Addr × Obj)} {σ : L2.St} {H : Hp} {s : Shared} {a : Addr} {e : Expr} {te : TE} {p0 p1 p2 p3 p4 : Pos} {body : List Stmt} {Q : Flow → Shared → Prop} (S : SupF X.prog X.K X.mg C fI cc F ar) (I : Inv X pins σ H s)
    (henv : X.env = envF F fI X.env.locals) (hf : ∃ oc od osl doc pm ctv, X.K.lookup fI = some ⟨oc, od, .func (F.fd doc pm ctv), osl⟩) (hi : X.N[0]? = some ar.arg) (hσ : σ[0]? = some (some (.ref a))) (hv : X.env.scope.names.lookup ar.arg = some .local) (ha : H a = some (exo a C none)) (he : PE X e te)
    (hst : starEach [e] X.env = (false, eval e X.env) :: starEach [] X.env)
    (hev : ∃ pl, eval (.Call (.Attribute (.Call (.Name "super" p0) [] [] p1) "__init__" p2) [e] [] p3) X.env = (do
      let ov ← attributeBase (.Call (.Name "super" p0) [] [] p1) "__init__" X.env (eval (.Call (.Name "super" p0) [] [] p1) X.env)
      standAt p2.atName
      let (f, first) ← holding [ov] (getMethod ov "__init__" pl)
      callWith p3 f first (backTo p3 (starEach [e] X.env)) []))
    (hin : interactive X.env = false) (hsw : swapsWith (.Call (.Attribute (.Call (.Name "super" p0) [] [] p1) "__init__" p2) [e] [] p3) none p4.line X.env = pure false)
    {W : VK} (h : te σ H W) (hW : ∀ v H1, W v H1 → H1 a = some (exo a C none) ∧ ∀ s', Inv X pins σ H1 s' → Q .next s') :
    _root_.PySem.wpAt (model X.prog X.w) X.A (.func body X.env) (exec (.Expr (.Call (.Attribute (.Call (.Name "super" p0) [] [] p1) "__init__" p2) [e] [] p3) p4) X.env) Q X.xe s := by
  obtain ⟨pl, hev⟩ := hev
  refine PySem.ks_wpAt_Expr_any ?_ hin hsw
  refine PySem.ks_wpAt_MethodCall (pl := pl) ?_ hev
  have KX : X.K.In s.heap := I.kIn
  obtain ⟨cl, cld, csl, hcell⟩ := S.cell
  obtain ⟨ccl, cdd, vs, ccs, fl, tf, hcode, hvs, hfile⟩ := S.file
  obtain ⟨oc, od, osl, doc, pm, ctv, hfo⟩ := hf
  obtain ⟨nm, q, N, bs, bm, sn, sub, ab, col, dd, k0, k1, k2, k3, k5, hC, hbm⟩ := S.T.cls
  have hcl : PySem.W.clsIn X.K C = some { name := nm, bases := bs, mro := .ref C :: bm, ns := N, qualname := q, hasDict := true, slotNames := sn, subclasses := sub, abstract := ab, collection := col, hasDel := false } := by unfold PySem.W.clsIn; rw [hC] <;> rfl
  have ek : ∀ y, X.env.kindOf y = F.scope.names.lookup y := fun y => by rw [henv]; rfl
  have efn : X.env.func = some fI := by rw [henv]
  have eco : X.env.code = .ref F.c := by rw [henv]
  have ecl : X.env.cells = F.cl := by rw [henv]
  refine PySem.ks_wpAt_super_base (ar := ar) (by rw [ek]; exact S.ks) (by rw [ek]; exact S.kc) (by decide) efn (KX _ _ hfo) rfl S.hp eco (KX _ _ hcode) rfl hvs hfile S.top ?_
  obtain ⟨mb, hb1, hb2⟩ := I.mod.blt
  refine PySem.W.ks_loadName_global I.ok.kind (by rw [ek]; exact S.ks) (Calls.loadGlobal_builtin (by rw [I.ok.glob]; exact I.mod.glob.keeps I.bk) S.sup (by rw [I.ok.blt]; exact hb1.keeps I.bk) ((hb2 _ (by decide +kernel)).trans boot_super) ⟨rfl, ?_⟩)
  refine wpAny_loadName_free I.ok.kind (by rw [ek]; exact S.kc) (c := cc) (by rw [ecl, S.cl]; rfl) ⟨_, KX _ _ hcell, rfl⟩ ?_
  obtain ⟨m, hn, hl⟩ := I.loc
  obtain ⟨ua, rua, la⟩ := hl 0 ar.arg (.ref a) hi hσ (.inl hv)
  obtain rfl : ua = Value.ref a := rua
  have hma : m ar.arg = some (.ref a) := by
    rcases la with ⟨_, z⟩ | ⟨z, _⟩
    · exact z
    · have hv' : X.env.kindOf ar.arg = some .local := hv
      rcases z with z | z <;> rw [hv'] at z <;> cases z
  refine wpAny_loadName_local I.ok.kind hv hn hma ?_
  refine PySem.ks_wpAny_isType_cls (KX _ _ hC) rfl ⟨rfl, ?_⟩
  obtain ⟨t1, hoa⟩ := exo_at I.hok ha
  obtain ⟨hp, g, d, tk, os⟩ := s
  refine PySem.ks_wpAny_call_super (C := C) (KX _ _ hC) rfl hoa rfl (fun c z => nomatch z) (PySem.W.looks_mroIn KX S.hm) (fun h' hso kp => ?_)
  have I1 : Inv X pins σ H ⟨h', g, d, tk, os⟩ := I.kept (t' := tk) kp
  have KX1 := I1.kIn
  have IA : PySem.W.InstAt h' a { cls := .ref C, dict := none, data := .fields #[.ref t1, .none, .none, .none, .bool false, .none] } C none := ⟨kp _ _ hoa, rfl, rfl, trivial⟩
  have hm := S.hs
  unfold PySem.W.ks_superIn at hm
  rw [hcl] at hm
  refine PySem.W.kxs_getMethod PySem.W.kxs_ValueError hso (PySem.W.looks_opaque KX1 S.ho) (l₀ := .ref C :: bm) (fun A Q E s k q => wpAny_bind ((PySem.W.looks_clsIn KX1 hcl) A _ E s k (wpAny_pure q))) rfl KX1 hm (IA.type.andThen (PySem.W.looks_subIn KX1 S.hB)) (PySem.W.ks_ne KX1 IA hcl) (by decide) ?_
  have hmw : (h'.push (PySem.W.kxs_mw "ValueError.__init__" a)).get? h'.objs.size = some (PySem.W.kxs_mw "ValueError.__init__" a) := Heap.get?_push_size _ rfl
  have I2 : Inv X pins σ H ⟨h'.push (PySem.W.kxs_mw "ValueError.__init__" a), g, d, tk + 1, os⟩ := I1.kept (t' := tk + 1) fun b o e => Heap.get?_push_of_some _ e
  generalize hG : h'.push (PySem.W.kxs_mw "ValueError.__init__" a) = G at hmw I2
  have fpo : FpOk X pins H h'.objs.size := I1.fpOk (Nat.le_refl _) (I1.hok.fresh (Nat.le_refl _))
  have I3 := I2.pinned (fp := [h'.objs.size]) (fun b hb => by rw [List.mem_singleton.mp hb]; exact fpo) (fun b hb => by rw [List.mem_singleton.mp hb]; exact ⟨_, hmw, fun v z => nomatch z⟩)
  have hpl : (backTo p3 (starEach [e] X.env)).any (·.1) = false := by rw [hst]; rfl
  refine PySem.W.kxs_callWith (i := "ValueError.__init__") (x := a) hpl ?_
  rw [hst]
  refine PySem.Calls.evalArgs_plain ?_
  show wpAny _ _ (spliced (backTo p3 ((false, eval e X.env) :: starEach [] X.env))) _ _ _
  rw [← hst]
  refine wpAny_mono ((pa_cons he pa_nil hst).run p3 _ _ σ H (fun vs H1 => match vs with | [v] => W v H1 | _ => False) I3 h) (fun us s1 hs => ?_) fun _ _ x => x
  · obtain ⟨vs1, H1, J, rv, hw⟩ := hs
    obtain ⟨v, rfl, ea, hq⟩ : ∃ v, vs1 = [v] ∧ H1 a = some (exo a C none) ∧ ∀ s', Inv X pins σ H1 s' → Q .next s' := by
      match vs1, hw with
      | [v], hw => exact ⟨v, rfl, hW v H1 hw⟩
      | [], hw => exact hw.elim
      | _ :: _ :: _, hw => exact hw.elim
    obtain ⟨u, rfl, ru⟩ := Vals.one rv
    have hpin := (J.pin (h'.objs.size, _) (List.mem_append_right _ (List.mem_append_right _ (mem_pinsAt (List.mem_singleton.mpr rfl) hmw)))).1
    refine ⟨hpin, ?_⟩
    obtain ⟨t2, hoa2⟩ := exo_at J.hok ea
    obtain ⟨hp1, g1, d1, tk1, os1⟩ := s1
    refine call_mw (J.kIn _ _ hC) hoa2 hpin (by show 1 ≤ sizeLine; decide) fun h3 t3 k3 hx => ?_
    have J2 := J.write (t' := tk1) (x := a) (e := a) (o := exo a C none) (by rw [ea]; exact True.intro) (.inl rfl) k3 ⟨_, hx⟩ (exo_ok hx)
    have eu : upd H1 a (exo a C none) = H1 := by
      funext b
      by_cases hb : b = a
      · rw [hb, upd_same, ea]
      · rw [upd_ne hb]
    rw [eu] at J2
    exact hq _ J2.unpinned
/-- THE RULE for such an __init__ -/
theorem fnOk_sup {N ps : List Str} {e : Expr} {rest : List Stmt} {p0 p1 p2 p3 p4 : Pos} {sp : Sp} {k : Nat} {oc : Value} {od : Option Addr} {osl : Array (Option Value)} {doc pm ctv : Value} (S : SupF P K mg C fI cc F ar) (lk : K.lookup fI = some ⟨oc, od, .func (F.fd doc pm ctv), osl⟩)
    (NS : NScope N ps ["__class__"] F.scope) (hN : N[0]? = some ar.arg) (hv : F.scope.names.lookup ar.arg = some .local) (hbd : F.body = .Expr (.Call (.Attribute (.Call (.Name "super" p0) [] [] p1) "__init__" p2) [e] [] p3) p4 :: rest)
    (len : ∀ vs H Q E, sp vs H Q E → vs.length = ps.length)
    (hst : ∀ env, starEach [e] env = (false, eval e env) :: starEach [] env)
    (hev : ∀ L, ∃ pl, eval (.Call (.Attribute (.Call (.Name "super" p0) [] [] p1) "__init__" p2) [e] [] p3) (envF F fI L) = (do
      let ov ← attributeBase (.Call (.Name "super" p0) [] [] p1) "__init__" (envF F fI L) (eval (.Call (.Name "super" p0) [] [] p1) (envF F fI L))
      standAt p2.atName
      let (f, first) ← holding [ov] (getMethod ov "__init__" pl)
      callWith p3 f first (backTo p3 (starEach [e] (envF F fI L))) []))
    (hin : ∀ L, interactive (envF F fI L) = false) (hsw : ∀ L, swapsWith (.Call (.Attribute (.Call (.Name "super" p0) [] [] p1) "__init__" p2) [e] [] p3) none p4.line (envF F fI L) = pure false)
    (hbody : ∀ (A : Around) (outer : List Env) (s : Shared) (H : Hp) (vs : List V) (Q : VK) (E : XK), Room k (A.deeper (envF F fI s.heap.objs.size)) → sp vs H Q E →
      ∃ (a : Addr) (te : TE) (tr : TS), (startF N vs [some (.ref C)])[0]? = some (some (.ref a)) ∧ H a = some (exo a C none) ∧ PE (ncx CX0 P w K mg base N F fI A outer s H E) e te ∧ PSs (ncx CX0 P w K mg base N F fI A outer s H E) rest tr ∧
        te (startF N vs [some (.ref C)]) H fun _ H1 => H1 a = some (exo a C none) ∧ tr { nx := fun _ H' => Q .non H', rt := Q } (startF N vs [some (.ref C)]) H1) :
    FnOk P w K mg base CX0 (k + 1) fI (F.fd doc pm ctv) ps sp := by
  refine ⟨len, fun A outer s H args us vs Q E hr e0 hbi r hsp => ?_⟩
  have KX : K.In s.heap := e0.mod.kin.keeps fun b o e => (e0.bs b o e).1
  have nT : ∀ b o, K.lookup b = some o → H b = none := fun b o e => (e0.bs b o (e0.mod.kin b o e)).2
  have lim : s.heap.NoLimit := e0.mod.nolimit.keeps fun b o e => (e0.bs b o e).1
  obtain ⟨cl, cld, csl, hcell⟩ := S.cell
  have hl := len _ _ _ _ hsp
  have ecl : ∀ y c, F.cl.lookup y = some c → y = "__class__" ∧ c = cc := fun y c e => by
    rw [S.cl] at e
    by_cases h : y = "__class__"
    · subst h
      exact ⟨rfl, (Option.some.inj e).symm⟩
    · have h2 : (y == ("__class__" : Str)) = false := by simpa using h
      simp [List.lookup, h2] at e
  have CA : CellsAt F.cl ["__class__"] [some (.ref C)] s.heap H := by
    refine ⟨rfl, fun y c e => ?_, fun x y c e1 e2 => (ecl x c e1).1.trans (ecl y c e2).1.symm, fun i y e => ?_⟩
    · obtain ⟨rfl, rfl⟩ := ecl y c e
      exact ⟨nT _ _ hcell, _, _, KX _ _ hcell, rfl⟩
    · have hi : i = 0 ∧ y = "__class__" := by
        cases i with
        | zero => exact ⟨rfl, (Option.some.inj e).symm⟩
        | succ n => simp at e
      obtain ⟨rfl, rfl⟩ := hi
      refine ⟨cc, by rw [S.cl]; rfl, fun v ev => ?_⟩
      obtain rfl : V.ref C = v := Option.some.inj (Option.some.inj ev)
      exact ⟨.ref C, rfl, _, KX _ _ hcell, rfl⟩
  refine PySem.ks_codeAny_call_defAt (body := F.body) hr.depth (KX _ _ lk) rfl lim (PySem.W.codeRec_of KX S.code) rfl hbi NS.nocell (fun ⟨n, _⟩ hy => NS.par n (List.of_mem_zip hy).1) (fun h₁ hns kp => ?_) NS.co NS.gen NS.kind
  have I : Inv (ncx CX0 P w K mg base N F fI A outer s H E) [] (startF N vs [some (.ref C)]) H { s with heap := h₁, toks := s.toks + (ps.zip us).length } := inv_startN NS hr.hd e0 (by rw [hl]) r CA hns kp
  obtain ⟨a, te, tr, h0, ha, he, hp, hq⟩ := hbody A outer s H vs Q E (hr.deeper _) hsp
  show _root_.PySem.wpAt _ (A.deeper (envF F fI s.heap.objs.size)) (.func F.body (envF F fI s.heap.objs.size)) (execs F.body (envF F fI s.heap.objs.size)) _ _ _
  rw [hbd]
  refine PySem.ks_wpAt_execs_cons ?_
  refine sup_stmt (X := ncx CX0 P w K mg base N F fI A outer s H E) (te := te) S I rfl ⟨oc, od, osl, doc, pm, ctv, lk⟩ hN h0 hv ha he (hst _) (hev _) (hin _) (hsw _) hq fun v H1 hw => ⟨hw.1, fun s' J => ?_⟩
  refine _root_.PySem.wpAt_of_wpAny (wpAny_mono (hp.run [] s' (startF N vs [some (.ref C)]) H1 _ J hw.2) (fun fl s2 hs => ?_) fun e s2 hs => hs)
  have fin : ∀ {σ' : L2.St} {H' : Hp} {v : V} {u : Value}, Inv (ncx CX0 P w K mg base N F fI A outer s H E) [] σ' H' s2 → L2.RelV v u → Q v H' → CE outer P w H s Q u s2 :=
    fun {σ' H' v u} J rv q => ⟨v, H', J.os, J.bare, J.base, J.hok, rv, q⟩
  cases fl with
  | ret u =>
    obtain ⟨v, σ', H', J, rv, q⟩ := hs
    exact fin J rv q
  | next =>
    obtain ⟨σ', H', J, q⟩ := hs
    exact fin (v := V.non) (u := Value.none) J rfl q
  | brk =>
    obtain ⟨_, _, _, q⟩ := hs
    exact False.elim q
  | cont =>
    obtain ⟨_, _, _, q⟩ := hs
    exact False.elim q
end
end Sv
set_option maxHeartbeats 1000000
namespace Sv
/-- a list of each number below its length once -/
def Eff (e : List Nat) : Prop := (∀ x ∈ e, x < e.length) ∧ e.Nodup
def ap (e : List Nat) (x : Nat) : Nat := e.getD x 0
def it (e : List Nat) : Nat → Nat → Nat
  | 0, x => x
  | k + 1, x => ap e (it e k x)
theorem ap_at {e : List Nat} {x : Nat} (h : x < e.length) : e[x]? = some (ap e x) := by
  unfold ap
  rw [List.getD_eq_getElem?_getD, List.getElem?_eq_getElem h]
  rfl
theorem ap_lt {e : List Nat} (E : Eff e) {x : Nat} (h : x < e.length) : ap e x < e.length := E.1 _ (List.mem_of_getElem? (ap_at h))
theorem ap_inj {e : List Nat} (E : Eff e) {x y : Nat} (hx : x < e.length) (hy : y < e.length) (q : ap e x = ap e y) : x = y := by
  have h1 := ap_at hx
  have h2 := ap_at hy
  rw [q, ← h2] at h1
  rw [List.getElem?_eq_getElem hx, List.getElem?_eq_getElem hy] at h1
  exact (List.getElem_inj E.2).mp (Option.some.inj h1)
theorem it_lt {e : List Nat} (E : Eff e) : ∀ {k x : Nat}, x < e.length → it e k x < e.length
  | 0, _, h => h
  | k + 1, _, h => ap_lt E (it_lt E h)
theorem it_add (e : List Nat) (a b x : Nat) : it e (a + b) x = it e a (it e b x) := by
  induction a with
  | zero =>
    rw [Nat.zero_add]
    rfl
  | succ a ih =>
    rw [Nat.succ_add]
    show ap e (it e (a + b) x) = ap e (it e a (it e b x))
    rw [ih]
theorem it_inj {e : List Nat} (E : Eff e) : ∀ {k x y : Nat}, x < e.length → y < e.length → it e k x = it e k y → x = y
  | 0, _, _, _, _, q => q
  | k + 1, _, _, hx, hy, q => it_inj (k := k) E hx hy (ap_inj E (it_lt E hx) (it_lt E hy) q)
theorem nat_sub_len : ∀ {l m : List Nat}, l.Nodup → (∀ x ∈ l, x ∈ m) → l.length ≤ m.length
  | [], _, _, _ => Nat.zero_le _
  | x :: r, m, nd, h => by
    have hx : x ∈ m := h x (List.mem_cons_self ..)
    have nr := (List.nodup_cons.mp nd)
    have ih := nat_sub_len (l := r) (m := m.erase x) nr.2 fun y hy => (List.mem_erase_of_ne (fun e => nr.1 (by rw [← e]; exact hy))).mpr (h y (List.mem_cons_of_mem _ hy))
    rw [List.length_erase_of_mem hx] at ih
    have := List.length_pos_of_mem hx
    show r.length + 1 ≤ m.length
    omega
theorem below_len {l : List Nat} {n : Nat} (nd : l.Nodup) (h : ∀ x ∈ l, x < n) : l.length ≤ n := by
  have q := nat_sub_len (m := List.range n) nd fun x hx => List.mem_range.mpr (h x hx)
  rwa [List.length_range] at q
theorem least {P : Nat → Prop} : (∃ k, P k) → ∃ k, P k ∧ ∀ j, j < k → ¬ P j := by
  intro ⟨k, hk⟩
  induction k using Nat.strongRecOn with
  | _ k ih =>
    by_cases h : ∃ j, j < k ∧ P j
    · obtain ⟨j, hj, pj⟩ := h
      exact ih j hj pj
    · exact ⟨k, hk, fun j hj pj => h ⟨j, hj, pj⟩⟩
theorem map_nodup {f : Nat → Nat} {n : Nat} (h : ∀ i j, i < j → j < n → f i ≠ f j) : ((List.range n).map f).Nodup := by
  refine List.pairwise_iff_getElem.mpr fun i j hi hj hij => ?_
  have hi' : i < n := by simpa using hi
  have hj' : j < n := by simpa using hj
  simp only [List.getElem_map, List.getElem_range]
  exact h i j hij hj'
theorem returns {e : List Nat} (E : Eff e) {s : Nat} (hs : s < e.length) : ∃ k, 1 ≤ k ∧ k ≤ e.length ∧ it e k s = s := by
  by_cases h : ∃ i j, i < j ∧ j < e.length + 1 ∧ it e i s = it e j s
  · obtain ⟨i, j, hij, hj, q⟩ := h
    refine ⟨j - i, by omega, by omega, ?_⟩
    have e1 : it e j s = it e i (it e (j - i) s) := by
      rw [← it_add]
      congr 1
      omega
    rw [e1] at q
    exact (it_inj (k := i) E hs (it_lt E hs) q).symm
  · have nd := map_nodup (f := fun k => it e k s) (n := e.length + 1) fun i j hij hj q => h ⟨i, j, hij, hj, q⟩
    have hl := below_len nd (n := e.length) fun x hx => by
      obtain ⟨k, _, rfl⟩ := List.mem_map.mp hx
      exact it_lt E hs
    simp at hl
    omega
/-- the period of a place -/
noncomputable def per (e : List Nat) (s : Nat) : Nat := open Classical in if h : ∃ k, (1 ≤ k ∧ it e k s = s) then Classical.choose (least h) else 1
theorem per_spec {e : List Nat} (E : Eff e) {s : Nat} (hs : s < e.length) : 1 ≤ per e s ∧ it e (per e s) s = s ∧ (∀ j, 1 ≤ j → j < per e s → it e j s ≠ s) ∧ per e s ≤ e.length := by
  obtain ⟨k, h1, h2, h3⟩ := returns E hs
  have h : ∃ k, (1 ≤ k ∧ it e k s = s) := ⟨k, h1, h3⟩
  have q := Classical.choose_spec (least h)
  have ep : per e s = Classical.choose (least h) := by
    unfold per
    rw [dif_pos h]
  rw [ep]
  refine ⟨q.1.1, q.1.2, fun j a b c => q.2 j b ⟨a, c⟩, ?_⟩
  refine Nat.le_trans ?_ h2
  by_cases hk : Classical.choose (least h) ≤ k
  · exact hk
  · exact absurd ⟨h1, h3⟩ (q.2 k (by omega))
theorem per_pos {e : List Nat} (E : Eff e) {s : Nat} (hs : s < e.length) : 0 < per e s := (per_spec E hs).1
theorem it_mul {e : List Nat} {s p : Nat} (h : it e p s = s) : ∀ m : Nat, it e (m * p) s = s
  | 0 => by rw [Nat.zero_mul]; rfl
  | m + 1 => by
    rw [Nat.succ_mul, it_add, h]
    exact it_mul h m
theorem it_mod {e : List Nat} (E : Eff e) {s : Nat} (hs : s < e.length) (k : Nat) : it e k s = it e (k % per e s) s := by
  have h := Nat.div_add_mod k (per e s)
  have e1 : it e k s = it e (k % per e s + (k / per e s) * per e s) s := by
    congr 1
    rw [Nat.mul_comm (k / per e s)]
    omega
  rw [e1, it_add, it_mul (per_spec E hs).2.1]
/-- the inverse, as the program makes it: step by step -/
def invF (e : List Nat) : Nat → List Nat
  | 0 => List.replicate e.length 0
  | k + 1 => (invF e k).set (ap e k) k
def inv (e : List Nat) : List Nat := invF e e.length
end Sv
set_option maxHeartbeats 1000000
namespace Sv
open PySem
abbrev Ro := List (Option Int)
/-- the first that p does not hold of -/
def fst {α : Type} (p : α → Bool) : List α → Nat → Option Nat
  | [], _ => none
  | x :: r, i => if p x = true then fst p r (i + 1) else some i
theorem fst_some {α : Type} {p : α → Bool} : ∀ {l : List α} {i k : Nat} {x : α}, (∀ (j : Nat) (y : α), j < i → l[j]? = some y → p y = true) → l[i]? = some x → p x = false → fst p l k = some (i + k)
  | [], i, k, x, _, h, _ => by simp at h
  | y :: l, 0, k, x, _, h, hp => by
    obtain rfl := Option.some.inj h
    unfold fst
    rw [hp]
    simp
  | y :: l, i + 1, k, x, hb, h, hp => by
    unfold fst
    rw [hb 0 y (by omega) rfl, if_pos rfl, fst_some (l := l) (i := i) (k := k + 1) (fun j z hj hz => hb (j + 1) z (by omega) (by simpa using hz)) (by simpa using h) hp]
    congr 1
    omega
theorem fst_none {α : Type} {p : α → Bool} : ∀ {l : List α} {k : Nat}, (∀ (j : Nat) (y : α), l[j]? = some y → p y = true) → fst p l k = none
  | [], _, _ => rfl
  | y :: l, k, h => by
    unfold fst
    rw [h 0 y rfl, if_pos rfl]
    exact fst_none fun j z hz => h (j + 1) z (by simpa using hz)
theorem fst_all {α : Type} {p : α → Bool} : ∀ {l : List α} {k : Nat}, fst p l k = none → ∀ y ∈ l, p y = true
  | [], _, _, y, hy => by simp at hy
  | x :: l, k, h, y, hy => by
    unfold fst at h
    split at h
    · rename_i hx
      rcases List.mem_cons.mp hy with rfl | hy
      · exact hx
      · exact fst_all h y hy
    · cases h
def okZ (z : Int) : Bool := decide (0 ≤ z ∧ z ≤ 9)
def okE (n : Int) : Option Int → Bool
  | none => true
  | some i => decide (0 ≤ i ∧ i ≤ n - 1)
def okR (n : Int) (r : Ro) : Bool := decide (1 ≤ r.length ∧ r.length ≤ 6) && r.all (okE n)
def badS (zs : List Int) : Option Int := if 1 ≤ zs.length ∧ zs.length ≤ 12 then (fst okZ zs 0).map fun (k : Nat) => (k : Int) else some (-1)
def badR (n : Int) (rs : List Ro) : Option Int := if 1 ≤ rs.length ∧ rs.length ≤ 6 then (fst (okR n) rs 0).map fun (k : Nat) => (k : Int) else some (-1)
/-- what is wrong with a plan -/
def bad (zs : List Int) (rs : List Ro) : Option (Str × Int) := match badS zs with
  | some i => some ("sizes", i)
  | none => (badR zs.length rs).map fun i => ("routes", i)
def Small (zs : List Int) (rs : List Ro) : Prop := zs.length ≤ 1000 ∧ rs.length ≤ 1000 ∧ ∀ r ∈ rs, r.length ≤ 1000
/-- the entry of a route at a time -/
def ent (r : Ro) (m : Int) : Option Int := r.getD (m % (r.length : Int)).toNat none
def rot {α : Type} (r : List α) (s : Nat) : List α := r.drop s ++ r.take s
theorem leastN {P : Nat → Prop} : (∃ k, P k) → ∃ k, P k ∧ ∀ j, j < k → ¬ P j := by
  rintro ⟨k, hk⟩
  induction k using Nat.strongRecOn with
  | _ k ih =>
    by_cases h : ∃ j, j < k ∧ P j
    · obtain ⟨j, hj, hp⟩ := h
      exact ih j hj hp
    · exact ⟨k, hk, fun j hj hp => h ⟨j, hj, hp⟩⟩
open Classical in
/-- the least number of steps that leaves a list as it is -/
noncomputable def rtp {α : Type} (r : List α) : Nat := if h : ∃ k, 1 ≤ k ∧ rot r k = r then Classical.choose (leastN h) else 0
structure Good (zs : List Int) (rs : List Ro) : Prop where
  z1 : 1 ≤ zs.length ∧ zs.length ≤ 12
  z2 : ∀ z ∈ zs, 0 ≤ z ∧ z ≤ 9
  r1 : 1 ≤ rs.length ∧ rs.length ≤ 6
  r2 : ∀ r ∈ rs, 1 ≤ r.length ∧ r.length ≤ 6
theorem good_of {zs : List Int} {rs : List Ro} (h : bad zs rs = none) : Good zs rs := by
  unfold bad at h
  cases hb : badS zs with
  | some i => rw [hb] at h; cases h
  | none =>
    rw [hb] at h
    simp only [Option.map_eq_none_iff] at h
    unfold badS at hb
    unfold badR at h
    split at hb
    · split at h
      · rename_i c1 c2
        rw [Option.map_eq_none_iff] at hb h
        refine ⟨c1, fun z hz => of_decide_eq_true (fst_all hb z hz), c2, fun r hr => ?_⟩
        have := fst_all h r hr
        unfold okR at this
        rw [Bool.and_eq_true] at this
        exact of_decide_eq_true this.1
      · cases h
    · cases hb
noncomputable def lc (rs : List Ro) : Nat := rs.foldl (fun m r => Nat.lcm m (rtp r)) 1
/-- the pairs of a tick -/
def prs (rs : List Ro) (m : Int) : Nat → List (Nat × Int)
  | 0 => []
  | k + 1 => prs rs m k ++ (match rs[k]? with | some r => (match ent r m with | some z => [(k, z)] | none => []) | none => [])
end Sv
set_option maxHeartbeats 1000000
namespace Sv
def sumN (zs : List Int) : Nat := (zs.map Int.toNat).sum
theorem sum_int {zs : List Int} (h : ∀ z ∈ zs, 0 ≤ z) : zs.sum = (sumN zs : Nat) := by
  unfold sumN
  induction zs with
  | nil => rfl
  | cons z zs ih =>
    have h1 := h z (List.mem_cons_self ..)
    have h2 := ih fun x hx => h x (List.mem_cons_of_mem _ hx)
    simp only [List.sum_cons, List.map_cons]
    rw [h2]
    omega
def segs {α : Type} (cs : List α) : Nat → List Int → List (List α)
  | _, [] => []
  | st, z :: zs => (cs.drop st).take z.toNat :: segs cs (st + z.toNat) zs
theorem segs_len {α : Type} (cs : List α) : ∀ (st : Nat) (zs : List Int), (segs cs st zs).length = zs.length
  | _, [] => rfl
  | st, z :: zs => congrArg Nat.succ (segs_len cs _ zs)
theorem segs_flat {α : Type} (cs : List α) : ∀ (st : Nat) (zs : List Int), (segs cs st zs).flatten = (cs.drop st).take (sumN zs)
  | st, [] => by
    show [] = (cs.drop st).take 0
    rw [List.take_zero]
  | st, z :: zs => by
    show (cs.drop st).take z.toNat ++ (segs cs (st + z.toNat) zs).flatten = (cs.drop st).take (sumN (z :: zs))
    rw [segs_flat cs _ zs]
    have e : sumN (z :: zs) = z.toNat + sumN zs := by unfold sumN; rw [List.map_cons, List.sum_cons]
    rw [e, List.take_add, List.drop_drop]
theorem segs_snoc {α : Type} (cs : List α) : ∀ (st : Nat) (zs : List Int) (z : Int), segs cs st (zs ++ [z]) = segs cs st zs ++ [(cs.drop (st + sumN zs)).take z.toNat]
  | st, [], z => by
    show [(cs.drop st).take z.toNat] = _
    rfl
  | st, y :: zs, z => by
    show (cs.drop st).take y.toNat :: segs cs (st + y.toNat) (zs ++ [z]) = _
    rw [segs_snoc cs _ zs z]
    have e : sumN (y :: zs) = y.toNat + sumN zs := by unfold sumN; rw [List.map_cons, List.sum_cons]
    rw [e, ← Nat.add_assoc]
    rfl
theorem sumN_snoc (zs : List Int) (z : Int) : sumN (zs ++ [z]) = sumN zs + z.toNat := by unfold sumN; simp
theorem segs_lens {α : Type} (cs : List α) : ∀ (st : Nat) (zs : List Int), st + sumN zs ≤ cs.length → (segs cs st zs).map List.length = zs.map Int.toNat
  | _, [], _ => rfl
  | st, z :: zs, h => by
    have e : sumN (z :: zs) = z.toNat + sumN zs := by unfold sumN; rw [List.map_cons, List.sum_cons]
    rw [e] at h
    show ((cs.drop st).take z.toNat).length :: (segs cs (st + z.toNat) zs).map List.length = _
    rw [segs_lens cs _ zs (by omega), List.length_take, List.length_drop, List.map_cons]
    congr 1
    omega
abbrev Lay (α : Type) := List α × List (List α)
def join {α : Type} (L : Lay α) : List α := L.1 ++ L.2.flatten
def mapL {α β : Type} (f : α → β) (L : Lay α) : Lay β := (L.1.map f, L.2.map (List.map f))
/-- a carrier at a shelf -/
def step1 {α : Type} (L : Lay α) (p : Nat × Nat) : Lay α := match L.1[p.1]?, L.2[p.2]? with
  | some x, some row => (L.1.set p.1 (row.headD x), L.2.set p.2 (row ++ [x]).tail)
  | _, _ => L
def steps {α : Type} (ps : List (Nat × Nat)) (L : Lay α) : Lay α := ps.foldl step1 L
/-- so many carriers, so much on the shelves -/
def Fits {α : Type} (n : Nat) (zs : List Int) (L : Lay α) : Prop := L.1.length = n ∧ L.2.map List.length = zs.map Int.toNat
def spl {α : Type} (n : Nat) (zs : List Int) (cs : List α) : Lay α := (cs.take n, segs cs n zs)
theorem join_spl {α : Type} {n : Nat} {zs : List Int} {cs : List α} (h : cs.length = n + sumN zs) : join (spl n zs cs) = cs := by
  unfold join spl
  simp only
  rw [segs_flat, List.take_of_length_le (l := cs.drop n) (by rw [List.length_drop]; omega), List.take_append_drop]
theorem spl_fits {α : Type} {n : Nat} {zs : List Int} {cs : List α} (h : cs.length = n + sumN zs) : Fits n zs (spl n zs cs) := by
  refine ⟨?_, segs_lens cs n zs (by omega)⟩
  show (cs.take n).length = n
  rw [List.length_take]
  omega
theorem flat_len2 {α : Type} : ∀ {ss : List (List α)} {zs : List Int}, ss.map List.length = zs.map Int.toNat → ss.flatten.length = sumN zs
  | [], [], _ => rfl
  | [], _ :: _, h => by cases h
  | _ :: _, [], h => by cases h
  | s :: ss, z :: zs, h => by
    rw [List.map_cons, List.map_cons] at h
    injection h with h1 h2
    rw [List.flatten_cons, List.length_append, flat_len2 h2]
    unfold sumN
    rw [List.map_cons, List.sum_cons]
    omega
theorem join_len {α : Type} {n : Nat} {zs : List Int} {L : Lay α} (h : Fits n zs L) : (join L).length = n + sumN zs := by
  unfold join
  rw [List.length_append, h.1, flat_len2 h.2]
theorem segs_of {α : Type} : ∀ {ss : List (List α)} {zs : List Int} (pre : List α), ss.map List.length = zs.map Int.toNat → segs (pre ++ ss.flatten) pre.length zs = ss
  | [], [], _, _ => rfl
  | [], _ :: _, _, h => by cases h
  | _ :: _, [], _, h => by cases h
  | s :: ss, z :: zs, pre, h => by
    rw [List.map_cons, List.map_cons] at h
    injection h with h1 h2
    show ((pre ++ (s ++ ss.flatten)).drop pre.length).take z.toNat :: segs (pre ++ (s ++ ss.flatten)) (pre.length + z.toNat) zs = s :: ss
    rw [List.drop_left, ← h1, List.take_left]
    have e := segs_of (pre ++ s) h2
    rw [List.length_append, List.append_assoc] at e
    rw [e]
theorem spl_join {α : Type} {n : Nat} {zs : List Int} {L : Lay α} (h : Fits n zs L) : spl n zs (join L) = L := by
  unfold spl join
  obtain ⟨a, b⟩ := L
  obtain ⟨h1, h2⟩ := h
  simp only at h1 h2 ⊢
  rw [← h1, List.take_left, segs_of a h2]
/-- the numbers of the places -/
def idx (n : Nat) (zs : List Int) : Lay Nat := spl n zs (List.range (n + sumN zs))
/-- the visits of the tick behind the time t -/
def vis (rs : List Ro) (t : Int) : List (Nat × Nat) := (prs rs t rs.length).map fun p => (p.1, p.2.toNat)
def tickL {α : Type} (rs : List Ro) (t : Int) (L : Lay α) : Lay α := steps (vis rs t) L
def run {α : Type} (rs : List Ro) (t : Int) : Nat → Lay α → Lay α
  | 0, L => L
  | k + 1, L => tickL rs (t + (k : Nat)) (run rs t k L)
/-- from which place what is at each place now has come -/
def org (n : Nat) (zs : List Int) (rs : List Ro) (t : Int) (k : Nat) : List Nat := join (run rs t k (idx n zs))
end Sv
set_option maxHeartbeats 1000000
namespace Sv
section
variable (n : Nat) (zs : List Int) (rs : List Ro)
/-- so many ticks on -/
def fwd (t : Int) (k : Nat) : List Nat := inv (org n zs rs t k)
variable {rs}
variable (rs)
/-- a pattern -/
noncomputable def wh (t : Int) : List Nat := fwd n zs rs t (lc rs)
variable {rs}
variable (h : ∀ r ∈ rs, r ≠ []) (hp : 1 ≤ lc rs)
include h
include hp
end
end Sv
set_option maxHeartbeats 1000000
namespace Sv
noncomputable def cyc (e : List Nat) (s : Nat) : List Nat := (List.range (per e s)).map fun k => it e k s
theorem cyc_len (e : List Nat) (s : Nat) : (cyc e s).length = per e s := by unfold cyc; simp
theorem cyc_mem {e : List Nat} (E : Eff e) {s : Nat} (hs : s < e.length) {p : Nat} : p ∈ cyc e s ↔ ∃ k, p = it e k s := by
  unfold cyc
  rw [List.mem_map]
  constructor
  · rintro ⟨k, _, rfl⟩
    exact ⟨k, rfl⟩
  · rintro ⟨k, rfl⟩
    exact ⟨k % per e s, List.mem_range.mpr (Nat.mod_lt _ (per_pos E hs)), (it_mod E hs k).symm⟩
structure Wh (e : List Nat) (cs : List (List Nat)) : Prop where
  cy : ∀ c ∈ cs, ∃ s, s < e.length ∧ c = cyc e s
  nd : cs.flatten.Nodup
theorem Wh.lt {e : List Nat} (E : Eff e) {cs : List (List Nat)} (W : Wh e cs) {p : Nat} (h : p ∈ cs.flatten) : p < e.length := by
  obtain ⟨c, hc, hp⟩ := List.mem_flatten.mp h
  obtain ⟨s, hs, rfl⟩ := W.cy c hc
  obtain ⟨k, rfl⟩ := (cyc_mem E hs).mp hp
  exact it_lt E hs
theorem Wh.flat_len {e : List Nat} (E : Eff e) {cs : List (List Nat)} (W : Wh e cs) : cs.flatten.length ≤ e.length := below_len W.nd fun x hx => W.lt E hx
theorem Wh.len {e : List Nat} (E : Eff e) {cs : List (List Nat)} (W : Wh e cs) : cs.length ≤ e.length := by
  have h : ∀ cs : List (List Nat), (∀ c ∈ cs, 1 ≤ c.length) → cs.length ≤ cs.flatten.length := by
    intro cs
    induction cs with
    | nil => intro _; exact Nat.le_refl _
    | cons c r ih =>
      intro h
      have h1 := h c (List.mem_cons_self ..)
      have h2 := ih fun d hd => h d (List.mem_cons_of_mem _ hd)
      rw [List.flatten_cons, List.length_append]
      show r.length + 1 ≤ _
      omega
  refine Nat.le_trans (h cs fun c hc => ?_) (W.flat_len E)
  obtain ⟨s, hs, rfl⟩ := W.cy c hc
  rw [cyc_len]
  exact per_pos E hs
end Sv
set_option maxHeartbeats 4000000
namespace Sv
open PySem PySem.Spec PyProof.Rows L2
theorem b_isinstance : bootBuiltins "isinstance" = some (.builtin "isinstance") := by decide +kernel
theorem b_len : bootBuiltins "len" = some (.builtin "len") := by decide +kernel
theorem b_bool : bootBuiltins "bool" = some (.type "bool") := by decide +kernel
theorem b_int : bootBuiltins "int" = some (.type "int") := by decide +kernel
theorem b_str : bootBuiltins "str" = some (.type "str") := by decide +kernel
theorem b_list : bootBuiltins "list" = some (.type "list") := by decide +kernel
theorem b_tuple : bootBuiltins "tuple" = some (.type "tuple") := by decide +kernel
theorem pe_ty {X : Cx} {x : Str} {T : String} {pos : Pos} (hg : Gl X x) (hm : X.mg x = none) (hv : bootBuiltins x = some (.type T)) (hn : x ≠ "__name__" := by decide) (hd : (x == ("__debug__" : Str)) = false := by decide) : PE X (.Name x pos) (tC (.ty T)) :=
  pe_bltn hg hm hv rfl hn hd
theorem b_sum : bootBuiltins "sum" = some (.builtin "sum") := by decide +kernel
theorem scWithin : FnScope ["number", "low", "high"] ["number", "low", "high"] (defScope sWithin) := ⟨rfl, rfl, rfl, by decide +kernel, rfl, by decide +kernel, by decide +kernel⟩
section
variable {P : Program} {w : World} {K : PySem.W.Frag} {mg : Str → Option Value} {base : Heap}
def spWithin : Sp := fun vs H Q _ => ∃ n lo hi : Int, vs = [.int n, .int lo, .int hi] ∧ Q (.bl (decide (lo ≤ n ∧ n ≤ hi))) H
theorem ok_within {f : Addr} {fd : FuncData} {k : Nat} (F : Fun K "is_within" "is_within" sWithin f fd) (mi : mg "isinstance" = none) (mb : mg "bool" = none) (mn : mg "int" = none) :
    FnOk P w K mg base CX0 (k + 1) f fd ["number", "low", "high"] spWithin := by
  refine F.ok scWithin (fun vs H Q E h => ?_) (fun cdv A outer s H vs Q E hr h => ?_)
  · obtain ⟨n, lo, hi, rfl, _⟩ := h
    rfl
  · obtain ⟨n, lo, hi, rfl, q⟩ := h
    refine ⟨_, pss_cons (ps_if (pw_or (pt_val (pe_callB call_isi (by rfl) mi b_isinstance (pa_cons (pv 0) (pa_cons (pe_ty (by rfl) mb b_bool) pa_nil))))
        (pw_or1 (pt_not (pt_val (pe_callB call_isi (by rfl) mi b_isinstance (pa_cons (pv 0) (pa_cons (pe_ty (by rfl) mn b_int) pa_nil))))))).pt
      (pss_one (ps_ret pe_bl)) pss_nil)
      (pss_one (ps_ret (pe_chain op_le op_le (pv 1) (pv 0) (pv 2)))), ?_⟩
    refine ⟨.int n, rfl, .int n, .ty "bool", _, _, false, rfl, .ty "bool", .base (.int n), kit_ty (by decide +kernel), false, rfl, iteF ?_⟩
    refine ⟨.int n, rfl, .int n, .ty "int", _, _, true, rfl, .ty "int", .base (.int n), kit_ty (by decide +kernel), true, rfl, iteF ?_⟩
    refine ⟨.int lo, rfl, .int n, rfl, lo, n, rfl, rfl, _, rfl, ?_⟩
    by_cases h1 : lo ≤ n
    · rw [decide_eq_true h1]
      refine iteT ⟨.int hi, rfl, n, hi, rfl, rfl, ?_⟩
      show Q (.bl (decide (n ≤ hi))) H
      have e : decide (n ≤ hi) = decide (lo ≤ n ∧ n ≤ hi) := by simp [h1]
      rw [e]
      exact q
    · rw [decide_eq_false h1]
      have e : decide (lo ≤ n ∧ n ≤ hi) = false := by simp [h1]
      rw [e] at q
      exact iteF q
end
theorem tyx_tup {K : PySem.W.Frag} {H : Hp} {a : Addr} {xs : List V} (h : SqT K H a xs) : TyX K H (.ref a) (.type "tuple") := by
  rcases h with (h | ⟨o, h⟩) | ⟨o, its, n, h1, h2, _⟩
  · exact .base (.tup h)
  · exact .fTuple h
  · exact .kTuple h1 h2
structure Bt (mg : Str → Option Value) : Prop where
  isinstance : mg "isinstance" = none
  bool : mg "bool" = none
  int : mg "int" = none
  str : mg "str" = none
  list : mg "list" = none
  tuple : mg "tuple" = none
  dict : mg "dict" = none
  len : mg "len" = none
  range : mg "range" = none
  enumerate : mg "enumerate" = none
  max : mg "max" = none
  sum : mg "sum" = none
  set : mg "set" = none
  zip : mg "zip" = none
  divmod : mg "divmod" = none
  sorted : mg "sorted" = none
  abs : mg "abs" = none
  min : mg "min" = none
structure Df (K : PySem.W.Frag) (mg : Str → Option Value) (x : Str) (st : Stmt) (ps : List Str) (f : Addr) (fd : FuncData) : Prop where
  F : Fun K x x st f fd
  b : Binds K fd ps []
  g : mg x = some (.ref f)
theorem same_upd {H : Hp} {p : Addr} {o : HO} (h : H p = none) : Same H (upd H p o) := fun b x e => by
  rw [upd_ne (ne_of_none e h)]
  exact e
theorem same_of {H H' : Hp} {p : Addr} {o : HO} (e : Same H H') (h : H p = none) : Same H (upd H' p o) := fun b x q => by
  rw [upd_ne (ne_of_none q h)]
  exact e b x q
theorem sqT_same {K : PySem.W.Frag} {H H' : Hp} {a : Addr} {xs : List V} (e : Same H H') (h : SqT K H a xs) : SqT K H' a xs := by
  rcases h with (h | ⟨o, h⟩) | h
  · exact .inl (.inl (e _ _ h))
  · exact .inl (.inr ⟨o, e _ _ h⟩)
  · exact .inr h
theorem sz1000 {n : Nat} (h : n ≤ 1000) : n ≤ sizeLine := Nat.le_of_lt (small1000 h)
theorem yes_go {σ2 : L2.St} {H2 : Hp} {A B : Hp → Prop} (h : A H2) : tYes σ2 H2 (fun b H3 => if b = true then A H3 else B H3) := by
  show (if true = true then A H2 else B H2)
  rw [if_pos rfl]
  exact h
structure LawH (H : Hp) (h l : Addr) : Prop where
  ex : ∃ (m i : Int) (cs : List Int), H h = some (.lst [.int m, .ref l, .int i]) ∧ H l = some (.lst (cs.map V.int)) ∧ cs.length ≤ 1000
def SameX (h l : Addr) (H H' : Hp) : Prop := ∀ b o, b ≠ h → b ≠ l → H b = some o → H' b = some o
theorem LawH.same {H H' : Hp} {h l : Addr} (x : LawH H h l) (e : Same H H') : LawH H' h l := by
  obtain ⟨m, i, cs, e1, e2, e3⟩ := x.ex
  exact ⟨m, i, cs, e _ _ e1, e _ _ e2, e3⟩
theorem SameX.of {H H' : Hp} {h l : Addr} (e : Same H H') : SameX h l H H' := fun b o _ _ q => e b o q
theorem SameX.trans {H H1 H2 : Hp} {h l : Addr} (a : SameX h l H H1) (b : SameX h l H1 H2) : SameX h l H H2 := fun c o h1 h2 q => b c o h1 h2 (a c o h1 h2 q)
end Sv
set_option maxHeartbeats 4000000
namespace Sv
open PySem PySem.Spec PyProof.Rows L2
structure LawD (K : PySem.W.Frag) (H : Hp) (h sc : Addr) : Prop where
  ex : ∃ (i : Nat) (m d : Int) (cs : List Int), H h = some (.lst [.ref sc, .int (i : Nat), .int m, .int d]) ∧ SqL K H sc (cs.map V.int) ∧ cs.length ≤ 63
def SameD (h : Addr) (H H' : Hp) : Prop := ∀ b o, b ≠ h → H b = some o → H' b = some o
theorem SameD.of {H H' : Hp} {h : Addr} (e : Same H H') : SameD h H H' := fun b o _ q => e b o q
theorem SameD.trans {H H1 H2 : Hp} {h : Addr} (a : SameD h H H1) (b : SameD h H1 H2) : SameD h H H2 := fun c o h1 q => b c o h1 (a c o h1 q)
theorem sqL_keep {K : PySem.W.Frag} {H H' : Hp} {a : Addr} {xs : List V} (n : ∀ o, H a = some o → H' a = some o) (h : SqL K H a xs) : SqL K H' a xs := by
  rcases h with (h | ⟨o, h⟩) | h
  · exact .inl (.inl (n _ h))
  · exact .inl (.inr ⟨o, n _ h⟩)
  · exact .inr h
theorem sqL_d {K : PySem.W.Frag} {H H' : Hp} {h sc : Addr} {rest : List V} {cs : List Int} (e1 : H h = some (.lst (.ref sc :: rest))) (g : SameD h H H') (x : SqL K H sc (cs.map V.int)) : SqL K H' sc (cs.map V.int) := by
  rcases x with (x | ⟨o, x⟩) | x
  · refine .inl (.inl (g _ _ (fun z => ?_) x))
    rw [z, e1] at x
    have := HO.lst.inj (Option.some.inj x)
    cases cs with
    | nil => cases this
    | cons c cs => cases this
  · refine .inl (.inr ⟨o, g _ _ (fun z => ?_) x⟩)
    rw [z, e1] at x
    cases x
  · exact .inr x
theorem LawD.same {K : PySem.W.Frag} {H H' : Hp} {h sc : Addr} (x : LawD K H h sc) (e : Same H H') : LawD K H' h sc := by
  obtain ⟨i, m, d, cs, e1, e2, e3⟩ := x.ex
  exact ⟨i, m, d, cs, e _ _ e1, sqL_keep (fun _ q => e _ _ q) e2, e3⟩
section
variable {P : Program} {w : World} {K : PySem.W.Frag} {mg : Str → Option Value} {base : Heap}
theorem scDrawn : FnScope ["_law_state", "_law_count", "_law_result", "_law_cell"] ["_law_state", "_law_count"] (defScope sDrawn) := ⟨rfl, rfl, rfl, by decide +kernel, rfl, by decide +kernel, by decide +kernel⟩
theorem scStart : FnScope ["_law_script", "_law_mixed", "_law_cell"] ["_law_script"] (defScope sStart) := ⟨rfl, rfl, rfl, by decide +kernel, rfl, by decide +kernel, by decide +kernel⟩
def spDrawn (K : PySem.W.Frag) : Sp := fun vs H Q _ => ∃ (h sc : Addr) (n : Int), vs = [.ref h, .int n] ∧ LawD K H h sc ∧ 0 < n ∧ n < 2 ^ 64 ∧ ∀ (r : Nat) H', (r : Int) < n → LawD K H' h sc → SameD h H H' → Q (.int (r : Nat)) H'
theorem ok_drawn {f : Addr} {fd : FuncData} (F : Fun K "_law_drawn" "_law_drawn" sDrawn f fd) (B : Bt mg) : FnOk P w K mg base CX0 1 f fd ["_law_state", "_law_count"] (spDrawn K) := by
  refine F.ok scDrawn (fun vs H Q E h => ?_) (fun cdv A outer s H vs Q E hr h => ?_)
  · obtain ⟨h, sc, n, rfl, _⟩ := h
    rfl
  · obtain ⟨h, sc, n, rfl, LH, p1, p2, q⟩ := h
    obtain ⟨i, m, d, cs, e1, e2, e3⟩ := LH.ex
    refine ⟨_, pss_cons (ps_if (pt_cmpR op_gt (pe_ix ix_list (pv 0) (pe_int) (fun _ _ => rfl)) (pe_int) (nomark _)) (pss_cons (ps_set (i := 2) scDrawn.nd rfl (Or.inl rfl) (pe_op op_mod (pe_callTy call_int1 (by rfl) B.int b_int (pa_cons (pe_ix ix_list (pv 0) (pe_int) (fun _ _ => rfl)) pa_nil)) (pv 1)))
      (pss_cons (ps_asg (pe_op op_fdivW (pe_ix ix_list (pv 0) (pe_int) (fun _ _ => rfl)) (pv 1)) (pg_sub (pv 0) pe_int set_list))
      (pss_one (ps_ret (pv 2))))) pss_nil)
      (pss_cons (ps_asg (pe_op op_add (pe_ix ix_list (pv 0) (pe_int) (fun _ _ => rfl)) (pe_int)) (pg_sub (pv 0) pe_int set_list))
      (pss_cons (ps_if (pt_cmpR op_le (pe_ix ix_list (pv 0) (pe_int) (fun _ _ => rfl)) (pe_callB call_len_seq (by rfl) B.len b_len (pa_cons (pe_ix ix_list (pv 0) (pe_int) (fun _ _ => rfl)) pa_nil)) (nomark _)) (pss_cons (ps_set (i := 3) scDrawn.nd rfl (Or.inl rfl) (pe_ix ix_list (pe_ix ix_list (pv 0) (pe_int) (fun _ _ => rfl)) (pe_op op_sub (pe_ix ix_list (pv 0) (pe_int) (fun _ _ => rfl)) (pe_int)) (fun _ _ => rfl)))
      (pss_cons (ps_asg (pe_ifExp (pt_cmpR op_ge (pv 3) (pe_op op_pow pe_int pe_int) (nomark _)) (pe_op op_fdivW (pv 3) (pv 1)) (pe_int)) (pg_sub (pv 0) pe_int set_list))
      (pss_one (ps_ret (pe_op op_mod (pe_callTy call_int1 (by rfl) B.int b_int (pa_cons (pv 3) pa_nil)) (pv 1)))))) pss_nil)
      (pss_cons (ps_asg (pe_op op_mod (pe_op op_add (pe_op op_mul (pe_ix ix_list (pv 0) (pe_int) (fun _ _ => rfl)) (pe_int)) (pe_int)) (pe_int)) (pg_sub (pv 0) pe_int set_list))
      (pss_one (ps_ret (pe_op op_mod (pe_op op_fdiv (pe_ix ix_list (pv 0) (pe_int) (fun _ _ => rfl)) (pe_int)) (pv 1))))))), ?_⟩
    have upd_d : ∀ {G : Hp} {o : HO}, SameD h G (upd G h o) := fun b o hb e => by
      rw [upd_ne hb]
      exact e
    have nat : ∀ x : Int, ∃ r : Nat, x % n = (r : Int) ∧ (r : Int) < n := fun x => by
      have i0 := Int.emod_nonneg x (Int.ne_of_gt p1)
      have i1 := Int.emod_lt_of_pos x p1
      exact ⟨(x % n).toNat, (Int.toNat_of_nonneg i0).symm, by rw [Int.toNat_of_nonneg i0]; exact i1⟩
    refine ⟨.ref h, rfl, h, _, 3, .int d, rfl, rfl, .inl (.inl e1), rfl, d, 0, rfl, rfl, _, rfl, ite2 (fun hc => ?_) (fun hc => ?_)⟩
    · have hd : 0 < d := of_decide_eq_true hc
      obtain ⟨r, hr1, hr2⟩ := nat d
      refine ⟨.ref h, rfl, h, _, 3, .int d, rfl, rfl, .inl (.inl e1), rfl, .inl ⟨d, rfl, .int n, rfl, d, n, rfl, rfl, p1, ?_⟩⟩
      refine ⟨.ref h, rfl, h, _, 3, .int d, rfl, rfl, .inl (.inl e1), rfl, .int n, rfl, d, n, rfl, rfl, wide_div (b := 64) p1 (by omega) (by decide) (by decide), .ref h, rfl, h, _, 3, 3, rfl, rfl, e1, rfl, .int (d % n), rfl, ?_⟩
      rw [hr1]
      exact q r _ hr2 ⟨i, m, d / n, cs, upd_same, sqL_d e1 upd_d e2, e3⟩ upd_d
    · refine ⟨.ref h, rfl, h, _, 1, .int (i : Nat), rfl, rfl, .inl (.inl e1), rfl, _, _, rfl, rfl, .ref h, rfl, h, _, 1, 1, rfl, rfl, e1, rfl, ?_⟩
      have k1 : (upd H h (.lst ([V.ref sc, .int (i : Nat), .int m, .int d].set 1 (.int ((i : Nat) + 1))))) h = some (.lst [.ref sc, .int ((i + 1 : Nat) : Nat), .int m, .int d]) := upd_same
      have s1 : SameD h H (upd H h (.lst ([V.ref sc, .int (i : Nat), .int m, .int d].set 1 (.int ((i : Nat) + 1))))) := upd_d
      have e4 := sqL_d e1 s1 e2
      show _
      generalize upd H h (.lst ([V.ref sc, .int (i : Nat), .int m, .int d].set 1 (.int ((i : Nat) + 1)))) = H1 at k1 s1 e4 ⊢
      refine ⟨.ref h, rfl, h, _, 1, .int ((i + 1 : Nat) : Nat), rfl, rfl, .inl (.inl k1), rfl, .ref h, rfl, h, _, 0, .ref sc, rfl, rfl, .inl (.inl k1), rfl, sc, _, rfl, .inl e4, _, _, rfl, rfl, _, rfl, ite2 (fun hc => ?_) (fun hc => ?_)⟩
      · have hi : i < cs.length := by
          have := of_decide_eq_true hc
          rw [List.length_map] at this
          omega
        obtain ⟨c, hc1⟩ : ∃ c, cs[i]? = some c := ⟨_, List.getElem?_eq_getElem hi⟩
        obtain ⟨r, hr1, hr2⟩ := nat c
        refine ⟨.ref h, rfl, h, _, 0, .ref sc, rfl, rfl, .inl (.inl k1), rfl, .ref h, rfl, h, _, 1, .int ((i + 1 : Nat) : Nat), rfl, rfl, .inl (.inl k1), rfl, _, _, rfl, rfl, sc, _, _, .int c, rfl, rfl, e4, ?_, ?_⟩
        · rw [show (((i + 1 : Nat) : Nat) : Int) - 1 = ((i : Nat) : Int) by omega]
          exact atI_nat (by rw [List.getElem?_map, hc1]; rfl)
        refine ⟨.int c, rfl, 10, 18, rfl, rfl, ⟨by decide, by decide, by decide⟩, c, 10 ^ (18 : Int).toNat, rfl, rfl, _, rfl, ite2 (fun hc => ?_) (fun hc => ?_)⟩
        · have hc2 : (10 : Int) ^ (18 : Int).toNat ≤ c := of_decide_eq_true hc
          have hc3 : (0 : Int) < c := Int.lt_of_lt_of_le (by decide) hc2
          refine ⟨.int c, rfl, .int n, rfl, c, n, rfl, rfl, wide_div (b := 64) p1 (by omega) (by decide) (by decide), .ref h, rfl, h, _, 3, 3, rfl, rfl, k1, rfl, .int c, rfl, .inl ⟨c, rfl, .int n, rfl, c, n, rfl, rfl, p1, ?_⟩⟩
          show Q (.int (c % n)) _
          rw [hr1]
          exact q r _ hr2 ⟨i + 1, m, c / n, cs, upd_same, sqL_d k1 upd_d e4, e3⟩ (s1.trans upd_d)
        · refine ⟨.ref h, rfl, h, _, 3, 3, rfl, rfl, k1, rfl, .int c, rfl, .inl ⟨c, rfl, .int n, rfl, c, n, rfl, rfl, p1, ?_⟩⟩
          show Q (.int (c % n)) _
          rw [hr1]
          exact q r _ hr2 ⟨i + 1, m, 0, cs, upd_same, sqL_d k1 upd_d e4, e3⟩ (s1.trans upd_d)
      · refine ⟨.ref h, rfl, h, _, 2, .int m, rfl, rfl, .inl (.inl k1), rfl, m, 48271, rfl, rfl, .inr ⟨by decide, by decide⟩, _, 11, rfl, rfl, _, 2147483647, rfl, rfl, (by decide : (0 : Int) < 2147483647), .ref h, rfl, h, _, 2, 2, rfl, rfl, k1, rfl, ?_⟩
        obtain ⟨m', hm'⟩ : ∃ m' : Int, (m * 48271 + 11) % 2147483647 = m' := ⟨_, rfl⟩
        have hmv : (fun i j => V.int (i % j)) (m * 48271 + 11) 2147483647 = V.int m' := congrArg V.int hm'
        rw [hmv]
        have k2 : (upd H1 h (.lst ([V.ref sc, .int ((i + 1 : Nat) : Nat), .int m, .int d].set 2 (.int m')))) h = some (.lst [.ref sc, .int ((i + 1 : Nat) : Nat), .int m', .int d]) := upd_same
        have s2 : SameD h H1 (upd H1 h (.lst ([V.ref sc, .int ((i + 1 : Nat) : Nat), .int m, .int d].set 2 (.int m')))) := upd_d
        generalize upd H1 h (.lst ([V.ref sc, .int ((i + 1 : Nat) : Nat), .int m, .int d].set 2 (.int m'))) = H2 at k2 s2 ⊢
        obtain ⟨r, hr1, hr2⟩ := nat (m' / 7)
        refine ⟨.ref h, rfl, h, _, 2, .int m', rfl, rfl, .inl (.inl k2), rfl, m', 7, rfl, rfl, ⟨by decide, by decide⟩, .int n, rfl, _, n, rfl, rfl, p1, ?_⟩
        show Q (.int (m' / 7 % n)) _
        rw [hr1]
        exact q r _ hr2 ⟨i + 1, m', d, cs, k2, sqL_d k1 s2 e4, e3⟩ (s1.trans s2)
def spStart (K : PySem.W.Frag) : Sp := fun vs H Q _ => ∃ (sc : Addr) (cs : List Int), vs = [.ref sc] ∧ SqL K H sc (cs.map V.int) ∧ cs.length ≤ 63 ∧ ∀ H' h, LawD K H' h sc → Same H H' → H h = none → Q (.ref h) H'
theorem ok_start {f : Addr} {fd : FuncData} (F : Fun K "_law_start" "_law_start" sStart f fd) (B : Bt mg) : FnOk P w K mg base CX0 1 f fd ["_law_script"] (spStart K) := by
  refine F.ok scStart (fun vs H Q E h => ?_) (fun cdv A outer s H vs Q E hr h => ?_)
  · obtain ⟨sc, cs, rfl, _⟩ := h
    rfl
  · obtain ⟨sc, cs, rfl, hA, hl, q⟩ := h
    refine ⟨_, pss_cons (ps_set (i := 1) scStart.nd rfl (Or.inl rfl) (pe_int))
      (pss_cons (ps_for PassesOwn.never rfl (pi_list (pv 0)) (pg_name (i := 2) scStart.nd rfl (Or.inl rfl))
        (pss_one (ps_set (i := 1) scStart.nd rfl (Or.inl rfl) (pe_op op_mod (pe_op op_add (pe_op op_add (pe_op op_mul (pv 1) (pe_int)) (pv 2)) (pe_int)) (pe_int)))))
      (pss_one (ps_ret (pe_lst (pa_cons (pv 0) (pa_cons (pe_int) (pa_cons (pv 1) (pa_cons (pe_int) pa_nil)))))))), ?_⟩
    refine ⟨.ref sc, rfl, sc, rfl, ⟨_, hA⟩, for_list (xs := cs.map V.int) (fun i σ H' => (∃ m y2, σ = [some (.ref sc), some (.int m), y2]) ∧ H' = H) ⟨⟨1, none, rfl⟩, rfl⟩ (fun i σ H' _ h => by rw [h.2]; exact hA) (fun i x σ H' hx ⟨⟨m, y2, es⟩, eH⟩ => ?_) (fun σ H' ⟨⟨m, y2, es⟩, eH⟩ => ?_)⟩
    · subst es
      subst eH
      rw [List.getElem?_map] at hx
      cases hn : cs[i]? with
      | none => rw [hn] at hx; cases hx
      | some n =>
        rw [hn] at hx
        obtain rfl : V.int n = x := Option.some.inj hx
        refine ⟨.int m, rfl, m, 48271, rfl, rfl, .inr ⟨by decide, by decide⟩, .int n, rfl, _, n, rfl, rfl, _, 7, rfl, rfl, _, 2147483647, rfl, rfl, (by decide : (0 : Int) < 2147483647), ⟨_, _, rfl⟩, rfl⟩
    · subst es
      subst eH
      refine ⟨.ref sc, rfl, .int m, rfl, (by show 4 ≤ sizeLine; decide), fun h hh => ?_⟩
      exact q _ h ⟨0, m, 0, cs, upd_same, sqL_keep (fun o q => by rw [upd_ne (ne_of_none q hh)]; exact q) hA, hl⟩ (same_upd hh) hh
end
end Sv
set_option maxHeartbeats 4000000
set_option exponentiation.threshold 2000
namespace Sv
open PySem PySem.Spec PyProof.Rows L2 NdefX
def clsInit : Stmt → Stmt | .ClassDef _ _ _ b _ _ _ _ _ _ _ => b.getD 0 (.Pass ⟨0, 0, 0, 0⟩) | s => s
abbrev sPlanInit : Stmt := clsInit sInvalidPlan
def nfPlan (cc c0 : Addr) : NF := ⟨"__init__", "InvalidPlan.__init__", defArgs sPlanInit, defBody sPlanInit, defScope sPlanInit, [("__class__", cc)], c0⟩
def arPlan : Arg := (defArgs sPlanInit).args.getD 0 ⟨"x", none, ⟨0, 0, 0, 0⟩⟩
def nPI : List Str := ["self", "part", "index", "__class__"]
theorem nsPlan (cc c0 : Addr) : NScope nPI ["self", "part", "index"] ["__class__"] (nfPlan cc c0).scope := by
  show NScope nPI ["self", "part", "index"] ["__class__"] (defScope sPlanInit)
  exact nscope_by (by decide +kernel)
section
variable {P : Program} {w : World} {K : PySem.W.Frag} {mg : Str → Option Value} {base : Heap}
/-- the promise of InvalidPlan.__init__ -/
def spPI (C : Addr) : Sp := fun vs H Q _ => ∃ (a : Addr) (part : Str) (i : Int), vs = [.ref a, .str part, .int i] ∧ H a = some (exo a C none) ∧ part.length ≤ 1000 ∧ i.natAbs < 2 ^ 100 ∧
  ∀ d, H d = none → d ≠ a → Q .non (upd (upd (upd H d (exd d [("part", .str part)])) a (exo a C (some d))) d (exd d [("index", .int i), ("part", .str part)]))
theorem ok_planInit {C fI cc c0 : Addr} {oc : Value} {od : Option Addr} {osl : Array (Option Value)} {doc pm ctv : Value} (S : SupF P K mg C fI cc (nfPlan cc c0) arPlan) (lk : K.lookup fI = some ⟨oc, od, .func ((nfPlan cc c0).fd doc pm ctv), osl⟩)
    (n1 : PySem.W.findIn K (.ref C) "part" = some none) (n2 : PySem.W.findIn K (.ref C) "index" = some none) :
    FnOk P w K mg base CX0 1 fI ((nfPlan cc c0).fd doc pm ctv) ["self", "part", "index"] (spPI C) := by
  refine fnOk_sup (N := nPI) S lk (nsPlan cc c0) rfl rfl rfl (fun vs H Q E h => ?_) (fun _ => rfl) (fun _ => ⟨_, rfl⟩) (fun _ => rfl) (fun _ => rfl) (fun A outer s H vs Q E hr h => ?_)
  · obtain ⟨a, part, i, rfl, _⟩ := h
    rfl
  · obtain ⟨a, part, i, rfl, ha, hl, hi, q⟩ := h
    refine ⟨a, _, _, rfl, ha, pe_joined (.cons pe_str (.cons (pe_fmt (pv 1)) (.cons pe_str (.cons (pe_fmt (pv 2)) .nil)))),
      pss_cons (ps_ost (pv 0) (pv 1)) (pss_one (ps_ost (pv 0) (pv 2))), ?_⟩
    have hz : sizeLine = 16777216 := sizeLine_eq
    have hlog : i.natAbs.log2 < 1920 := by
      have : i.natAbs < 2 ^ 1920 := Nat.lt_trans hi (Nat.pow_lt_pow_right (by decide) (by decide))
      by_cases h0 : i.natAbs = 0
      · rw [h0]
        decide
      · exact (Nat.log2_lt h0).mpr this
    have l4 : (Str.ofString (toString i)).length ≤ 1921 := int_text_len_1921 hlog
    refine ⟨"invalid ", rfl, ?_, .str part, rfl, .inl ⟨part, rfl, by omega, part, rfl, ?_, ", at index ", rfl, ?_, .int i, rfl, .inr ⟨i, rfl, hlog, _, rfl, ?_, ha, ?_⟩⟩⟩
    · decide
    · rw [Str.length_append]
      have : (Str.empty ++ ("invalid " : Str)).length = 8 := by decide
      omega
    · rw [Str.length_append, Str.length_append]
      have : (Str.empty ++ ("invalid " : Str)).length = 8 := by decide
      have : (", at index " : Str).length = 11 := by decide
      omega
    · rw [Str.length_append, Str.length_append, Str.length_append]
      have : (Str.empty ++ ("invalid " : Str)).length = 8 := by decide
      have : (", at index " : Str).length = 11 := by decide
      omega
    · refine ⟨.str part, rfl, .ref a, rfl, a, C, rfl, S.T, n1, .inl ⟨ha, fun d hd hda => ?_⟩⟩
      refine ⟨.int i, rfl, .ref a, rfl, a, C, rfl, S.T, n2, .inr ⟨d, [("part", .str part)], upd_same, ?_, (by show 1 ≤ 900; decide), q d hd hda⟩⟩
      rw [upd_ne hda, upd_same]
/-- the facts of InvalidPlan -/
structure Pl (P : Program) (K : PySem.W.Frag) (mg : Str → Option Value) (C fI : Addr) (fd : FuncData) : Prop where
  ex : ∃ (cc c0 : Addr) (oc : Value) (od : Option Addr) (osl : Array (Option Value)) (doc pm ctv : Value), fd = (nfPlan cc c0).fd doc pm ctv ∧ SupF P K mg C fI cc (nfPlan cc c0) arPlan ∧ K.lookup fI = some ⟨oc, od, .func fd, osl⟩
  n1 : PySem.W.findIn K (.ref C) "part" = some none
  n2 : PySem.W.findIn K (.ref C) "index" = some none
  g : mg "InvalidPlan" = some (.ref C)
  iC : PySem.W.findIn K (.ref C) "__init__" = some (some (.ref fI))
  tI : PySem.W.typeIn K (.ref fI) = some (.type "function")
  b : Binds K fd ["self", "part", "index"] []
  x : XfC K C
theorem Pl.T {C fI : Addr} {fd : FuncData} (p : Pl P K mg C fI fd) : OexC K C := by
  obtain ⟨cc, c0, oc, od, osl, doc, pm, ctv, _, S, _⟩ := p.ex
  exact S.T
theorem Pl.ok {C fI : Addr} {fd : FuncData} (p : Pl P K mg C fI fd) : FnOk P w K mg base CX0 1 fI fd ["self", "part", "index"] (spPI C) := by
  obtain ⟨cc, c0, oc, od, osl, doc, pm, ctv, rfl, S, lk⟩ := p.ex
  exact ok_planInit S lk p.n1 p.n2
/-- what is wanted where InvalidPlan(part, i) is raised -/
def PlanE (C : Addr) (H : Hp) (part : Str) (i : Int) (Q : XK) : Prop := ∀ (H' : Hp) (dd : Addr) (fs : List (Str × V)), Same H H' → H' dd = some (.xd fs) → fs.lookup ("part" : Str) = some (V.str part) → fs.lookup ("index" : Str) = some (V.int i) → Q (.ref C) (some dd) H'
theorem PlanE.imp {C : Addr} {H H1 : Hp} {part : Str} {i : Int} {Q : XK} (h : PlanE C H part i Q) (e : Same H H1) : PlanE C H1 part i Q := fun H' dd fs sm => h H' dd fs (e.trans sm)
theorem pmk_plan {X : Cx} {C fI : Addr} {fd : FuncData} {e1 e2 : Expr} {t1 t2 : TE} {p pos : Pos} (T : Pl X.prog X.K X.mg C fI fd) (hr : Room 2 X.A) (hg : Gl X "InvalidPlan") (h1 : PE X e1 t1) (h2 : PE X e2 t2)
    (s1 : starEach [e1, e2] X.env = (false, eval e1 X.env) :: starEach [e2] X.env := by rfl) (s2 : starEach [e2] X.env = (false, eval e2 X.env) :: starEach [] X.env := by rfl) (hpl : (backTo pos (starEach [e2] X.env)).any (·.1) = false := by rfl) :
    PMk X (.Call (.Name "InvalidPlan" p) [e1, e2] [] pos) (tMkO C (spPI C) [] (tCons t1 (tCons t2 tNil))) := by
  have G : FnOk X.prog X.w X.K X.mg X.base CX0 1 fI fd ["self", "part", "index"] (spPI C) := T.ok
  exact pmk_oex T.T T.iC T.tI G hr T.b .nil pass0 hg T.g (pa_cons h1 (pa_cons h2 pa_nil s2) s1) (by decide) s1 hpl
theorem mk_go {C : Addr} {H : Hp} {part : Str} {i : Int} {Q : XK} (hl : part.length ≤ 1000) (hi : i.natAbs < 2 ^ 100) (q : PlanE C H part i Q) : [V.str part, V.int i].length ≤ 1000 ∧ ∀ a, H a = none → spPI C (.ref a :: ([V.str part, V.int i] ++ [])) (upd H a (exo a C none))
    (fun v H2 => v = .non ∧ ∃ (d : Addr) (fs : List (Str × V)), H2 a = some (exo a C (some d)) ∧ H2 d = some (exd d fs) ∧ H d = none ∧ Q (.ref C) (some d) (upd (del H2 a) d (.xd fs))) (fun _ _ _ => False) := by
  refine ⟨by show 2 ≤ 1000; decide, fun a ha => ⟨a, part, i, rfl, upd_same, hl, hi, fun d hd hda => ⟨rfl, d, _, ?_, upd_same, ?_, q _ d _ (fun b o hb => ?_) upd_same rfl rfl⟩⟩⟩
  · rw [upd_ne (Ne.symm hda), upd_same]
  · rw [upd_ne hda] at hd
    exact hd
  · have hd' : H d = none := by
      rw [upd_ne hda] at hd
      exact hd
    have b1 := ne_of_none hb hd'
    have b2 := ne_of_none hb ha
    rw [upd_ne b1, del_ne b2, upd_ne b1, upd_ne b2, upd_ne b1, upd_ne b2]
    exact hb
end
end Sv
set_option maxHeartbeats 4000000
set_option exponentiation.threshold 2000
namespace Sv
open PySem PySem.Spec PyProof.Rows L2 NdefX
abbrev sTxtInit : Stmt := clsInit sInvalidText
def nfTxt (cc c0 : Addr) : NF := ⟨"__init__", "InvalidText.__init__", defArgs sTxtInit, defBody sTxtInit, defScope sTxtInit, [("__class__", cc)], c0⟩
def arTxt : Arg := (defArgs sTxtInit).args.getD 0 ⟨"x", none, ⟨0, 0, 0, 0⟩⟩
def nTI : List Str := ["self", "row", "__class__"]
theorem nsTxt (cc c0 : Addr) : NScope nTI ["self", "row"] ["__class__"] (nfTxt cc c0).scope := by
  show NScope nTI ["self", "row"] ["__class__"] (defScope sTxtInit)
  exact nscope_by (by decide +kernel)
section
variable {P : Program} {w : World} {K : PySem.W.Frag} {mg : Str → Option Value} {base : Heap}
/-- the promise of InvalidText.__init__ -/
def spTI (C : Addr) : Sp := fun vs H Q _ => ∃ (a : Addr) (i : Int), vs = [.ref a, .int i] ∧ H a = some (exo a C none) ∧ i.natAbs < 2 ^ 100 ∧
  ∀ d, H d = none → d ≠ a → Q .non (upd (upd H d (exd d [("row", .int i)])) a (exo a C (some d)))
theorem ok_txtInit {C fI cc c0 : Addr} {oc : Value} {od : Option Addr} {osl : Array (Option Value)} {doc pm ctv : Value} (S : SupF P K mg C fI cc (nfTxt cc c0) arTxt) (lk : K.lookup fI = some ⟨oc, od, .func ((nfTxt cc c0).fd doc pm ctv), osl⟩)
    (n2 : PySem.W.findIn K (.ref C) "row" = some none) :
    FnOk P w K mg base CX0 1 fI ((nfTxt cc c0).fd doc pm ctv) ["self", "row"] (spTI C) := by
  refine fnOk_sup (N := nTI) S lk (nsTxt cc c0) rfl rfl rfl (fun vs H Q E h => ?_) (fun _ => rfl) (fun _ => ⟨_, rfl⟩) (fun _ => rfl) (fun _ => rfl) (fun A outer s H vs Q E hr h => ?_)
  · obtain ⟨a, i, rfl, _⟩ := h
    rfl
  · obtain ⟨a, i, rfl, ha, hi, q⟩ := h
    refine ⟨a, _, _, rfl, ha, pe_joined (.cons pe_str (.cons (pe_fmt (pv 1)) .nil)), pss_one (ps_ost (pv 0) (pv 1)), ?_⟩
    have hz : sizeLine = 16777216 := sizeLine_eq
    have hlog : i.natAbs.log2 < 1920 := by
      have : i.natAbs < 2 ^ 1920 := Nat.lt_trans hi (Nat.pow_lt_pow_right (by decide) (by decide))
      by_cases h0 : i.natAbs = 0
      · rw [h0]
        decide
      · exact (Nat.log2_lt h0).mpr this
    have l4 : (Str.ofString (toString i)).length ≤ 1921 := int_text_len_1921 hlog
    refine ⟨"wrong form of row ", rfl, ?_, .int i, rfl, .inr ⟨i, rfl, hlog, _, rfl, ?_, ha, ?_⟩⟩
    · decide
    · rw [Str.length_append]
      have : (Str.empty ++ ("wrong form of row " : Str)).length = 18 := by decide
      omega
    · refine ⟨.int i, rfl, .ref a, rfl, a, C, rfl, S.T, n2, .inl ⟨ha, fun d hd hda => ?_⟩⟩
      exact q d hd hda
/-- the facts of InvalidText -/
structure Tx (P : Program) (K : PySem.W.Frag) (mg : Str → Option Value) (C fI : Addr) (fd : FuncData) : Prop where
  ex : ∃ (cc c0 : Addr) (oc : Value) (od : Option Addr) (osl : Array (Option Value)) (doc pm ctv : Value), fd = (nfTxt cc c0).fd doc pm ctv ∧ SupF P K mg C fI cc (nfTxt cc c0) arTxt ∧ K.lookup fI = some ⟨oc, od, .func fd, osl⟩
  n2 : PySem.W.findIn K (.ref C) "row" = some none
  g : mg "InvalidText" = some (.ref C)
  iC : PySem.W.findIn K (.ref C) "__init__" = some (some (.ref fI))
  tI : PySem.W.typeIn K (.ref fI) = some (.type "function")
  b : Binds K fd ["self", "row"] []
  x : XfC K C
theorem Tx.T {C fI : Addr} {fd : FuncData} (p : Tx P K mg C fI fd) : OexC K C := by
  obtain ⟨cc, c0, oc, od, osl, doc, pm, ctv, _, S, _⟩ := p.ex
  exact S.T
theorem Tx.ok {C fI : Addr} {fd : FuncData} (p : Tx P K mg C fI fd) : FnOk P w K mg base CX0 1 fI fd ["self", "row"] (spTI C) := by
  obtain ⟨cc, c0, oc, od, osl, doc, pm, ctv, rfl, S, lk⟩ := p.ex
  exact ok_txtInit S lk p.n2
/-- what is wanted where InvalidText(i) is raised -/
def TextE (C : Addr) (H : Hp) (i : Int) (Q : XK) : Prop := ∀ (H' : Hp) (dd : Addr) (fs : List (Str × V)), Same H H' → H' dd = some (.xd fs) → fs.lookup ("row" : Str) = some (V.int i) → Q (.ref C) (some dd) H'
theorem TextE.imp {C : Addr} {H H1 : Hp} {i : Int} {Q : XK} (h : TextE C H i Q) (e : Same H H1) : TextE C H1 i Q := fun H' dd fs sm => h H' dd fs (e.trans sm)
theorem pmk_text {X : Cx} {C fI : Addr} {fd : FuncData} {e1 : Expr} {t1 : TE} {p pos : Pos} (T : Tx X.prog X.K X.mg C fI fd) (hr : Room 2 X.A) (hg : Gl X "InvalidText") (h1 : PE X e1 t1)
    (s1 : starEach [e1] X.env = (false, eval e1 X.env) :: starEach [] X.env := by rfl) (hpl : (backTo pos (starEach [] X.env)).any (·.1) = false := by rfl) :
    PMk X (.Call (.Name "InvalidText" p) [e1] [] pos) (tMkO C (spTI C) [] (tCons t1 tNil)) := by
  have G : FnOk X.prog X.w X.K X.mg X.base CX0 1 fI fd ["self", "row"] (spTI C) := T.ok
  exact pmk_oex T.T T.iC T.tI G hr T.b .nil pass0 hg T.g (pa_cons h1 pa_nil s1) (by decide) s1 hpl
theorem mkT_go {C : Addr} {H : Hp} {i : Int} {Q : XK} (hi : i.natAbs < 2 ^ 100) (q : TextE C H i Q) : [V.int i].length ≤ 1000 ∧ ∀ a, H a = none → spTI C (.ref a :: ([V.int i] ++ [])) (upd H a (exo a C none))
    (fun v H2 => v = .non ∧ ∃ (d : Addr) (fs : List (Str × V)), H2 a = some (exo a C (some d)) ∧ H2 d = some (exd d fs) ∧ H d = none ∧ Q (.ref C) (some d) (upd (del H2 a) d (.xd fs))) (fun _ _ _ => False) := by
  refine ⟨by show 1 ≤ 1000; decide, fun a ha => ⟨a, i, rfl, upd_same, hi, fun d hd hda => ⟨rfl, d, [("row", .int i)], by rw [upd_same], by rw [upd_ne hda, upd_same], ?_, q _ d _ (fun b o hb => ?_) upd_same rfl⟩⟩⟩
  · rw [upd_ne hda] at hd
    exact hd
  · have hd' : H d = none := by
      rw [upd_ne hda] at hd
      exact hd
    have b1 := ne_of_none hb hd'
    have b2 := ne_of_none hb ha
    rw [upd_ne b1, del_ne b2, upd_ne b2, upd_ne b1, upd_ne b2]
    exact hb
end
end Sv
set_option maxHeartbeats 4000000
namespace Sv
open PySem PySem.Spec PyProof.Rows L2
/-- an own class of exceptions as it stands behind the top -/
structure ExcF (K : PySem.W.Frag) (mg : Str → Option Value) (x : Str) (C : Addr) : Prop where
  g : mg x = some (.ref C)
  x : PySem.W.excIn K C [.type "ValueError", .type "Exception", .type "BaseException", .type "object"] "ValueError.__new__" = true
  k : PySem.W.keepIn K (.ref C) = true
  b : PySem.W.subIn K (.ref C) (.type "BaseException") = some true
  t : PySem.W.typeIn K (.ref C) = some (.type "type")
/-- the facts of the program's defs -/
structure Bd (P : Program) (K : PySem.W.Frag) (mg : Str → Option Value) where
  bt : Bt mg
  C : Addr
  aInit : Addr
  dInit : FuncData
  pl : Pl P K mg C aInit dInit
  m1 : ∃ t, mg "MOST_SHELVES" = some (.int 12 t)
  m2 : ∃ t, mg "MOST_ON_SHELF" = some (.int 9 t)
  m3 : ∃ t, mg "MOST_CARRIERS" = some (.int 6 t)
  m4 : ∃ t, mg "MOST_ENTRIES" = some (.int 6 t)
  tlim : ∃ t, mg "TIME_LIMIT" = some (.int 1000000000000000000000000000000 t)
  lastP : ∃ t, mg "LAST_PARCEL" = some (.int 999 t)
  digs : ∃ t, mg "DIGITS" = some (.str "0123456789" t)
  den : ∃ t, mg "DIGITS_ENOUGH" = some (.int 40 t)
  CS : Addr
  cs : ExcF K mg "InvalidState" CS
  CTx : Addr
  aTx : Addr
  dTx : FuncData
  tx : Tx P K mg CTx aTx dTx
  aWithin : Addr
  dWithin : FuncData
  Within : Df K mg "is_within" sWithin ["number", "low", "high"] aWithin dWithin
  aCheckPlan : Addr
  dCheckPlan : FuncData
  CheckPlan : Df K mg "check_plan" sCheckPlan ["plan"] aCheckPlan dCheckPlan
  aCheckSizes : Addr
  dCheckSizes : FuncData
  CheckSizes : Df K mg "check_sizes" sCheckSizes ["sizes"] aCheckSizes dCheckSizes
  aCheckRoutes : Addr
  dCheckRoutes : FuncData
  CheckRoutes : Df K mg "check_routes" sCheckRoutes ["routes", "shelves"] aCheckRoutes dCheckRoutes
  aIsRoute : Addr
  dIsRoute : FuncData
  IsRoute : Df K mg "is_route" sIsRoute ["route", "shelves"] aIsRoute dIsRoute
  aJoin : Addr
  dJoin : FuncData
  Join : Df K mg "join_layout" sJoin ["carried", "shelves"] aJoin dJoin
  aCheckState : Addr
  dCheckState : FuncData
  CheckState : Df K mg "check_state" sCheckState ["plan", "state"] aCheckState dCheckState
  aFits : Addr
  dFits : FuncData
  Fits : Df K mg "fits_plan" sFits ["plan", "carried", "shelves"] aFits dFits
  aTupOf : Addr
  dTupOf : FuncData
  TupOf : Df K mg "is_tuple_of" sTupOf ["row", "length"] aTupOf dTupOf
  aParcels : Addr
  dParcels : FuncData
  Parcels : Df K mg "are_parcels" sParcels ["parcels"] aParcels dParcels
  aFormatPlan : Addr
  dFormatPlan : FuncData
  FormatPlan : Df K mg "format_plan" sFormatPlan ["plan"] aFormatPlan dFormatPlan
  aParsePlan : Addr
  dParsePlan : FuncData
  ParsePlan : Df K mg "parse_plan" sParsePlan ["text"] aParsePlan dParsePlan
  aFormatState : Addr
  dFormatState : FuncData
  FormatState : Df K mg "format_state" sFormatState ["plan", "state"] aFormatState dFormatState
  aParseState : Addr
  dParseState : FuncData
  ParseState : Df K mg "parse_state" sParseState ["plan", "text"] aParseState dParseState
  aLineOf : Addr
  dLineOf : FuncData
  LineOf : Df K mg "line_of" sLineOf ["word", "items"] aLineOf dLineOf
  aTextOfEntry : Addr
  dTextOfEntry : FuncData
  TextOfEntry : Df K mg "text_of_entry" sTextOfEntry ["entry"] aTextOfEntry dTextOfEntry
  aItemsOfLine : Addr
  dItemsOfLine : FuncData
  ItemsOfLine : Df K mg "items_of_line" sItemsOfLine ["lines", "row", "word"] aItemsOfLine dItemsOfLine
  aItemOfText : Addr
  dItemOfText : FuncData
  ItemOfText : Df K mg "item_of_text" sItemOfText ["row", "text", "may_rest"] aItemOfText dItemOfText
  aTimeOfLine : Addr
  dTimeOfLine : FuncData
  TimeOfLine : Df K mg "time_of_line" sTimeOfLine ["line"] aTimeOfLine dTimeOfLine
  aIsNumber : Addr
  dIsNumber : FuncData
  IsNumber : Df K mg "is_number" sIsNumber ["text"] aIsNumber dIsNumber
  aNumberOfText : Addr
  dNumberOfText : FuncData
  NumberOfText : Df K mg "number_of_text" sNumberOfText ["text"] aNumberOfText dNumberOfText
  aLStart : Addr
  dLStart : FuncData
  LStart : Df K mg "_law_start" sStart ["_law_script"] aLStart dLStart
  aLDrawn : Addr
  dLDrawn : FuncData
  LDrawn : Df K mg "_law_drawn" sDrawn ["_law_state", "_law_count"] aLDrawn dLDrawn
  aLSame : Addr
  dLSame : FuncData
  LSame : Df K mg "_law_same" sSame ["_law_result", "_law_expected"] aLSame dLSame
  aLOutcome : Addr
  dLOutcome : FuncData
  LOutcome : Df K mg "_law_outcome" sOutcome ["_law_work"] aLOutcome dLOutcome
  aLRndPlan : Addr
  dLRndPlan : FuncData
  LRndPlan : Df K mg "_law_random_plan" sRndPlan ["_law_state", "_law_shelves", "_law_size"] aLRndPlan dLRndPlan
  aLRndRoute : Addr
  dLRndRoute : FuncData
  LRndRoute : Df K mg "_law_random_route" sRndRoute ["_law_state", "_law_count"] aLRndRoute dLRndRoute
  aLRndState : Addr
  dLRndState : FuncData
  LRndState : Df K mg "_law_random_state" sRndState ["_law_state", "_law_plan"] aLRndState dLRndState
  aLInteger : Addr
  dLInteger : FuncData
  LInteger : Df K mg "_law_integer" sInteger ["_law_word", "_law_negative"] aLInteger dLInteger
  aLPlanOf : Addr
  dLPlanOf : FuncData
  LPlanOf : Df K mg "_law_plan_of" sPlanOf ["_law_text"] aLPlanOf dLPlanOf
  aLStOf : Addr
  dLStOf : FuncData
  LStOf : Df K mg "_law_state_of" sStOf ["_law_plan", "_law_text"] aLStOf dLStOf
  aLChanged : Addr
  dLChanged : FuncData
  LChanged : Df K mg "_law_changed" sChanged ["_law_state", "_law_text"] aLChanged dLChanged
  aLaw : Addr
  dLaw : FuncData
  Law : Df K mg "law" sLaw ["_law_script"] aLaw dLaw
end Sv
set_option maxHeartbeats 4000000
namespace Sv
open PySem PySem.Spec PyProof.Rows L2
def eV : Option Int → V
  | none => .non
  | some i => .int i
def rV (r : Ro) : List V := r.map eV
theorem rV_len (r : Ro) : (rV r).length = r.length := by unfold rV; simp
theorem rV_lt {r : Ro} {i : Nat} {x : V} (h : (rV r)[i]? = some x) : ∃ e, r[i]? = some e ∧ x = eV e := by
  unfold rV at h
  rw [List.getElem?_map] at h
  cases e : r[i]? with
  | none => rw [e] at h; cases h
  | some y =>
    rw [e] at h
    exact ⟨y, rfl, (Option.some.inj h).symm⟩
theorem iV_lt {zs : List Int} {i : Nat} {x : V} (h : (zs.map V.int)[i]? = some x) : ∃ z, zs[i]? = some z ∧ x = .int z := by
  rw [List.getElem?_map] at h
  cases e : zs[i]? with
  | none => rw [e] at h; cases h
  | some y =>
    rw [e] at h
    exact ⟨y, rfl, (Option.some.inj h).symm⟩
theorem refs_lt {qs : List Addr} {i : Nat} {x : V} (h : (qs.map V.ref)[i]? = some x) : ∃ q, qs[i]? = some q ∧ x = .ref q := by
  rw [List.getElem?_map] at h
  cases e : qs[i]? with
  | none => rw [e] at h; cases h
  | some y =>
    rw [e] at h
    exact ⟨y, rfl, (Option.some.inj h).symm⟩
structure RtAt (K : PySem.W.Frag) (H : Hp) (b : Addr) (rs : List Ro) : Prop where
  ex : ∃ qs : List Addr, SqT K H b (qs.map V.ref) ∧ Paired (fun q r => SqT K H q (rV r)) qs rs
theorem paired_same {K : PySem.W.Frag} {H H' : Hp} (e : Same H H') : ∀ {qs : List Addr} {rs : List Ro}, Paired (fun q r => SqT K H q (rV r)) qs rs → Paired (fun q r => SqT K H' q (rV r)) qs rs
  | _, _, .nil => .nil
  | _, _, .cons h t => .cons (sqT_same e h) (paired_same e t)
theorem paired_len {K : PySem.W.Frag} {H : Hp} : ∀ {qs : List Addr} {rs : List Ro}, Paired (fun q r => SqT K H q (rV r)) qs rs → qs.length = rs.length
  | _, _, .nil => rfl
  | _, _, .cons _ t => congrArg Nat.succ (paired_len t)
theorem paired_at {K : PySem.W.Frag} {H : Hp} : ∀ {qs : List Addr} {rs : List Ro} {i : Nat} {q : Addr}, Paired (fun q r => SqT K H q (rV r)) qs rs → qs[i]? = some q → ∃ r, rs[i]? = some r ∧ SqT K H q (rV r)
  | _, _, i, q, .nil, e => by simp at e
  | _, _, 0, q, .cons h t, e => by
    obtain rfl := Option.some.inj e
    exact ⟨_, rfl, h⟩
  | _, _, i + 1, q, .cons h t, e => paired_at (i := i) t (by simpa using e)
theorem RtAt.same {K : PySem.W.Frag} {H H' : Hp} {b : Addr} {rs : List Ro} (x : RtAt K H b rs) (e : Same H H') : RtAt K H' b rs := by
  obtain ⟨qs, h1, h2⟩ := x.ex
  exact ⟨qs, sqT_same e h1, paired_same e h2⟩
/-- a plan in its place -/
structure PlanAt (K : PySem.W.Frag) (H : Hp) (p : Addr) (zs : List Int) (rs : List Ro) : Prop where
  ex : ∃ a b : Addr, SqT K H p [.ref a, .ref b] ∧ SqT K H a (zs.map V.int) ∧ RtAt K H b rs
theorem PlanAt.same {K : PySem.W.Frag} {H H' : Hp} {p : Addr} {zs : List Int} {rs : List Ro} (x : PlanAt K H p zs rs) (e : Same H H') : PlanAt K H' p zs rs := by
  obtain ⟨a, b, h1, h2, h3⟩ := x.ex
  exact ⟨a, b, sqT_same e h1, sqT_same e h2, h3.same e⟩
section
variable {P : Program} {w : World} {K : PySem.W.Frag} {mg : Str → Option Value} {base : Heap}
theorem scIsRoute : FnScope ["route", "shelves", "entry"] ["route", "shelves"] (defScope sIsRoute) := ⟨rfl, rfl, rfl, by decide +kernel, rfl, by decide +kernel, by decide +kernel⟩
def spIsRoute (K : PySem.W.Frag) : Sp := fun vs H Q _ => ∃ (q : Addr) (r : Ro) (n : Int), vs = [.ref q, .int n] ∧ SqT K H q (rV r) ∧ r.length ≤ 1000 ∧ Q (.bl (okR n r)) H
theorem okR_all {n : Int} {r : Ro} (h1 : 1 ≤ r.length ∧ r.length ≤ 6) (h : ∀ (j : Nat) (e : Option Int), r[j]? = some e → okE n e = true) : okR n r = true := by
  unfold okR
  rw [decide_eq_true h1, Bool.true_and]
  refine List.all_eq_true.mpr fun e he => ?_
  obtain ⟨j, hj⟩ := List.mem_iff_getElem?.mp he
  exact h j e hj
theorem okR_no {n : Int} {r : Ro} {j : Nat} {e : Option Int} (h : r[j]? = some e) (hb : okE n e = false) : okR n r = false := by
  unfold okR
  have : r.all (okE n) = false := by
    rw [List.all_eq_false]
    exact ⟨e, List.mem_of_getElem? h, by rw [hb]; decide⟩
  rw [this, Bool.and_false]
theorem ok_isRoute (T : Bd P K mg) : FnOk P w K mg base CX0 2 T.aIsRoute T.dIsRoute ["route", "shelves"] (spIsRoute K) := by
  have GW : FnOk P w K mg base CX0 1 T.aWithin T.dWithin ["number", "low", "high"] spWithin := ok_within T.Within.F T.bt.isinstance T.bt.bool T.bt.int
  obtain ⟨t4, h4⟩ := T.m4
  refine T.IsRoute.F.ok scIsRoute (fun vs H Q E h => ?_) (fun cdv A outer s H vs Q E hr h => ?_)
  · obtain ⟨q, r, n, rfl, _⟩ := h
    rfl
  · obtain ⟨q, r, n, rfl, hq, hl, hQ⟩ := h
    refine ⟨_, pss_cons (ps_if (pw_or (pt_not (pt_val (pe_callB call_isi (by rfl) T.bt.isinstance b_isinstance (pa_cons (pv 0) (pa_cons (pe_ty (by rfl) T.bt.tuple b_tuple) pa_nil)))))
        (pw_or1 (pt_not (pt_chain op_le op_le pe_int (pe_callB call_len_seq (by rfl) T.bt.len b_len (pa_cons (pv 0) pa_nil)) (pe_glob (v := .int 6) (by rfl) h4 ⟨_, rfl⟩))))).pt (pss_one (ps_ret pe_bl)) pss_nil)
      (pss_cons (ps_for PassesOwn.never rfl (pi_tup (pv 0)) (pg_name (i := 2) scIsRoute.nd rfl (Or.inl rfl))
        (pss_one (ps_if (pw_and (pt_cmpR op_notN (pv 2) pe_non (nomark _)) (pw_and1 (pt_not (pt_val (pe_call (E := E0) GW hr (by rfl) T.Within.g T.Within.F.kp T.Within.b .nil pass0 (pa_cons (pv 2) (pa_cons pe_int (pa_cons (pe_op op_sub (pv 1) pe_int) pa_nil)))))))).pt (pss_one (ps_ret pe_bl)) pss_nil)))
      (pss_one (ps_ret pe_bl))), ?_⟩
    refine ⟨.ref q, rfl, .ref q, .ty "tuple", _, _, true, rfl, .ty "tuple", tyx_tup hq, kit_ty (by decide +kernel), true, rfl, iteF ?_⟩
    refine ⟨.ref q, rfl, q, rV r, rfl, .inr hq, 1, _, rfl, rfl, _, rfl, ?_⟩
    rw [rV_len]
    have no : ∀ b, okR n r = b → b = false → Q (.bl false) H := fun b e1 e2 => by
      rw [e1, e2] at hQ
      exact hQ
    by_cases h1 : (1 : Int) ≤ (r.length : Nat)
    · rw [decide_eq_true h1]
      refine iteT ⟨_, _, rfl, rfl, _, rfl, ?_⟩
      by_cases h2 : ((r.length : Nat) : Int) ≤ 6
      · rw [decide_eq_true h2]
        refine iteF ?_
        have hlen : 1 ≤ r.length ∧ r.length ≤ 6 := ⟨by omega, by omega⟩
        refine ⟨.ref q, rfl, q, rfl, ⟨_, hq⟩, for_tup (xs := rV r) (fun i σ H' => (∃ y, σ = [some (.ref q), some (.int n), y]) ∧ H' = H ∧ ∀ j e, j < i → r[j]? = some e → okE n e = true) ⟨⟨none, rfl⟩, rfl, fun j e hj => by omega⟩ (fun i σ H' _ h => by rw [h.2.1]; exact hq)
          (fun i x σ H' hx ⟨⟨y, es⟩, eH, hok⟩ => ?_) (fun σ H' ⟨⟨y, es⟩, eH, hok⟩ => ?_)⟩
        · subst es
          subst eH
          obtain ⟨e, he, rfl⟩ := rV_lt hx
          have more : okE n e = true → ∀ j e', j < i + 1 → r[j]? = some e' → okE n e' = true := fun h j e' hj hh => by
            by_cases hji : j = i
            · rw [hji, he] at hh
              rw [← Option.some.inj hh]
              exact h
            · exact hok j e' (by omega) hh
          cases e with
          | none =>
            refine ⟨.non, rfl, rfl, false, rfl, iteF (iteF ⟨⟨_, rfl⟩, rfl, more rfl⟩)⟩
          | some z =>
            refine ⟨.int z, rfl, rfl, true, rfl, iteT ⟨.int z, rfl, .int n, rfl, n, 1, rfl, rfl, z, 0, n - 1, rfl, _, rfl, ?_⟩⟩
            by_cases hz : 0 ≤ z ∧ z ≤ n - 1
            · rw [decide_eq_true hz]
              exact iteF ⟨⟨_, rfl⟩, rfl, more (decide_eq_true hz)⟩
            · rw [decide_eq_false hz]
              exact iteT (no _ (okR_no he (decide_eq_false hz)) rfl)
        · subst es
          subst eH
          rw [rV_len] at hok
          have : okR n r = true := okR_all hlen fun j e he => hok j e (List.getElem?_eq_some_iff.mp he).1 he
          rw [this] at hQ
          exact hQ
      · rw [decide_eq_false h2]
        refine iteT (no _ ?_ rfl)
        unfold okR
        rw [decide_eq_false (fun z => h2 (by omega)), Bool.false_and]
    · rw [decide_eq_false h1]
      refine iteF ⟨false, rfl, iteT (no _ ?_ rfl)⟩
      unfold okR
      rw [decide_eq_false (fun z => h1 (by omega)), Bool.false_and]
end
end Sv
set_option maxHeartbeats 4000000
namespace Sv
open PySem PySem.Spec PyProof.Rows L2
section
variable {P : Program} {w : World} {K : PySem.W.Frag} {mg : Str → Option Value} {base : Heap}
theorem scCheckSizes : FnScope ["sizes", "index", "size"] ["sizes"] (defScope sCheckSizes) := ⟨rfl, rfl, rfl, by decide +kernel, rfl, by decide +kernel, by decide +kernel⟩
theorem scCheckRoutes : FnScope ["routes", "shelves", "index", "route"] ["routes", "shelves"] (defScope sCheckRoutes) := ⟨rfl, rfl, rfl, by decide +kernel, rfl, by decide +kernel, by decide +kernel⟩
theorem scCheckPlan : FnScope ["plan", "sizes", "routes"] ["plan"] (defScope sCheckPlan) := ⟨rfl, rfl, rfl, by decide +kernel, rfl, by decide +kernel, by decide +kernel⟩
theorem small_idx {i : Nat} (h : i ≤ 1000) : ((i : Nat) : Int).natAbs < 2 ^ 100 := Nat.lt_of_le_of_lt (by omega : ((i : Nat) : Int).natAbs ≤ 1000) (by decide)
def spCheckSizes (K : PySem.W.Frag) (C : Addr) : Sp := fun vs H Q E => ∃ (a : Addr) (zs : List Int), vs = [.ref a] ∧ SqT K H a (zs.map V.int) ∧ zs.length ≤ 1000 ∧ (badS zs = none → ∀ H', Same H H' → Q .non H') ∧ (∀ i, badS zs = some i → PlanE C H "sizes" i E)
theorem ok_checkSizes (T : Bd P K mg) : FnOk P w K mg base (L2.CX P w) 3 T.aCheckSizes T.dCheckSizes ["sizes"] (spCheckSizes K T.C) := by
  have GW : FnOk P w K mg base CX0 1 T.aWithin T.dWithin ["number", "low", "high"] spWithin := ok_within T.Within.F T.bt.isinstance T.bt.bool T.bt.int
  obtain ⟨t1, h1⟩ := T.m1
  obtain ⟨t2, h2⟩ := T.m2
  refine T.CheckSizes.F.okX scCheckSizes (fun vs H Q E h => ?_) (fun cdv A outer s H vs Q E hr h => ?_)
  · obtain ⟨a, zs, rfl, _⟩ := h
    rfl
  · obtain ⟨a, zs, rfl, hA, hl, q1, q2⟩ := h
    refine ⟨_, pss_cons (ps_if (pt_not (pt_chain op_le op_le pe_int (pe_callB call_len_seq (by rfl) T.bt.len b_len (pa_cons (pv 0) pa_nil)) (pe_glob (v := .int 12) (by rfl) h1 ⟨_, rfl⟩)))
        (pss_one (ps_raise rfl (takes_of rfl rfl rfl rfl) (pmk_plan T.pl hr (by rfl) pe_str (pe_un un_neg pe_int)))) pss_nil)
      (pss_one (ps_for (passes_of rfl) rfl (pi_enumT (by rfl) T.bt.enumerate (pa_cons (pv 0) pa_nil)) (pg_tup rfl (pgs_cons (pg_name (i := 1) scCheckSizes.nd rfl (.inl rfl)) (pgs_cons (pg_name (i := 2) scCheckSizes.nd rfl (.inl rfl)) pgs_nil)))
        (pss_one (ps_if (pt_not (pt_val (pe_call (E := E0) GW (hr.mono (by decide)) (by rfl) T.Within.g T.Within.F.kp T.Within.b .nil pass0 (pa_cons (pv 2) (pa_cons pe_int (pa_cons (pe_glob (v := .int 9) (by rfl) h2 ⟨_, rfl⟩) pa_nil))))))
          (pss_one (ps_raise rfl (takes_of rfl rfl rfl rfl) (pmk_plan T.pl hr (by rfl) pe_str (pv 1)))) pss_nil)))), ?_⟩
    have big : (-1 : Int).natAbs < 2 ^ 100 := by decide
    have lw : ("sizes" : Str).length ≤ 1000 := by decide
    have no : ¬ (1 ≤ zs.length ∧ zs.length ≤ 12) → PlanE T.C H "sizes" (-1) E := fun hz => q2 (-1) (by unfold badS; rw [if_neg hz])
    refine ⟨.ref a, rfl, a, _, rfl, .inr hA, 1, _, rfl, rfl, _, rfl, ?_⟩
    rw [List.length_map]
    by_cases c1 : (1 : Int) ≤ (zs.length : Nat)
    · rw [decide_eq_true c1]
      refine iteT ⟨_, _, rfl, rfl, _, rfl, ?_⟩
      by_cases c2 : ((zs.length : Nat) : Int) ≤ 12
      · rw [decide_eq_true c2]
        have hz : 1 ≤ zs.length ∧ zs.length ≤ 12 := ⟨by omega, by omega⟩
        have eb : badS zs = (fst okZ zs 0).map fun (k : Nat) => (k : Int) := by unfold badS; rw [if_pos hz]
        refine iteF ⟨.ref a, rfl, a, _, rfl, hA, for_enumT (xs := zs.map V.int) (fun i σ H' => (∃ y1 y2, σ = [some (.ref a), y1, y2]) ∧ Same H H' ∧ ∀ (j : Nat) (z : Int), j < i → zs[j]? = some z → okZ z = true) ⟨⟨none, none, rfl⟩, fun _ _ h => h, fun j z hj => by omega⟩
          (fun i σ H' _ h => sqT_same h.2.1 hA) (fun i x σ H' U hx ⟨⟨y1, y2, es⟩, sm, hok⟩ hU => ?_) (fun σ H' ⟨_, sm, hok⟩ => ?_)⟩
        · subst es
          obtain ⟨z, hz1, rfl⟩ := iV_lt hx
          have sm2 : Same H (upd H' U (.tup [.int (i : Nat), .int z])) := same_of sm (Same.free sm hU)
          refine ⟨U, [.int (i : Nat), .int z], rfl, .inl (.inl upd_same), rfl, _, _, rfl, _, _, rfl, rfl, ?_⟩
          refine ⟨.int z, rfl, z, 0, 9, rfl, _, rfl, ?_⟩
          by_cases hzz : 0 ≤ z ∧ z ≤ 9
          · rw [decide_eq_true hzz]
            refine iteF ⟨⟨_, _, rfl⟩, sm2, fun j z' hj hz' => ?_⟩
            by_cases hji : j = i
            · rw [hji, hz1] at hz'
              rw [← Option.some.inj hz']
              exact decide_eq_true hzz
            · exact hok j z' (by omega) hz'
          · rw [decide_eq_false hzz]
            have il : i < zs.length := (List.getElem?_eq_some_iff.mp hz1).1
            refine iteT ⟨.int (i : Nat), rfl, mk_go lw (small_idx (by omega)) ((q2 i ?_).imp sm2)⟩
            rw [eb, fst_some (i := i) (x := z) hok hz1 (decide_eq_false hzz)]
            rfl
        · rw [List.length_map] at hok
          refine q1 ?_ H' sm
          rw [eb, fst_none fun j z hz' => hok j z (List.getElem?_eq_some_iff.mp hz').1 hz']
          rfl
      · rw [decide_eq_false c2]
        exact iteT ⟨1, rfl, mk_go lw big (no fun z => c2 (by omega))⟩
    · rw [decide_eq_false c1]
      exact iteF ⟨false, rfl, iteT ⟨1, rfl, mk_go lw big (no fun z => c1 (by omega))⟩⟩
def spCheckRoutes (K : PySem.W.Frag) (C : Addr) : Sp := fun vs H Q E => ∃ (b : Addr) (rs : List Ro) (n : Int), vs = [.ref b, .int n] ∧ RtAt K H b rs ∧ rs.length ≤ 1000 ∧ (∀ r ∈ rs, r.length ≤ 1000) ∧ (badR n rs = none → ∀ H', Same H H' → Q .non H') ∧ (∀ i, badR n rs = some i → PlanE C H "routes" i E)
theorem ok_checkRoutes (T : Bd P K mg) : FnOk P w K mg base (L2.CX P w) 3 T.aCheckRoutes T.dCheckRoutes ["routes", "shelves"] (spCheckRoutes K T.C) := by
  have GT : FnOk P w K mg base CX0 2 T.aIsRoute T.dIsRoute ["route", "shelves"] (spIsRoute K) := ok_isRoute T
  obtain ⟨t3, h3⟩ := T.m3
  refine T.CheckRoutes.F.okX scCheckRoutes (fun vs H Q E h => ?_) (fun cdv A outer s H vs Q E hr h => ?_)
  · obtain ⟨b, rs, n, rfl, _⟩ := h
    rfl
  · obtain ⟨b, rs, n, rfl, hB, hl, hrl, q1, q2⟩ := h
    obtain ⟨qs, hA, hP⟩ := hB.ex
    have hql := paired_len hP
    refine ⟨_, pss_cons (ps_if (pt_not (pt_chain op_le op_le pe_int (pe_callB call_len_seq (by rfl) T.bt.len b_len (pa_cons (pv 0) pa_nil)) (pe_glob (v := .int 6) (by rfl) h3 ⟨_, rfl⟩)))
        (pss_one (ps_raise rfl (takes_of rfl rfl rfl rfl) (pmk_plan T.pl hr (by rfl) pe_str (pe_un un_neg pe_int)))) pss_nil)
      (pss_one (ps_for (passes_of rfl) rfl (pi_enumT (by rfl) T.bt.enumerate (pa_cons (pv 0) pa_nil)) (pg_tup rfl (pgs_cons (pg_name (i := 2) scCheckRoutes.nd rfl (.inl rfl)) (pgs_cons (pg_name (i := 3) scCheckRoutes.nd rfl (.inl rfl)) pgs_nil)))
        (pss_one (ps_if (pt_not (pt_val (pe_call (E := E0) GT hr (by rfl) T.IsRoute.g T.IsRoute.F.kp T.IsRoute.b .nil pass0 (pa_cons (pv 3) (pa_cons (pv 1) pa_nil)))))
          (pss_one (ps_raise rfl (takes_of rfl rfl rfl rfl) (pmk_plan T.pl hr (by rfl) pe_str (pv 2)))) pss_nil)))), ?_⟩
    have big : (-1 : Int).natAbs < 2 ^ 100 := by decide
    have lw : ("routes" : Str).length ≤ 1000 := by decide
    have no : ¬ (1 ≤ rs.length ∧ rs.length ≤ 6) → PlanE T.C H "routes" (-1) E := fun hz => q2 (-1) (by unfold badR; rw [if_neg hz])
    refine ⟨.ref b, rfl, b, _, rfl, .inr hA, 1, _, rfl, rfl, _, rfl, ?_⟩
    rw [List.length_map, hql]
    by_cases c1 : (1 : Int) ≤ (rs.length : Nat)
    · rw [decide_eq_true c1]
      refine iteT ⟨_, _, rfl, rfl, _, rfl, ?_⟩
      by_cases c2 : ((rs.length : Nat) : Int) ≤ 6
      · rw [decide_eq_true c2]
        have hz : 1 ≤ rs.length ∧ rs.length ≤ 6 := ⟨by omega, by omega⟩
        have eb : badR n rs = (fst (okR n) rs 0).map fun (k : Nat) => (k : Int) := by unfold badR; rw [if_pos hz]
        refine iteF ⟨.ref b, rfl, b, _, rfl, hA, for_enumT (xs := qs.map V.ref) (fun i σ H' => (∃ y1 y2, σ = [some (.ref b), some (.int n), y1, y2]) ∧ Same H H' ∧ ∀ (j : Nat) (r : Ro), j < i → rs[j]? = some r → okR n r = true) ⟨⟨none, none, rfl⟩, fun _ _ h => h, fun j z hj => by omega⟩
          (fun i σ H' _ h => sqT_same h.2.1 hA) (fun i x σ H' U hx ⟨⟨y1, y2, es⟩, sm, hok⟩ hU => ?_) (fun σ H' ⟨_, sm, hok⟩ => ?_)⟩
        · subst es
          obtain ⟨qa, hqa, rfl⟩ := refs_lt hx
          obtain ⟨r, hr1, hqr⟩ := paired_at hP hqa
          have sm2 : Same H (upd H' U (.tup [.int (i : Nat), .ref qa])) := same_of sm (Same.free sm hU)
          refine ⟨U, [.int (i : Nat), .ref qa], rfl, .inl (.inl upd_same), rfl, _, _, rfl, _, _, rfl, rfl, ?_⟩
          refine ⟨.ref qa, rfl, .int n, rfl, qa, r, n, rfl, sqT_same sm2 hqr, hrl r (List.mem_of_getElem? hr1), _, rfl, ?_⟩
          by_cases hzz : okR n r = true
          · rw [hzz]
            refine iteF ⟨⟨_, _, rfl⟩, sm2, fun j z' hj hz' => ?_⟩
            by_cases hji : j = i
            · rw [hji, hr1] at hz'
              rw [← Option.some.inj hz']
              exact hzz
            · exact hok j z' (by omega) hz'
          · have hzf : okR n r = false := by simpa using hzz
            rw [hzf]
            have il : i < rs.length := (List.getElem?_eq_some_iff.mp hr1).1
            refine iteT ⟨.int (i : Nat), rfl, mk_go lw (small_idx (by omega)) ((q2 i ?_).imp sm2)⟩
            rw [eb, fst_some (i := i) (x := r) hok hr1 hzf]
            rfl
        · rw [List.length_map, hql] at hok
          refine q1 ?_ H' sm
          rw [eb, fst_none fun j z hz' => hok j z (List.getElem?_eq_some_iff.mp hz').1 hz']
          rfl
      · rw [decide_eq_false c2]
        exact iteT ⟨1, rfl, mk_go lw big (no fun z => c2 (by omega))⟩
    · rw [decide_eq_false c1]
      exact iteF ⟨false, rfl, iteT ⟨1, rfl, mk_go lw big (no fun z => c1 (by omega))⟩⟩
def spCheckPlan (K : PySem.W.Frag) (C : Addr) : Sp := fun vs H Q E => ∃ (p : Addr) (zs : List Int) (rs : List Ro), vs = [.ref p] ∧ PlanAt K H p zs rs ∧ Small zs rs ∧ (bad zs rs = none → ∀ H', Same H H' → Q .non H') ∧ (∀ part i, bad zs rs = some (part, i) → PlanE C H part i E)
theorem ok_checkPlan (T : Bd P K mg) : FnOk P w K mg base (L2.CX P w) 4 T.aCheckPlan T.dCheckPlan ["plan"] (spCheckPlan K T.C) := by
  have GS : FnOk P w K mg base (L2.CX P w) 3 T.aCheckSizes T.dCheckSizes ["sizes"] (spCheckSizes K T.C) := ok_checkSizes T
  have GR : FnOk P w K mg base (L2.CX P w) 3 T.aCheckRoutes T.dCheckRoutes ["routes", "shelves"] (spCheckRoutes K T.C) := ok_checkRoutes T
  refine T.CheckPlan.F.okX scCheckPlan (fun vs H Q E h => ?_) (fun cdv A outer s H vs Q E hr h => ?_)
  · obtain ⟨p, zs, rs, rfl, _⟩ := h
    rfl
  · obtain ⟨p, zs, rs, rfl, hp, ⟨l1, l2, l3⟩, q1, q2⟩ := h
    obtain ⟨a, b, hp1, ha, hb⟩ := hp.ex
    refine ⟨_, pss_cons (ps_asg (pv 0) (pg_tup rfl (pgs_cons (pg_name (i := 1) scCheckPlan.nd rfl (.inl rfl)) (pgs_cons (pg_name (i := 2) scCheckPlan.nd rfl (.inl rfl)) pgs_nil))))
      (pss_cons (ps_expr (pe_call (E := E) GS hr (by rfl) T.CheckSizes.g T.CheckSizes.F.kp T.CheckSizes.b .nil (passes_call (takes_of rfl rfl rfl rfl) fun _ _ _ _ h => h) (pa_cons (pv 1) pa_nil)))
      (pss_one (ps_expr (pe_call (E := E) GR hr (by rfl) T.CheckRoutes.g T.CheckRoutes.F.kp T.CheckRoutes.b .nil (passes_call (takes_of rfl rfl rfl rfl) fun _ _ _ _ h => h) (pa_cons (pv 2) (pa_cons (pe_callB call_len_seq (by rfl) T.bt.len b_len (pa_cons (pv 1) pa_nil)) pa_nil)))))), ?_⟩
    refine ⟨.ref p, rfl, p, [.ref a, .ref b], rfl, hp1, rfl, _, _, rfl, _, _, rfl, rfl, ?_⟩
    refine ⟨.ref a, rfl, a, zs, rfl, ha, l1, fun e1 H1 sm1 => ?_, fun i e1 => q2 _ i ?_⟩
    · refine ⟨.ref b, rfl, .ref a, rfl, a, _, rfl, .inr (sqT_same sm1 ha), b, rs, _, rfl, hb.same sm1, l2, l3, fun e2 H2 sm2 => q1 ?_ H2 (sm1.trans sm2), fun i e2 => (q2 "routes" i ?_).imp sm1⟩
      · unfold bad
        rw [e1]
        rw [List.length_map] at e2
        simp only [e2, Option.map_none]
      · unfold bad
        rw [e1]
        rw [List.length_map] at e2
        simp only [e2, Option.map_some]
    · unfold bad
      rw [e1]
end
end Sv
set_option maxHeartbeats 4000000
namespace Sv
open PySem PySem.Spec PyProof.Rows L2
abbrev TupsV (H : Hp) (ps : List Addr) (ts : List (List V)) : Prop := Paired (fun p t => H p = some (.tup t)) ps ts
theorem tupsV_imp {H H' : Hp} (e : ∀ b xs, H b = some (.tup xs) → H' b = some (.tup xs)) : ∀ {ps : List Addr} {ts : List (List V)}, TupsV H ps ts → TupsV H' ps ts
  | _, _, .nil => .nil
  | _, _, .cons h t => .cons (e _ _ h) (tupsV_imp e t)
theorem tupsV_same {H H' : Hp} (e : Same H H') {ps : List Addr} {ts : List (List V)} (h : TupsV H ps ts) : TupsV H' ps ts := tupsV_imp (fun b xs q => e _ _ q) h
theorem tupsV_len {H : Hp} : ∀ {ps : List Addr} {ts : List (List V)}, TupsV H ps ts → ps.length = ts.length
  | _, _, .nil => rfl
  | _, _, .cons _ t => congrArg Nat.succ (tupsV_len t)
theorem tupsV_app {H : Hp} : ∀ {ps qs : List Addr} {ts us : List (List V)}, TupsV H ps ts → TupsV H qs us → TupsV H (ps ++ qs) (ts ++ us)
  | _, _, _, _, .nil, h => h
  | _, _, _, _, .cons h t, h2 => .cons h (tupsV_app t h2)
theorem tupsV_snoc {H : Hp} {p : Addr} {t : List V} {ps : List Addr} {ts : List (List V)} (h : TupsV H ps ts) (hp : H p = some (.tup t)) : TupsV H (ps ++ [p]) (ts ++ [t]) := tupsV_app h (.cons hp .nil)
/-- at f a list of new tuples -/
structure TL (H : Hp) (f : Addr) (ts : List (List V)) : Prop where
  ex : ∃ ps : List Addr, H f = some (.lst (ps.map V.ref)) ∧ TupsV H ps ts
theorem TL.same {H H' : Hp} {f : Addr} {ts : List (List V)} (x : TL H f ts) (e : Same H H') : TL H' f ts := by
  obtain ⟨ps, h1, h2⟩ := x.ex
  exact ⟨ps, e _ _ h1, tupsV_same e h2⟩
/-- one more behind -/
theorem TL.push {H : Hp} {f p : Addr} {ts : List (List V)} {t : List V} {xs : List V} (x : TL H f ts) (hf : H f = some (.lst xs)) (hp : H p = some (.tup t)) : TL (upd H f (.lst (xs ++ [.ref p]))) f (ts ++ [t]) := by
  obtain ⟨ps, h1, h2⟩ := x.ex
  rw [hf] at h1
  obtain rfl := HO.lst.inj (Option.some.inj h1)
  refine ⟨ps ++ [p], by rw [upd_same, List.map_append]; rfl, tupsV_imp (fun b xs q => ?_) (tupsV_snoc h2 hp)⟩
  rw [upd_ne (fun z => by rw [z, hf] at q; cases q)]
  exact q
def NewTL (H : Hp) (ts : List (List V)) (Q : VK) : Prop := ∀ H' f, Same H H' → H f = none → TL H' f ts → Q (.ref f) H'
end Sv
set_option maxHeartbeats 4000000
namespace Sv
open PySem PySem.Spec PyProof.Rows L2
def dE : Option Int → PyData
  | none => .none
  | some i => .int i
def dRs (r : Ro) : List PyData := r.map dE
def dR (r : Ro) : PyData := .tuple (dRs r)
theorem dp_eV {K : PySem.W.Frag} {H : Hp} : ∀ e : Option Int, Dp K H (eV e) (dE e)
  | none => .non
  | some i => .int i
theorem dpAll_rV {K : PySem.W.Frag} {H : Hp} : ∀ r : Ro, DpAll K H (rV r) (dRs r)
  | [] => .nil
  | e :: r => .cons (dp_eV e) (dpAll_rV r)
theorem dp_rV {K : PySem.W.Frag} {H : Hp} {a : Addr} {r : Ro} (h : SqT K H a (rV r)) : Dp K H (.ref a) (dR r) := .tup h (dpAll_rV r)
@[irreducible] def qCat (K : PySem.W.Frag) : R2 := rCatA K
@[irreducible] def qNe (K : PySem.W.Frag) : R2 := rNeD K
@[irreducible] def qEq (K : PySem.W.Frag) : R2 := rEqD K
theorem op_catQ {X : Cx} : OpR X (binaryOp .Add) (qCat X.K) := by
  unfold qCat
  exact op_catA
theorem op_neQ {X : Cx} (hu : X.A.units + 64 < cLine) : OpR X (compareOp .NotEq) (qNe X.K) := by
  unfold qNe
  exact op_neD hu
theorem op_eqQ {X : Cx} (hu : X.A.units + 64 < cLine) : OpR X (compareOp .Eq) (qEq X.K) := by
  unfold qEq
  exact op_eqD hu
section
variable {K : PySem.W.Frag} {H : Hp} {a b : Addr} {xs ys : List V} {lo hi : Option Int} {Q : VK}
theorem cat_go (hA : SqT K H a xs) (hB : SqT K H b ys) (hl : xs.length + ys.length ≤ 1000) (q : ∀ H' p, Same H H' → SqT K H' p (xs ++ ys) → Q (.ref p) H') : qCat K (.ref a) (.ref b) H Q := by
  unfold qCat
  refine ⟨a, b, _, _, rfl, rfl, hA, hB, sz1000 hl, fun z => ?_, fun _ z => ?_, fun _ _ p hp => q _ p (same_upd hp) (.inl (.inl upd_same))⟩
  · subst z
    exact q H b (fun _ _ h => h) hB
  · subst z
    exact q H a (fun _ _ h => h) (by rw [List.append_nil]; exact hA)
theorem cut_from {xs : List V} {k : Nat} : cutV xs (some (k : Int)) none = xs.drop k := by
  unfold cutV
  rw [HT.sIx_nat, HT.sIx_none]
  by_cases h : k ≤ xs.length
  · rw [Nat.min_eq_left h]
    exact List.take_of_length_le (by rw [List.length_drop]; omega)
  · rw [Nat.min_eq_right (by omega), List.drop_of_length_le (Nat.le_refl _), List.drop_of_length_le (by omega), List.take_nil]
theorem cut_to {xs : List V} {k : Nat} : cutV xs none (some (k : Int)) = xs.take k := by
  unfold cutV
  rw [HT.sIx_nat, HT.sIx_none, List.drop_zero, Nat.sub_zero]
  by_cases h : k ≤ xs.length
  · rw [Nat.min_eq_left h]
  · rw [Nat.min_eq_right (by omega), List.take_of_length_le (Nat.le_refl _), List.take_of_length_le (by omega)]
end
end Sv
set_option maxHeartbeats 4000000
namespace Sv
open PySem PySem.Spec PyProof.Rows L2
section
variable {P : Program} {w : World} {K : PySem.W.Frag} {mg : Str → Option Value} {base : Heap}
theorem NewTL.imp {H H1 : Hp} {ts : List (List V)} {Q : VK} (h : NewTL H ts Q) (e : Same H H1) : NewTL H1 ts Q := fun H' f sm hf tl => h H' f (e.trans sm) (Same.free e hf) tl
end
end Sv
set_option maxHeartbeats 4000000
namespace Sv
open PySem PySem.Spec PyProof.Rows L2
theorem TL.len {H : Hp} {f : Addr} {ts : List (List V)} {xs : List V} (x : TL H f ts) (hf : H f = some (.lst xs)) : xs.length = ts.length := by
  obtain ⟨ps, h1, h2⟩ := x.ex
  rw [hf] at h1
  obtain rfl := HO.lst.inj (Option.some.inj h1)
  rw [List.length_map, tupsV_len h2]
end Sv
set_option maxHeartbeats 4000000
namespace Sv
open PySem PySem.Spec PyProof.Rows L2
def rSumT (K : PySem.W.Frag) : List V → Hp → VK → Prop := fun vs H Q => ∃ (a : Addr) (ns : List Int), vs = [V.ref a] ∧ SqT K H a (ns.map V.int) ∧ Q (.int ns.sum) H
theorem cr_sumT {X : Cx} (hc : X.calm = true) : CallR X (.builtin "sum") (rSumT X.K) := by
  intro pins s σ H vs us Q I r h
  obtain ⟨a, ns, rfl, hs, q⟩ := h
  obtain ⟨its, rv, hl, _⟩ := I.tuple hs
  rw [Vals.ref1 r]
  have hi := rv.ints
  obtain ⟨xs, e⟩ := hi.allInts.items
  have hn : numsOf (intItems xs).toList = ns := by rw [← e]; exact hi.numsOf
  rw [nums_intItems] at hn
  rw [e] at hl
  refine PySem.W.ktm_sumG (I.ok.hd hc) hl fun h' tk t' hk => ?_
  rw [preSum_eq, List.take_of_length_le (by simp), hn]
  exact ⟨.int ns.sum, H, I.kept hk, ⟨_, rfl⟩, q⟩
abbrev SegV (H : Hp) (qs : List Addr) (ss : List (List Int)) : Prop := Paired (fun q seg => H q = some (.tup (seg.map V.int))) qs ss
theorem segV_imp {H H' : Hp} (e : ∀ b xs, H b = some (.tup xs) → H' b = some (.tup xs)) : ∀ {ps : List Addr} {ts : List (List Int)}, SegV H ps ts → SegV H' ps ts
  | _, _, .nil => .nil
  | _, _, .cons h t => .cons (e _ _ h) (segV_imp e t)
theorem segV_len {H : Hp} : ∀ {ps : List Addr} {ts : List (List Int)}, SegV H ps ts → ps.length = ts.length
  | _, _, .nil => rfl
  | _, _, .cons _ t => congrArg Nat.succ (segV_len t)
theorem segV_snoc {H : Hp} {p : Addr} {t : List Int} (hp : H p = some (.tup (t.map V.int))) : ∀ {ps : List Addr} {ts : List (List Int)}, SegV H ps ts → SegV H (ps ++ [p]) (ts ++ [t])
  | _, _, .nil => .cons hp .nil
  | _, _, .cons h r => .cons h (segV_snoc hp r)
/-- a layout: who is carried, who lies where -/
structure LayAt (H : Hp) (ca sh : Addr) (cs : List Int) (ss : List (List Int)) : Prop where
  c : H ca = some (.tup (cs.map V.int))
  s : ∃ qs : List Addr, H sh = some (.tup (qs.map V.ref)) ∧ SegV H qs ss
theorem LayAt.same {H H' : Hp} {ca sh : Addr} {cs : List Int} {ss : List (List Int)} (x : LayAt H ca sh cs ss) (e : Same H H') : LayAt H' ca sh cs ss := by
  obtain ⟨qs, h1, h2⟩ := x.s
  exact ⟨e _ _ x.c, qs, e _ _ h1, segV_imp (fun b xs q => e _ _ q) h2⟩
theorem cut_seg {xs : List V} {st k : Nat} : cutV xs (some (st : Int)) (some (((st : Nat) : Int) + (k : Nat))) = (xs.drop st).take k := by
  have e : ((st : Nat) : Int) + (k : Nat) = ((st + k : Nat) : Int) := by omega
  unfold cutV
  rw [e, HT.sIx_nat, HT.sIx_nat]
  by_cases h1 : st + k ≤ xs.length
  · rw [Nat.min_eq_left h1, Nat.min_eq_left (by omega)]
    congr 1
    omega
  · by_cases h2 : st ≤ xs.length
    · rw [Nat.min_eq_right (by omega), Nat.min_eq_left h2, List.take_of_length_le (by rw [List.length_drop]; omega), List.take_of_length_le (by rw [List.length_drop]; omega)]
    · rw [Nat.min_eq_right (by omega), Nat.min_eq_right (by omega), List.drop_of_length_le (by omega : xs.length ≤ st), List.drop_of_length_le (Nat.le_refl _), List.take_nil, List.take_nil]
section
variable {P : Program} {w : World} {K : PySem.W.Frag} {mg : Str → Option Value} {base : Heap}
theorem sumN_le {zs : List Int} (h : ∀ z ∈ zs, 0 ≤ z ∧ z ≤ 9) : sumN zs ≤ 9 * zs.length := by
  unfold sumN
  induction zs with
  | nil => exact Nat.le_refl _
  | cons z zs ih =>
    have h1 := h z (List.mem_cons_self ..)
    have h2 := ih fun x hx => h x (List.mem_cons_of_mem _ hx)
    rw [List.map_cons, List.sum_cons, List.length_cons]
    omega
end
end Sv
set_option maxHeartbeats 8000000
namespace Sv
open PySem PySem.Spec PyProof.Rows L2 LamX NdefX
section
variable {P : Program} {w : World} {K : PySem.W.Frag} {mg : Str → Option Value} {base : Heap}
theorem tyx_lst {H : Hp} {a : Addr} {xs : List V} (h : SqL K H a xs) : TyX K H (.ref a) (.type "list") := by
  rcases h with (h | ⟨o, h⟩) | ⟨o, its, n, h1, h2, _⟩
  · exact .base (.lst h)
  · exact .base (.frz h)
  · exact .kList h1 h2
mutual
theorem dp_same {H H' : Hp} (e : Same H H') : ∀ (d : PyData) (v : V), Dp K H v d → Dp K H' v d
  | .none, _, h => by cases h; exact .non
  | .bool b, _, h => by cases h; exact .bl b
  | .int i, _, h => by cases h; exact .int i
  | .str x, _, h => by cases h; exact .str x
  | .list ds, _, h => by
    cases h with
    | lst hs ha => exact .lst (e.seq hs) (dpAll_same e ds _ ha)
  | .tuple ds, _, h => by
    cases h with
    | tup hs ha => exact .tup (sqT_same e hs) (dpAll_same e ds _ ha)
  | .dict _, _, h => by cases h
theorem dpAll_same {H H' : Hp} (e : Same H H') : ∀ (ds : List PyData) (vs : List V), DpAll K H vs ds → DpAll K H' vs ds
  | [], _, h => by cases h; exact .nil
  | d :: ds, _, h => by
    cases h with
    | cons h1 h2 => exact .cons (dp_same e d _ h1) (dpAll_same e ds _ h2)
end
theorem dpAll_len {H : Hp} : ∀ {vs : List V} {ds : List PyData}, DpAll K H vs ds → vs.length = ds.length
  | [], _, h => by cases h; rfl
  | v :: vs, _, h => by
    cases h with
    | cons h1 h2 => exact congrArg Nat.succ (dpAll_len h2)
theorem dpAll_at {H : Hp} : ∀ {vs : List V} {ds : List PyData} {i : Nat} {d : PyData}, DpAll K H vs ds → ds[i]? = some d → ∃ v, vs[i]? = some v ∧ Dp K H v d
  | [], _, i, d, h, e => by cases h; simp at e
  | v :: vs, _, 0, d, h, e => by
    cases h with
    | cons h1 h2 =>
      obtain rfl := Option.some.inj e
      exact ⟨v, rfl, h1⟩
  | v :: vs, _, i + 1, d, h, e => by
    cases h with
    | cons h1 h2 =>
      obtain ⟨x, h3, h4⟩ := dpAll_at (vs := vs) (i := i) h2 (by simpa using e)
      exact ⟨x, by simpa using h3, h4⟩
mutual
/-- how deep, and no list too long -/
def okD : Nat → PyData → Bool
  | 0, .list _ => false
  | 0, .tuple _ => false
  | n + 1, .list ds => decide (ds.length ≤ 1000) && okDs n ds
  | n + 1, .tuple ds => decide (ds.length ≤ 1000) && okDs n ds
  | _, .dict _ => false
  | _, _ => true
def okDs : Nat → List PyData → Bool
  | _, [] => true
  | n, d :: ds => okD n d && okDs n ds
end
theorem okDs_at : ∀ {n : Nat} {ds : List PyData} {i : Nat} {d : PyData}, okDs n ds = true → ds[i]? = some d → okD n d = true
  | n, [], i, d, _, e => by simp at e
  | n, x :: ds, 0, d, h, e => by
    obtain rfl := Option.some.inj e
    rw [okDs, Bool.and_eq_true] at h
    exact h.1
  | n, x :: ds, i + 1, d, h, e => by
    rw [okDs, Bool.and_eq_true] at h
    exact okDs_at (n := n) (ds := ds) (i := i) h.2 e
def spAlike (K : PySem.W.Frag) (n : Nat) : Sp := fun vs H Q _ => ∃ (v1 v2 : V) (d : PyData), vs = [v1, v2] ∧ Dp K H v1 d ∧ Dp K H v2 d ∧ okD n d = true ∧ ∀ H', Same H H' → Q (.bl true) H'
end
end Sv
set_option maxHeartbeats 4000000
namespace Sv
open PySem PySem.Spec PyProof.Rows L2
section
variable {P : Program} {w : World} {K : PySem.W.Frag} {mg : Str → Option Value} {base : Heap}
theorem scSame : FnScope ["_law_result", "_law_expected", "_law_k"] ["_law_result", "_law_expected"] (defScope sSame) := ⟨rfl, rfl, rfl, by decide +kernel, rfl, by decide +kernel, by decide +kernel⟩
theorem same_step {f : Addr} {fd : FuncData} (F : Df K mg "_law_same" sSame ["_law_result", "_law_expected"] f fd) (B : Bt mg) (n : Nat) (spS : Sp) (GS : FnOk P w K mg base CX0 n f fd ["_law_result", "_law_expected"] spS)
    (hS : ∀ m, n = m + 1 → ∀ vs H Q E, spAlike K m vs H Q E → spS vs H Q E) : FnOk P w K mg base CX0 (n + 1) f fd ["_law_result", "_law_expected"] (spAlike K n) := by
  refine F.F.ok scSame (fun vs H Q E h => ?_) (fun cdv A outer s H vs Q E hr h => ?_)
  · obtain ⟨v1, v2, d, rfl, _⟩ := h
    rfl
  · obtain ⟨v1, v2, d, rfl, h1, h2, hok, q⟩ := h
    refine ⟨_, (pss_cons (ps_if (pt_val (pe_callB call_isiT (by rfl) B.isinstance b_isinstance (pa_cons (pv 1) (pa_cons (pe_tup (pa_cons (pe_ty (by rfl) B.tuple b_tuple) (pa_cons (pe_ty (by rfl) B.list b_list) pa_nil))) pa_nil))))
        (pss_cons (ps_if (pw_or (pt_not (pt_val (pe_callB call_isiT (by rfl) B.isinstance b_isinstance (pa_cons (pv 0) (pa_cons (pe_tup (pa_cons (pe_ty (by rfl) B.tuple b_tuple) (pa_cons (pe_ty (by rfl) B.list b_list) pa_nil))) pa_nil)))))
            (pw_or1 (pt_cmpR op_ne (pe_callB call_isi (by rfl) B.isinstance b_isinstance (pa_cons (pv 0) (pa_cons (pe_ty (by rfl) B.list b_list) pa_nil))) (pe_callB call_isi (by rfl) B.isinstance b_isinstance (pa_cons (pv 1) (pa_cons (pe_ty (by rfl) B.list b_list) pa_nil))) (nomark _)))).pt pss_never pss_nil)
        (pss_cons (ps_if (pt_cmpR op_ne (pe_callB call_len_seq (by rfl) B.len b_len (pa_cons (pv 0) pa_nil)) (pe_callB call_len_seq (by rfl) B.len b_len (pa_cons (pv 1) pa_nil)) (nomark _)) pss_never pss_nil)
        (pss_one (ps_ret (pe_cmpR (op_eqD hr.units)
          (pe_lc (own := [("_law_k", 2)]) (g := gName 2) (tt := tNot (tB (tCall spS [] E0 (tCons (tOp (rIx K) (tVar 0) (tVar 2)) (tCons (tOp (rIx K) (tVar 1) (tVar 2)) tNil))))) (te := tVar 2) rfl scSame.nd
            (pi_range1 (by rfl) B.range (pa_cons (pe_callB call_len_seq (by rfl) B.len b_len (pa_cons (pv 1) pa_nil)) pa_nil)) (blkOk_by (N := ["_law_result", "_law_expected", "_law_k"]) (sc := defScope sSame) (by decide +kernel))
            (fun _ _ _ _ _ => pg_name (i := 2) scSame.nd rfl (Or.inl rfl))
            (fun _ _ _ _ _ => pts_one (pt_not (pt_val (pe_call GS hr (by rfl) F.g F.F.kp F.b .nil pass0 (pa_cons (pe_ix ix_seq (pv 0) (pv 2) (fun _ _ => rfl)) (pa_cons (pe_ix ix_seq (pv 1) (pv 2) (fun _ _ => rfl)) pa_nil))))))
            (fun _ _ _ _ _ => pv 2)) (pe_lst pa_nil) (nomark _)))))) pss_nil)
      (pss_cons (ps_if (pt_cmpR op_ne (pe_callB call_isi (by rfl) B.isinstance b_isinstance (pa_cons (pv 0) (pa_cons (pe_ty (by rfl) B.bool b_bool) pa_nil))) (pe_callB call_isi (by rfl) B.isinstance b_isinstance (pa_cons (pv 1) (pa_cons (pe_ty (by rfl) B.bool b_bool) pa_nil))) (nomark _)) pss_never pss_nil)
      (pss_one (ps_ret (pe_and (pe_cmpR op_eq (pe_callB call_isi (by rfl) B.isinstance b_isinstance (pa_cons (pv 0) (pa_cons (pe_ty (by rfl) B.int b_int) pa_nil))) (pe_callB call_isi (by rfl) B.isinstance b_isinstance (pa_cons (pv 1) (pa_cons (pe_ty (by rfl) B.int b_int) pa_nil))) (nomark _)) (pe_one (pe_cmpR op_eq (pv 0) (pv 1) (nomark _)))))))), ?_⟩
    have tupcs : Paired ClsV [V.ty "tuple", V.ty "list"] [Value.type "tuple", Value.type "list"] := .cons (.ty "tuple") (.cons (.ty "list") .nil)
    cases d with
    | none =>
      cases h1
      cases h2
      refine ⟨.non, rfl, (by show 2 ≤ sizeLine; decide), fun p hp => ?_⟩
      refine ⟨.non, p, _, _, _, false, rfl, upd_same, tupcs, .base .non, kitAny_cons (b := false) (kit_ty (by decide +kernel)) (fun _ => kitAny_cons (b := false) (kit_ty (by decide +kernel)) (fun _ => kitAny_nil) (fun z => by cases z)) (fun z => by cases z), false, rfl, iteF ?_⟩
      refine ⟨.non, rfl, .non, .ty "bool", _, _, false, rfl, .ty "bool", .base .non, kit_ty (by decide +kernel), ?_⟩
      refine ⟨.non, rfl, .non, .ty "bool", _, _, false, rfl, .ty "bool", .base .non, kit_ty (by decide +kernel), rfl, false, rfl, iteF ?_⟩
      refine ⟨.non, rfl, .non, .ty "int", _, _, false, rfl, .ty "int", .base .non, kit_ty (by decide +kernel), ?_⟩
      refine ⟨.non, rfl, .non, .ty "int", _, _, false, rfl, .ty "int", .base .non, kit_ty (by decide +kernel), rfl, true, rfl, iteT ?_⟩
      refine ⟨.non, rfl, .non, rfl, rfl, ?_⟩
      show Q (.bl (decide (V.non = V.non))) _
      rw [decide_eq_true rfl]
      exact q _ (same_upd hp)
    | bool b =>
      cases h1
      cases h2
      refine ⟨.bl b, rfl, (by show 2 ≤ sizeLine; decide), fun p hp => ?_⟩
      refine ⟨.bl b, p, _, _, _, false, rfl, upd_same, tupcs, .base (.bl b), kitAny_cons (b := false) (kit_ty (by decide +kernel)) (fun _ => kitAny_cons (b := false) (kit_ty (by decide +kernel)) (fun _ => kitAny_nil) (fun z => by cases z)) (fun z => by cases z), false, rfl, iteF ?_⟩
      refine ⟨.bl b, rfl, .bl b, .ty "bool", _, _, true, rfl, .ty "bool", .base (.bl b), kit_ty (by decide +kernel), ?_⟩
      refine ⟨.bl b, rfl, .bl b, .ty "bool", _, _, true, rfl, .ty "bool", .base (.bl b), kit_ty (by decide +kernel), rfl, false, rfl, iteF ?_⟩
      refine ⟨.bl b, rfl, .bl b, .ty "int", _, _, true, rfl, .ty "int", .base (.bl b), kit_ty (by decide +kernel), ?_⟩
      refine ⟨.bl b, rfl, .bl b, .ty "int", _, _, true, rfl, .ty "int", .base (.bl b), kit_ty (by decide +kernel), rfl, true, rfl, iteT ?_⟩
      refine ⟨.bl b, rfl, .bl b, rfl, rfl, ?_⟩
      show Q (.bl (decide (V.bl b = V.bl b))) _
      rw [decide_eq_true rfl]
      exact q _ (same_upd hp)
    | int i =>
      cases h1
      cases h2
      refine ⟨.int i, rfl, (by show 2 ≤ sizeLine; decide), fun p hp => ?_⟩
      refine ⟨.int i, p, _, _, _, false, rfl, upd_same, tupcs, .base (.int i), kitAny_cons (b := false) (kit_ty (by decide +kernel)) (fun _ => kitAny_cons (b := false) (kit_ty (by decide +kernel)) (fun _ => kitAny_nil) (fun z => by cases z)) (fun z => by cases z), false, rfl, iteF ?_⟩
      refine ⟨.int i, rfl, .int i, .ty "bool", _, _, false, rfl, .ty "bool", .base (.int i), kit_ty (by decide +kernel), ?_⟩
      refine ⟨.int i, rfl, .int i, .ty "bool", _, _, false, rfl, .ty "bool", .base (.int i), kit_ty (by decide +kernel), rfl, false, rfl, iteF ?_⟩
      refine ⟨.int i, rfl, .int i, .ty "int", _, _, true, rfl, .ty "int", .base (.int i), kit_ty (by decide +kernel), ?_⟩
      refine ⟨.int i, rfl, .int i, .ty "int", _, _, true, rfl, .ty "int", .base (.int i), kit_ty (by decide +kernel), rfl, true, rfl, iteT ?_⟩
      refine ⟨.int i, rfl, .int i, rfl, rfl, ?_⟩
      show Q (.bl (decide (V.int i = V.int i))) _
      rw [decide_eq_true rfl]
      exact q _ (same_upd hp)
    | str x =>
      cases h1
      cases h2
      refine ⟨.str x, rfl, (by show 2 ≤ sizeLine; decide), fun p hp => ?_⟩
      refine ⟨.str x, p, _, _, _, false, rfl, upd_same, tupcs, .base (.str x), kitAny_cons (b := false) (kit_ty (by decide +kernel)) (fun _ => kitAny_cons (b := false) (kit_ty (by decide +kernel)) (fun _ => kitAny_nil) (fun z => by cases z)) (fun z => by cases z), false, rfl, iteF ?_⟩
      refine ⟨.str x, rfl, .str x, .ty "bool", _, _, false, rfl, .ty "bool", .base (.str x), kit_ty (by decide +kernel), ?_⟩
      refine ⟨.str x, rfl, .str x, .ty "bool", _, _, false, rfl, .ty "bool", .base (.str x), kit_ty (by decide +kernel), rfl, false, rfl, iteF ?_⟩
      refine ⟨.str x, rfl, .str x, .ty "int", _, _, false, rfl, .ty "int", .base (.str x), kit_ty (by decide +kernel), ?_⟩
      refine ⟨.str x, rfl, .str x, .ty "int", _, _, false, rfl, .ty "int", .base (.str x), kit_ty (by decide +kernel), rfl, true, rfl, iteT ?_⟩
      refine ⟨.str x, rfl, .str x, rfl, rfl, ?_⟩
      show Q (.bl (decide (V.str x = V.str x))) _
      rw [decide_eq_true rfl]
      exact q _ (same_upd hp)
    | list ds =>
      cases n with
      | zero => rw [okD] at hok; cases hok
      | succ m =>
      rw [okD, Bool.and_eq_true] at hok
      have hdl : ds.length ≤ 1000 := of_decide_eq_true hok.1
      cases h1 with
      | @lst a1 xs1 _ hs1 ha1 =>
      cases h2 with
      | @lst a2 xs2 _ hs2 ha2 =>
      have l1 := dpAll_len ha1
      have l2 := dpAll_len ha2
      refine ⟨.ref a2, rfl, (by show 2 ≤ sizeLine; decide), fun p hp => ?_⟩
      have sm1 : Same H (upd H p (.tup [V.ty "tuple", V.ty "list"])) := same_upd hp
      refine ⟨.ref a2, p, _, _, _, true, rfl, upd_same, tupcs, tyx_lst (Same.seq sm1 hs2), kitAny_cons (b := false) (kit_ty (by decide +kernel)) (fun _ => kitAny_cons (b := true) (kit_ty (by decide +kernel)) (fun z => by cases z) (fun _ => rfl)) (fun z => by cases z), true, rfl, iteT ?_⟩
      refine ⟨.ref a1, rfl, (by show 2 ≤ sizeLine; decide), fun p2 hp2 => ?_⟩
      have sm2 : Same H (upd (upd H p (.tup [V.ty "tuple", V.ty "list"])) p2 (.tup [V.ty "tuple", V.ty "list"])) := same_of sm1 (Same.free sm1 hp2)
      refine ⟨.ref a1, p2, _, _, _, true, rfl, upd_same, tupcs, tyx_lst (Same.seq sm2 hs1), kitAny_cons (b := false) (kit_ty (by decide +kernel)) (fun _ => kitAny_cons (b := true) (kit_ty (by decide +kernel)) (fun z => by cases z) (fun _ => rfl)) (fun z => by cases z), true, rfl, iteF ?_⟩
      refine ⟨.ref a1, rfl, .ref a1, .ty "list", _, _, true, rfl, .ty "list", tyx_lst (Same.seq sm2 hs1), kit_ty (by decide +kernel), ?_⟩
      refine ⟨.ref a2, rfl, .ref a2, .ty "list", _, _, true, rfl, .ty "list", tyx_lst (Same.seq sm2 hs2), kit_ty (by decide +kernel), rfl, false, rfl, iteF ?_⟩
      refine ⟨.ref a1, rfl, a1, xs1, rfl, .inl (Same.seq sm2 hs1), .ref a2, rfl, a2, xs2, rfl, .inl (Same.seq sm2 hs2), rfl, _, rfl, ?_⟩
      rw [l1, l2, decide_eq_true rfl]
      refine iteF ?_
      have b62 : (1000 : Int) < 2 ^ 62 := by decide
      refine ⟨.ref a2, rfl, a2, xs2, rfl, .inl (Same.seq sm2 hs2), (xs2.length : Nat), rfl, by omega, by omega, fun D hD => ?_⟩
      have smD : Same H (upd (upd (upd H p (.tup [V.ty "tuple", V.ty "list"])) p2 (.tup [V.ty "tuple", V.ty "list"])) D (.lst [])) := same_of sm2 (Same.free sm2 hD)
      refine lc_range (lo := 0) (n := (xs2.length : Int).toNat) (fun i H' => Same H H' ∧ H' D = some (.lst [])) ⟨smD, upd_same⟩ (fun i H' hi ⟨sm, hd⟩ => ?_) (fun H' ⟨sm, hd⟩ => ?_)
      · have hi2 : i < ds.length := by
          rw [Int.toNat_natCast] at hi
          omega
        obtain ⟨w1, g1, e1⟩ := dpAll_at ha1 (List.getElem?_eq_getElem hi2)
        obtain ⟨w2, g2, e2⟩ := dpAll_at ha2 (List.getElem?_eq_getElem hi2)
        have ei : (0 : Int) + (i : Nat) = (i : Nat) := by omega
        rw [ei]
        refine ⟨rfl, .ref a1, rfl, .int (i : Nat), rfl, .inl ⟨a1, xs1, (i : Nat), w1, rfl, rfl, (Same.seq sm hs1), atI_nat g1, ?_⟩⟩
        refine ⟨.ref a2, rfl, .int (i : Nat), rfl, .inl ⟨a2, xs2, (i : Nat), w2, rfl, rfl, (Same.seq sm hs2), atI_nat g2, ?_⟩⟩
        refine hS m rfl _ _ _ _ ⟨w1, w2, _, rfl, dp_same sm _ _ e1, dp_same sm _ _ e2, okDs_at hok.2 (List.getElem?_eq_getElem hi2), fun H3 sm3 => ⟨true, rfl, iteF ⟨sm.trans sm3, sm3 _ _ hd⟩⟩⟩
      · refine ⟨Nat.zero_le _, fun z hz => ?_⟩
        refine ⟨.list [], .list [], .lst (.inl (.inl ?_)) .nil, .lst (.inl (.inl upd_same)) .nil, rfl, rfl, q _ (same_of sm (Same.free sm hz))⟩
        rw [upd_ne (ne_of_none hd hz)]
        exact hd
    | tuple ds =>
      cases n with
      | zero => rw [okD] at hok; cases hok
      | succ m =>
      rw [okD, Bool.and_eq_true] at hok
      have hdl : ds.length ≤ 1000 := of_decide_eq_true hok.1
      cases h1 with
      | @tup a1 xs1 _ hs1 ha1 =>
      cases h2 with
      | @tup a2 xs2 _ hs2 ha2 =>
      have l1 := dpAll_len ha1
      have l2 := dpAll_len ha2
      refine ⟨.ref a2, rfl, (by show 2 ≤ sizeLine; decide), fun p hp => ?_⟩
      have sm1 : Same H (upd H p (.tup [V.ty "tuple", V.ty "list"])) := same_upd hp
      refine ⟨.ref a2, p, _, _, _, true, rfl, upd_same, tupcs, tyx_tup (sqT_same sm1 hs2), kitAny_cons (b := true) (kit_ty (by decide +kernel)) (fun z => by cases z) (fun _ => rfl), true, rfl, iteT ?_⟩
      refine ⟨.ref a1, rfl, (by show 2 ≤ sizeLine; decide), fun p2 hp2 => ?_⟩
      have sm2 : Same H (upd (upd H p (.tup [V.ty "tuple", V.ty "list"])) p2 (.tup [V.ty "tuple", V.ty "list"])) := same_of sm1 (Same.free sm1 hp2)
      refine ⟨.ref a1, p2, _, _, _, true, rfl, upd_same, tupcs, tyx_tup (sqT_same sm2 hs1), kitAny_cons (b := true) (kit_ty (by decide +kernel)) (fun z => by cases z) (fun _ => rfl), true, rfl, iteF ?_⟩
      refine ⟨.ref a1, rfl, .ref a1, .ty "list", _, _, false, rfl, .ty "list", tyx_tup (sqT_same sm2 hs1), kit_ty (by decide +kernel), ?_⟩
      refine ⟨.ref a2, rfl, .ref a2, .ty "list", _, _, false, rfl, .ty "list", tyx_tup (sqT_same sm2 hs2), kit_ty (by decide +kernel), rfl, false, rfl, iteF ?_⟩
      refine ⟨.ref a1, rfl, a1, xs1, rfl, .inr (sqT_same sm2 hs1), .ref a2, rfl, a2, xs2, rfl, .inr (sqT_same sm2 hs2), rfl, _, rfl, ?_⟩
      rw [l1, l2, decide_eq_true rfl]
      refine iteF ?_
      have b62 : (1000 : Int) < 2 ^ 62 := by decide
      refine ⟨.ref a2, rfl, a2, xs2, rfl, .inr (sqT_same sm2 hs2), (xs2.length : Nat), rfl, by omega, by omega, fun D hD => ?_⟩
      have smD : Same H (upd (upd (upd H p (.tup [V.ty "tuple", V.ty "list"])) p2 (.tup [V.ty "tuple", V.ty "list"])) D (.lst [])) := same_of sm2 (Same.free sm2 hD)
      refine lc_range (lo := 0) (n := (xs2.length : Int).toNat) (fun i H' => Same H H' ∧ H' D = some (.lst [])) ⟨smD, upd_same⟩ (fun i H' hi ⟨sm, hd⟩ => ?_) (fun H' ⟨sm, hd⟩ => ?_)
      · have hi2 : i < ds.length := by
          rw [Int.toNat_natCast] at hi
          omega
        obtain ⟨w1, g1, e1⟩ := dpAll_at ha1 (List.getElem?_eq_getElem hi2)
        obtain ⟨w2, g2, e2⟩ := dpAll_at ha2 (List.getElem?_eq_getElem hi2)
        have ei : (0 : Int) + (i : Nat) = (i : Nat) := by omega
        rw [ei]
        refine ⟨rfl, .ref a1, rfl, .int (i : Nat), rfl, .inr <| .inl ⟨a1, xs1, (i : Nat), w1, rfl, rfl, (sqT_same sm hs1), atI_nat g1, ?_⟩⟩
        refine ⟨.ref a2, rfl, .int (i : Nat), rfl, .inr <| .inl ⟨a2, xs2, (i : Nat), w2, rfl, rfl, (sqT_same sm hs2), atI_nat g2, ?_⟩⟩
        refine hS m rfl _ _ _ _ ⟨w1, w2, _, rfl, dp_same sm _ _ e1, dp_same sm _ _ e2, okDs_at hok.2 (List.getElem?_eq_getElem hi2), fun H3 sm3 => ⟨true, rfl, iteF ⟨sm.trans sm3, sm3 _ _ hd⟩⟩⟩
      · refine ⟨Nat.zero_le _, fun z hz => ?_⟩
        refine ⟨.list [], .list [], .lst (.inl (.inl ?_)) .nil, .lst (.inl (.inl upd_same)) .nil, rfl, rfl, q _ (same_of sm (Same.free sm hz))⟩
        rw [upd_ne (ne_of_none hd hz)]
        exact hd
    | dict _ => cases h1
theorem ok_same {f : Addr} {fd : FuncData} (F : Df K mg "_law_same" sSame ["_law_result", "_law_expected"] f fd) (B : Bt mg) : ∀ n, FnOk P w K mg base CX0 (n + 1) f fd ["_law_result", "_law_expected"] (spAlike K n)
  | 0 => same_step F B 0 (fun _ _ _ _ => False) ⟨fun _ _ _ _ h => h.elim, fun _ _ _ _ _ _ _ _ _ _ _ _ _ h => h.elim⟩ (fun m e => by omega)
  | n + 1 => same_step F B (n + 1) (spAlike K n) (ok_same F B n) (fun m e vs H Q E h => by
    have : m = n := by omega
    subst this
    exact h)
end
end Sv
set_option maxHeartbeats 8000000
namespace Sv
open PySem PySem.Spec PyProof.Rows L2 LamX NdefX
/-- the exception's dict, if there is one -/
def Dd (d : Option Addr) (H : Hp) : Prop := d = none ∨ ∃ (dd : Addr) (fs : List (Str × V)), d = some dd ∧ H dd = some (.xd fs)
theorem Dd.same {d : Option Addr} {H H' : Hp} (h : Dd d H) (e : Same H H') : Dd d H' := by
  rcases h with h | ⟨dd, fs, h1, h2⟩
  · exact .inl h
  · exact .inr ⟨dd, fs, h1, e _ _ h2⟩
def kl (b0 b1 b2 b3 b4 b5 b6 b7 b8 b9 b10 b11 b12 b13 b14 : Bool) : List V := [.bl b0, .bl b1, .bl b2, .bl b3, .bl b4, .bl b5, .bl b6, .bl b7, .bl b8, .bl b9, .bl b10, .bl b11, .bl b12, .bl b13, .bl b14]
def NewS (H : Hp) (t : List V) (Q : VK) : Prop := ∀ H' p, Same H H' → H p = none → H' p = some (.tup t) → Q (.ref p) H'
theorem NewS.imp {H H1 : Hp} {t : List V} {Q : VK} (h : NewS H t Q) (e : Same H H1) : NewS H1 t Q := fun H' p sm hp hq => h H' p (e.trans sm) (Same.free e hp) hq
end Sv
set_option maxHeartbeats 8000000
namespace Sv
open PySem PySem.Spec PyProof.Rows L2
/-- h and l stand, what was tracked but them is kept, and x is kept, too -/
structure St (h l : Addr) (H H' : Hp) : Prop where
  law : LawH H' h l
  k : SameX h l H H'
theorem St.next {h l : Addr} {H H1 H2 : Hp} (a : St h l H H1) (L : LawH H2 h l) (x : SameX h l H1 H2) : St h l H H2 := ⟨L, a.k.trans x⟩
theorem St.same {h l : Addr} {H H1 H2 : Hp} (a : St h l H H1) (e : Same H1 H2) : St h l H H2 := ⟨a.law.same e, fun b o h1 h2 q => e b o (a.k b o h1 h2 q)⟩
theorem LawH.nh {H : Hp} {h l f : Addr} (x : LawH H h l) (hf : H f = none) : f ≠ h ∧ f ≠ l := by
  obtain ⟨m, i, cs, e1, e2, _⟩ := x.ex
  exact ⟨(ne_of_none e1 hf).symm, (ne_of_none e2 hf).symm⟩
theorem LawH.upd {H : Hp} {h l f : Addr} {o : HO} (x : LawH H h l) (h1 : f ≠ h) (h2 : f ≠ l) : LawH (L2.upd H f o) h l := by
  obtain ⟨m, i, cs, e1, e2, e3⟩ := x.ex
  exact ⟨m, i, cs, by rw [upd_ne (Ne.symm h1)]; exact e1, by rw [upd_ne (Ne.symm h2)]; exact e2, e3⟩
theorem St.upd {h l f : Addr} {H H1 : Hp} {o : HO} (a : St h l H H1) (hf : H f = none) (h1 : f ≠ h) (h2 : f ≠ l) : St h l H (L2.upd H1 f o) := by
  refine ⟨a.law.upd h1 h2, fun b u b1 b2 q => ?_⟩
  rw [upd_ne (ne_of_none q hf)]
  exact a.k b u b1 b2 q
theorem St.none {h l f : Addr} {H H1 : Hp} (a : St h l H H1) (hf : H1 f = Option.none) : H f = Option.none := by
  cases q : H f with
  | none => rfl
  | some o =>
    obtain ⟨n1, n2⟩ := a.law.nh hf
    rw [a.k f o n1 n2 q] at hf
    cases hf
theorem St.trans {h l : Addr} {H H1 H2 : Hp} (a : St h l H H1) (b : St h l H1 H2) : St h l H H2 := ⟨b.law, a.k.trans b.k⟩
theorem St.refl {h l : Addr} {H : Hp} (x : LawH H h l) : St h l H H := ⟨x, fun _ _ _ _ q => q⟩
theorem sqT_x {K : PySem.W.Frag} {H H1 : Hp} {h l a : Addr} {xs : List V} (L : LawH H h l) (e : SameX h l H H1) (s : SqT K H a xs) : SqT K H1 a xs := by
  obtain ⟨m, i, cs, e1, e2, _⟩ := L.ex
  rcases s with (s | ⟨o, s⟩) | s
  · exact .inl (.inl (e _ _ (fun z => by rw [z, e1] at s; cases s) (fun z => by rw [z, e2] at s; cases s) s))
  · exact .inl (.inr ⟨o, e _ _ (fun z => by rw [z, e1] at s; cases s) (fun z => by rw [z, e2] at s; cases s) s⟩)
  · exact .inr s
theorem paired_x {K : PySem.W.Frag} {H H' : Hp} {h l : Addr} (L : LawH H h l) (e : SameX h l H H') : ∀ {qs : List Addr} {rs : List Ro}, Paired (fun q r => SqT K H q (rV r)) qs rs → Paired (fun q r => SqT K H' q (rV r)) qs rs
  | _, _, .nil => .nil
  | _, _, .cons h t => .cons (sqT_x L e h) (paired_x L e t)
theorem RtAt.x {K : PySem.W.Frag} {H H' : Hp} {h l b : Addr} {rs : List Ro} (x : RtAt K H b rs) (L : LawH H h l) (e : SameX h l H H') : RtAt K H' b rs := by
  obtain ⟨qs, h1, h2⟩ := x.ex
  exact ⟨qs, sqT_x L e h1, paired_x L e h2⟩
theorem PlanAt.x {K : PySem.W.Frag} {H H' : Hp} {h l p : Addr} {zs : List Int} {rs : List Ro} (x : PlanAt K H p zs rs) (L : LawH H h l) (e : SameX h l H H') : PlanAt K H' p zs rs := by
  obtain ⟨a, b, h1, h2, h3⟩ := x.ex
  exact ⟨a, b, sqT_x L e h1, sqT_x L e h2, h3.x L e⟩
theorem paired_imp {K : PySem.W.Frag} {H H' : Hp} (e : ∀ a xs, SqT K H a xs → SqT K H' a xs) : ∀ {qs : List Addr} {rs : List Ro}, Paired (fun q r => SqT K H q (rV r)) qs rs → Paired (fun q r => SqT K H' q (rV r)) qs rs
  | _, _, .nil => .nil
  | _, _, .cons h t => .cons (e _ _ h) (paired_imp e t)
theorem paired_snoc {K : PySem.W.Frag} {H : Hp} {q : Addr} {r : Ro} (h : SqT K H q (rV r)) : ∀ {qs : List Addr} {rs : List Ro}, Paired (fun q r => SqT K H q (rV r)) qs rs → Paired (fun q r => SqT K H q (rV r)) (qs ++ [q]) (rs ++ [r])
  | _, _, .nil => .cons h .nil
  | _, _, .cons g t => .cons g (paired_snoc h t)
theorem sqT_lst {K : PySem.W.Frag} {H : Hp} {f a : Addr} {xs ys : List V} {o : HO} (hf : H f = some (.lst ys)) (s : SqT K H a xs) : SqT K (upd H f o) a xs := by
  rcases s with (s | ⟨u, s⟩) | s
  · exact .inl (.inl (by rw [upd_ne (fun z => by rw [z, hf] at s; cases s)]; exact s))
  · exact .inl (.inr ⟨u, by rw [upd_ne (fun z => by rw [z, hf] at s; cases s)]; exact s⟩)
  · exact .inr s
end Sv
set_option maxHeartbeats 4000000
namespace Sv
open PySem PySem.Spec PyProof.Rows L2
section
variable {P : Program} {w : World} {K : PySem.W.Frag} {mg : Str → Option Value} {base : Heap}
def vN (e : List Nat) : List V := e.map fun (n : Nat) => V.int (n : Int)
end
end Sv
set_option maxHeartbeats 4000000
namespace Sv
open PySem PySem.Spec PyProof.Rows L2
section
variable {P : Program} {w : World} {K : PySem.W.Frag} {mg : Str → Option Value} {base : Heap}
/-- hands back a new tuple of the numbers g -/
def NewT (H : Hp) (g : List Nat) (Q : VK) : Prop := ∀ H' p, Same H H' → H p = none → H' p = some (.tup (vN g)) → Q (.ref p) H'
end
end Sv
set_option maxHeartbeats 4000000
set_option maxHeartbeats 4000000
set_option maxHeartbeats 4000000
set_option maxHeartbeats 4000000
namespace Sv
open PySem PySem.Spec PyProof.Rows L2
section
open AutoSeq1
theorem extend_tupG (l : Addr) (items : Array Value) (n : Nat) (b : Addr) (items2 : Array Value) (n2 : Nat) (dct : Option Addr) (sl : Array (Option Value)) (hs0 : ¬(!items.isEmpty && Builtin.List.listTooLong (items.size + items2.size)) = true) (hs1 : items.size ≤ sizeLine) (hs2 : items.size + items2.size ≤ sizeLine + 1) :
    Meets (Builtin.«list.extend» ⟨[.ref l, .ref b], []⟩) (fun _ R s => s.heap.get? l = some { cls := .type "list", dict := none, data := .seq items n, slots := #[] } ∧ s.heap.get? b = some { cls := .type "tuple", dict := dct, data := .seq items2 n2, slots := sl } ∧
      R (.ok (.ret Value.none)) { s with heap := s.heap.update l (Obj.mapSeq fun x => x ++ items2), toks := s.toks }) :=
  .of_wp fun prog w A R s h => by
    obtain ⟨hp, g, d, tk, os⟩ := s; obtain ⟨hl, hb, h⟩ := h; have f1 := AutoSeq1.idx_int; have f2 := AutoSeq1.sub_tuple_tuple; have f3 := AutoSeq1.sub_list_list; have f4 := AutoSeq1.sub_tuple_list; have f5 := AutoSeq1.sub_list_tuple;
    have hz' : (items ++ items2).size ≤ sizeLine + 1 := by rw [Array.size_append]; exact hs2
    wp_walk using (wpAny_updateSeq hl rfl (hz := hs1) (_hz' := hz')), wpAny_loadPart' hl, wpAny_loadPart' hb; exact ⟨_, rfl, h⟩
end
section
variable {X : Cx}
def rExtT (K : PySem.W.Frag) : V → List V → Hp → VK → Prop := fun x vs H Q => ∃ l b xs zs, x = .ref l ∧ vs = [.ref b] ∧ H l = some (.lst xs) ∧ SqT K H b zs ∧ xs.length + zs.length ≤ sizeLine ∧ Q .non (upd H l (.lst (xs ++ zs)))
theorem mt_extT : MtM X "list.extend" (rExtT X.K) := by
  intro pins s σ H x vs v us Q I rx rv h
  obtain ⟨l, b, xs, zs, rfl, rfl, hH, hB, hz, q⟩ := h
  cases rx
  obtain ⟨u, rfl, ru⟩ := rv.one
  cases ru
  obtain ⟨z, its, n, r, hl, e⟩ := I.lstM hH
  obtain ⟨its2, r2, ⟨⟨c, dct, dt, sl⟩, e2, hc, n2, hd⟩, z2⟩ := I.tuple hB
  obtain rfl : c = .type "tuple" := hc
  obtain rfl : dt = .seq its2.toArray n2 := hd
  have hl2 := r2.length
  have hsz : its.toArray.size + its2.toArray.size ≤ sizeLine := by rw [List.size_toArray, List.size_toArray]; omega
  have hlong : ¬ (!its.toArray.isEmpty && Builtin.List.listTooLong (its.toArray.size + its2.toArray.size)) = true := by
    rw [notLongL hsz, Bool.and_false]
    exact Bool.false_ne_true
  refine call_meets F.slot_list_extend ⟨_, e, rfl⟩ F.entry_list_extend (F.args_list_extend_2 _ _)
    (extend_tupG l its.toArray n b its2.toArray n2 dct sl hlong (by rw [List.size_toArray]; omega) (by omega)) ⟨e, e2, ?_⟩
  refine ⟨.non, _, I.lset (its' := its ++ its2) hH e (by simp) (r.append r2) ?_, rfl, q⟩
  rw [List.length_append]
  omega
end
end Sv
set_option maxHeartbeats 4000000
namespace Sv
open PySem PySem.Spec PyProof.Rows L2
/-- a layout: who is carried, who lies where; the tuples may be constants -/
structure LayT (K : PySem.W.Frag) (H : Hp) (ca sh : Addr) (cs : List Int) (ss : List (List Int)) : Prop where
  c : SqT K H ca (cs.map V.int)
  s : ∃ qs : List Addr, SqT K H sh (qs.map V.ref) ∧ Paired (fun q s => SqT K H q (s.map V.int)) qs ss
theorem segT_imp {K : PySem.W.Frag} {H H' : Hp} (e : ∀ a xs, SqT K H a xs → SqT K H' a xs) : ∀ {qs : List Addr} {ss : List (List Int)}, Paired (fun q s => SqT K H q (s.map V.int)) qs ss → Paired (fun q s => SqT K H' q (s.map V.int)) qs ss
  | _, _, .nil => .nil
  | _, _, .cons h t => .cons (e _ _ h) (segT_imp e t)
theorem segT_len {K : PySem.W.Frag} {H : Hp} : ∀ {qs : List Addr} {ss : List (List Int)}, Paired (fun q s => SqT K H q (s.map V.int)) qs ss → qs.length = ss.length
  | _, _, .nil => rfl
  | _, _, .cons _ t => congrArg Nat.succ (segT_len t)
theorem segT_at {K : PySem.W.Frag} {H : Hp} : ∀ {qs : List Addr} {ss : List (List Int)} {i : Nat} {q : Addr}, Paired (fun q s => SqT K H q (s.map V.int)) qs ss → qs[i]? = some q → ∃ s, ss[i]? = some s ∧ SqT K H q (s.map V.int)
  | _, _, i, _, .nil, e => by simp at e
  | _, _, 0, q, .cons h t, e => by
    obtain rfl := Option.some.inj e
    exact ⟨_, rfl, h⟩
  | _, _, i + 1, q, .cons h t, e => segT_at (i := i) t (by simpa using e)
theorem segT_of {K : PySem.W.Frag} {H : Hp} : ∀ {qs : List Addr} {ss : List (List Int)}, SegV H qs ss → Paired (fun q s => SqT K H q (s.map V.int)) qs ss
  | _, _, .nil => .nil
  | _, _, .cons h t => .cons (.inl (.inl h)) (segT_of t)
theorem LayT.imp {K : PySem.W.Frag} {H H' : Hp} {ca sh : Addr} {cs : List Int} {ss : List (List Int)} (x : LayT K H ca sh cs ss) (e : ∀ a xs, SqT K H a xs → SqT K H' a xs) : LayT K H' ca sh cs ss := by
  obtain ⟨qs, h1, h2⟩ := x.s
  exact ⟨e _ _ x.c, qs, e _ _ h1, segT_imp e h2⟩
theorem LayT.same {K : PySem.W.Frag} {H H' : Hp} {ca sh : Addr} {cs : List Int} {ss : List (List Int)} (x : LayT K H ca sh cs ss) (e : Same H H') : LayT K H' ca sh cs ss := x.imp fun _ _ => sqT_same e
theorem LayAt.t {K : PySem.W.Frag} {H : Hp} {ca sh : Addr} {cs : List Int} {ss : List (List Int)} (x : LayAt H ca sh cs ss) : LayT K H ca sh cs ss := by
  obtain ⟨qs, h1, h2⟩ := x.s
  exact ⟨.inl (.inl x.c), qs, .inl (.inl h1), segT_of h2⟩
/-- lists of numbers at rw, each a list of its own -/
def RowL (H : Hp) (rw : List Addr) (ss : List (List Int)) : Prop := Paired (fun q s => H q = some (.lst (s.map V.int))) rw ss
theorem rowL_imp {H H' : Hp} : ∀ {rw : List Addr} {ss : List (List Int)}, (∀ q ∈ rw, ∀ o, H q = some o → H' q = some o) → RowL H rw ss → RowL H' rw ss
  | _, _, _, .nil => .nil
  | _, _, e, .cons h t => .cons (e _ (List.mem_cons_self ..) _ h) (rowL_imp (fun q hq => e q (List.mem_cons_of_mem _ hq)) t)
end Sv
set_option maxHeartbeats 4000000
namespace Sv
open PySem PySem.Spec PyProof.Rows L2
/-- a plan that is valid, its entries too -/
structure Val (zs : List Int) (rs : List Ro) : Prop extends Good zs rs where
  e : ∀ r ∈ rs, ∀ e ∈ r, okE zs.length e = true
theorem val_of {zs : List Int} {rs : List Ro} (h : bad zs rs = none) : Val zs rs := by
  refine ⟨good_of h, ?_⟩
  unfold bad at h
  cases hb : badS zs with
  | some i => rw [hb] at h; cases h
  | none =>
    rw [hb] at h
    simp only [Option.map_eq_none_iff] at h
    unfold badR at h
    split at h
    · rw [Option.map_eq_none_iff] at h
      intro r hr e he
      have := fst_all h r hr
      unfold okR at this
      rw [Bool.and_eq_true, List.all_eq_true] at this
      exact this.2 e he
    · cases h
theorem Val.bad {zs : List Int} {rs : List Ro} (v : Val zs rs) : bad zs rs = none := by
  have h1 : badS zs = none := by
    unfold badS
    rw [if_pos v.z1, fst_none (p := okZ) (fun j y hy => decide_eq_true (v.z2 y (List.mem_of_getElem? hy)))]
    rfl
  have h2 : badR zs.length rs = none := by
    unfold badR
    rw [if_pos v.r1, fst_none (fun j y hy => ?_)]
    · rfl
    · unfold okR
      rw [decide_eq_true (v.r2 y (List.mem_of_getElem? hy)), Bool.true_and, List.all_eq_true]
      exact v.e y (List.mem_of_getElem? hy)
  unfold Sv.bad
  rw [h1]
  simp [h2]
theorem Val.small {zs : List Int} {rs : List Ro} (v : Val zs rs) : Small zs rs := ⟨by have := v.z1; omega, by have := v.r1; omega, fun r hr => by have := v.r2 r hr; omega⟩
theorem Val.num {zs : List Int} {rs : List Ro} (v : Val zs rs) : rs.length + sumN zs ≤ 200 := by
  have := sumN_le v.z2
  have := v.z1
  have := v.r1
  omega
section
variable {P : Program} {w : World} {K : PySem.W.Frag} {mg : Str → Option Value} {base : Heap}
def nJo : List Str := ["carried", "shelves", "contents", "shelf"]
theorem scJoin : FnScope nJo ["carried", "shelves"] (defScope sJoin) := ⟨rfl, rfl, rfl, by decide +kernel, rfl, by decide +kernel, by decide +kernel⟩
/-- a new list of numbers -/
def NewL (H : Hp) (l : List Int) (Q : VK) : Prop := ∀ H' f, Same H H' → H f = none → H' f = some (.lst (l.map V.int)) → Q (.ref f) H'
def spJoin (K : PySem.W.Frag) : Sp := fun vs H Q _ => ∃ (ca sh : Addr) (cs : List Int) (ss : List (List Int)), vs = [.ref ca, .ref sh] ∧ LayT K H ca sh cs ss ∧ cs.length + ss.flatten.length ≤ 1000 ∧ NewL H (cs ++ ss.flatten) Q
theorem flat_take {α : Type} {ss : List (List α)} {i : Nat} {s : List α} (h : ss[i]? = some s) : (ss.take (i + 1)).flatten = (ss.take i).flatten ++ s := by
  rw [List.take_add_one, h, List.flatten_append]
  simp
theorem flat_take_len {α : Type} (ss : List (List α)) (i : Nat) : (ss.take i).flatten.length ≤ ss.flatten.length := by
  have h := congrArg (fun l => (List.flatten l).length) (List.take_append_drop i ss)
  simp only [List.flatten_append, List.length_append] at h
  omega
theorem ok_join (T : Bd P K mg) : FnOk P w K mg base CX0 1 T.aJoin T.dJoin ["carried", "shelves"] (spJoin K) := by
  refine T.Join.F.ok scJoin (fun vs H Q E h => ?_) (fun cdv A outer s H vs Q E hr h => ?_)
  · obtain ⟨ca, sh, cs, ss, rfl, _⟩ := h
    rfl
  · obtain ⟨ca, sh, cs, ss, rfl, hL, hl, q⟩ := h
    obtain ⟨qs, hs1, hs2⟩ := hL.s
    have hql := segT_len hs2
    refine ⟨_, pss_cons (ps_set (i := 2) scJoin.nd rfl (Or.inl rfl) (pe_callTy call_list_of (by rfl) T.bt.list b_list (pa_cons (pv 0) pa_nil)))
      (pss_cons (ps_for PassesOwn.never rfl (pi_tup (pv 1)) (pg_name (i := 3) scJoin.nd rfl (Or.inl rfl))
        (pss_one (ps_expr (pe_bm PySem.F.plainAttrs_list PySem.F.slot_list_extend PySem.F.type_list_extend mt_extT (pv 2) (pa_cons (pv 3) pa_nil)))))
      (pss_one (ps_ret (pv 2)))), ?_⟩
    refine ⟨.ref ca, rfl, ca, _, rfl, .inr hL.c, fun f hf => ?_⟩
    have sm0 : Same H (upd H f (.lst (cs.map V.int))) := same_upd hf
    refine ⟨.ref sh, rfl, sh, rfl, ⟨_, sqT_same sm0 hs1⟩, for_tup (xs := qs.map V.ref) (fun i σ H' => (∃ y, σ = [some (.ref ca), some (.ref sh), some (.ref f), y]) ∧ Same H H' ∧ H' f = some (.lst ((cs ++ (ss.take i).flatten).map V.int))) ⟨⟨none, rfl⟩, sm0, by rw [upd_same]; simp⟩
      (fun i σ H' _ h => sqT_same h.2.1 hs1) (fun i x σ H' hx ⟨⟨y, es⟩, sm, hd⟩ => ?_) (fun σ H' ⟨⟨y, es⟩, sm, hd⟩ => ?_)⟩
    · subst es
      obtain ⟨q1, hq1, rfl⟩ := refs_lt hx
      obtain ⟨s1, hs3, hq2⟩ := segT_at hs2 hq1
      refine ⟨.ref f, rfl, .inl ⟨rfl, _, .inl (.inl hd)⟩, .ref q1, rfl, f, q1, _, _, rfl, rfl, hd, sqT_same sm hq2, ?_, ⟨_, rfl⟩, same_of sm hf, ?_⟩
      · rw [List.length_map, List.length_map, List.length_append]
        have h1 := flat_take_len ss (i + 1)
        rw [flat_take hs3, List.length_append] at h1
        exact sz1000 (by omega)
      · rw [upd_same, flat_take hs3, ← List.append_assoc, List.map_append (l₁ := cs ++ (ss.take i).flatten)]
    · subst es
      rw [List.length_map, hql, List.take_length] at hd
      exact ⟨.ref f, rfl, q H' f sm hf hd⟩
end
end Sv
set_option maxHeartbeats 4000000
namespace Sv
open PySem PySem.Spec PyProof.Rows L2
@[irreducible] def qDrawn (K : PySem.W.Frag) : Sp := spDrawn K
theorem go_drawn {K : PySem.W.Frag} {H : Hp} {h sc : Addr} {n : Int} {Q : VK} {E : XK} (L : LawD K H h sc) (p1 : 0 < n) (p2 : n < 2 ^ 64) (q : ∀ (r : Nat) H', (r : Int) < n → LawD K H' h sc → SameD h H H' → Q (.int (r : Nat)) H') : qDrawn K [.ref h, .int n] H Q E := by
  unfold qDrawn
  exact ⟨h, sc, n, rfl, L, p1, p2, q⟩
/-- the source moved on from H; all else stands -/
structure StD (K : PySem.W.Frag) (h sc : Addr) (H H' : Hp) : Prop where
  law0 : LawD K H h sc
  law : LawD K H' h sc
  k : SameD h H H'
section
variable {K : PySem.W.Frag} {H H1 H2 : Hp} {h sc p : Addr}
theorem StD.refl (L : LawD K H h sc) : StD K h sc H H := ⟨L, L, fun _ _ _ e => e⟩
theorem StD.next (a : StD K h sc H H1) (L : LawD K H2 h sc) (g : SameD h H1 H2) : StD K h sc H H2 := ⟨a.law0, L, a.k.trans g⟩
theorem StD.same (a : StD K h sc H H1) (e : Same H1 H2) : StD K h sc H H2 := ⟨a.law0, a.law.same e, a.k.trans (.of e)⟩
theorem StD.upd (a : StD K h sc H H1) {o : HO} (hp : H p = none) (n : p ≠ h) : StD K h sc H (L2.upd H1 p o) := by
  have g : SameD h H (L2.upd H1 p o) := fun b u hb e => by
    rw [upd_ne (ne_of_none e hp)]
    exact a.k b u hb e
  obtain ⟨i0, m0, d0, cs0, f1, f2, f3⟩ := a.law0.ex
  obtain ⟨i, m, d, cs, e1, _, _⟩ := a.law.ex
  exact ⟨a.law0, ⟨i, m, d, cs0, by rw [upd_ne (Ne.symm n)]; exact e1, sqL_d f1 g f2, f3⟩, g⟩
theorem LawD.nh (L : LawD K H h sc) (hp : H p = none) : p ≠ h := fun z => by
  obtain ⟨_, _, _, _, e, _⟩ := L.ex
  rw [z, e] at hp
  cases hp
theorem sqT_d {a : Addr} {xs : List V} (L : LawD K H h sc) (g : SameD h H H1) (s : SqT K H a xs) : SqT K H1 a xs := by
  obtain ⟨_, _, _, _, e1, _⟩ := L.ex
  rcases s with (s | ⟨o, s⟩) | s
  · refine .inl (.inl (g _ _ (fun z => ?_) s))
    rw [z, e1] at s
    cases s
  · refine .inl (.inr ⟨o, g _ _ (fun z => ?_) s⟩)
    rw [z, e1] at s
    cases s
  · exact .inr s
end
section
variable {P : Program} {w : World} {K : PySem.W.Frag} {mg : Str → Option Value} {base : Heap}
theorem scRr : FnScope ["_law_state", "_law_count", "_law_entries", "_law_index"] ["_law_state", "_law_count"] (defScope sRndRoute) := ⟨rfl, rfl, rfl, by decide +kernel, rfl, by decide +kernel, by decide +kernel⟩
def spRr (K : PySem.W.Frag) : Sp := fun vs H Q _ => ∃ (h sc : Addr) (n : Nat), vs = [.ref h, .int (n : Nat)] ∧ LawD K H h sc ∧ 1 ≤ n ∧ n ≤ 12 ∧ ∀ H' q (r : Ro), StD K h sc H H' → SqT K H' q (rV r) → (1 ≤ r.length ∧ r.length ≤ 6) → (∀ e ∈ r, okE n e = true) → Q (.ref q) H'
theorem ok_rr (T : Bd P K mg) : FnOk P w K mg base CX0 2 T.aLRndRoute T.dLRndRoute ["_law_state", "_law_count"] (spRr K) := by
  have GN : FnOk P w K mg base CX0 1 T.aLDrawn T.dLDrawn ["_law_state", "_law_count"] (qDrawn K) := by unfold qDrawn; exact ok_drawn T.LDrawn.F T.bt
  refine T.LRndRoute.F.ok scRr (fun vs H Q E h => ?_) (fun cdv A outer s H vs Q E hr h => ?_)
  · obtain ⟨h, sc, n, rfl, _⟩ := h
    rfl
  · obtain ⟨h, sc, n, rfl, LH, n1, n12, q⟩ := h
    have p62 : (1000 : Int) < 2 ^ 62 := by decide
    have p64 : (1000 : Int) < 2 ^ 64 := by decide
    refine ⟨_, pss_cons (ps_set (i := 2) scRr.nd rfl (Or.inl rfl) (pe_lst pa_nil))
      (pss_cons (ps_for PassesOwn.never rfl (pi_range1 (by rfl) T.bt.range (pa_cons (pe_op op_add (pe_int) (pe_call (E := E0) GN (hr.mono (by decide)) (by rfl) T.LDrawn.g T.LDrawn.F.kp T.LDrawn.b .nil pass0 (pa_cons (pv 0) (pa_cons (pe_ix ix_list (pe_lst (pa_cons (pe_int) (pa_cons (pe_int) pa_nil))) (pe_call (E := E0) GN (hr.mono (by decide)) (by rfl) T.LDrawn.g T.LDrawn.F.kp T.LDrawn.b .nil pass0 (pa_cons (pv 0) (pa_cons (pe_int) pa_nil))) (fun _ _ => rfl)) pa_nil)))) pa_nil)) (pg_name (i := 3) scRr.nd rfl (Or.inl rfl))
        (pss_one (ps_expr (pe_bm PySem.F.plainAttrs_list PySem.F.slot_list_append PySem.F.type_list_append mt_append (pv 2) (pa_cons (pe_ifExp (pt_cmpR op_eq (pe_call (E := E0) GN (hr.mono (by decide)) (by rfl) T.LDrawn.g T.LDrawn.F.kp T.LDrawn.b .nil pass0 (pa_cons (pv 0) (pa_cons (pe_int) pa_nil))) (pe_int) (nomark _)) (pe_non) (pe_call (E := E0) GN (hr.mono (by decide)) (by rfl) T.LDrawn.g T.LDrawn.F.kp T.LDrawn.b .nil pass0 (pa_cons (pv 0) (pa_cons (pv 1) pa_nil)))) pa_nil)))))
      (pss_one (ps_ret (pe_callTy call_tuple_of (by rfl) T.bt.tuple b_tuple (pa_cons (pv 2) pa_nil))))), ?_⟩
    refine ⟨Nat.zero_le _, fun fe hfe => ?_⟩
    have eh := LH.nh hfe
    have S1 := (StD.refl LH).upd (o := .lst []) hfe eh
    have k1 : (upd H fe (.lst [])) fe = some (.lst []) := upd_same
    generalize upd H fe (.lst []) = H1 at S1 k1 ⊢
    refine ⟨.ref h, rfl, (by show 2 ≤ sizeLine; decide), fun D hD => ⟨.ref h, rfl, ?_⟩⟩
    have Dh := S1.law.nh hD
    have S2 := S1.same (same_upd (o := .lst [.int 2, .int 6]) hD)
    have kD : (upd H1 D (.lst [.int 2, .int 6])) D = some (.lst [.int 2, .int 6]) := upd_same
    have k2 := (same_upd (o := .lst [.int 2, .int 6]) hD) _ _ k1
    generalize upd H1 D (.lst [.int 2, .int 6]) = H2 at S2 kD k2 ⊢
    show qDrawn _ _ _ _ _
    refine go_drawn S2.law (by decide) (by decide) fun u H3 hu L3 x3 => ?_
    have S3 := S2.next L3 x3
    obtain ⟨lim, l1, l2, hat⟩ : ∃ lim : Int, 0 < lim ∧ lim ≤ 6 ∧ atI [V.int 2, V.int 6] (u : Nat) = some (.int lim) := by
      have : u = 0 ∨ u = 1 := by omega
      rcases this with rfl | rfl
      · exact ⟨2, by decide, by decide, rfl⟩
      · exact ⟨6, by decide, by decide, rfl⟩
    refine ⟨D, _, _, _, rfl, rfl, .inl (.inl (x3 _ _ Dh kD)), hat, ?_⟩
    show qDrawn _ _ _ _ _
    refine go_drawn S3.law l1 (by omega) fun n3 H4 hn3 L4 x4 => ⟨1, n3, rfl, rfl, _, rfl, by omega, by omega, ?_⟩
    have S4 := S3.next L4 x4
    have k4 := x4 _ _ eh (x3 _ _ eh k2)
    refine for_range (lo := 0) (n := ((1 : Int) + (n3 : Nat)).toNat) (fun j σ H' => (∃ y3, σ = [some (.ref h), some (.int (n : Nat)), some (.ref fe), y3]) ∧ StD K h sc H H' ∧ ∃ r : Ro, r.length = j ∧ H' fe = some (.lst (rV r)) ∧ ∀ e ∈ r, okE n e = true)
      ⟨⟨_, rfl⟩, S4, [], rfl, k4, fun e he => (List.not_mem_nil he).elim⟩ (fun j σ H5 hj ⟨⟨y3, es⟩, S5, r, rlen, k5, hre⟩ => ?_) (fun σ H5 ⟨⟨y3, es⟩, S5, r, rlen, k5, hre⟩ => ?_)
    · subst es
      have hj6 : j < 6 := by omega
      refine ⟨.ref fe, rfl, .inl ⟨rfl, _, .inl (.inl k5)⟩, .ref h, rfl, ?_⟩
      show qDrawn _ _ _ _ _
      refine go_drawn S5.law (by decide) (by decide) fun v H6 hv L6 x6 => ⟨rfl, _, rfl, ?_⟩
      have S6 := S5.next L6 x6
      have k6 := x6 _ _ eh k5
      have rl : (rV r).length ≤ 1000 := by rw [rV_len]; omega
      by_cases hv0 : v = 0
      · rw [decide_eq_true (by rw [hv0]; rfl)]
        refine iteT ⟨fe, _, _, rfl, rfl, k6, small1000 rl, ⟨_, rfl⟩, S6.upd hfe eh, r ++ [none], by rw [List.length_append, rlen]; rfl, ?_, fun x hx => ?_⟩
        · rw [upd_same]
          unfold rV
          rw [List.map_append]
          rfl
        · rcases List.mem_append.mp hx with hx | hx
          · exact hre x hx
          · rw [List.mem_singleton.mp hx]
            rfl
      · rw [decide_eq_false fun z => hv0 (by have := V.int.inj z; omega)]
        refine iteF ⟨.ref h, rfl, .int (n : Nat), rfl, ?_⟩
        show qDrawn _ _ _ _ _
        refine go_drawn S6.law (by omega) (by omega) fun e H7 he L7 x7 => ?_
        have S7 := S6.next L7 x7
        have k7 := x7 _ _ eh k6
        refine ⟨fe, _, _, rfl, rfl, k7, small1000 rl, ⟨_, rfl⟩, S7.upd hfe eh, r ++ [some (e : Int)], by rw [List.length_append, rlen]; rfl, ?_, fun x hx => ?_⟩
        · rw [upd_same]
          unfold rV
          rw [List.map_append]
          rfl
        · rcases List.mem_append.mp hx with hx | hx
          · exact hre x hx
          · rw [List.mem_singleton.mp hx]
            unfold okE
            exact decide_eq_true (by omega)
    · subst es
      refine ⟨.ref fe, rfl, fe, _, rfl, .inl ⟨.inl (.inl k5), fun q2 hq2 => ?_⟩⟩
      exact q _ q2 r (S5.same (same_upd hq2)) (.inl (.inl upd_same)) ⟨by omega, by omega⟩ hre
end
end Sv
set_option maxHeartbeats 4000000
namespace Sv
open PySem PySem.Spec PyProof.Rows L2
@[irreducible] def qRr (K : PySem.W.Frag) : Sp := spRr K
theorem StD.was {K : PySem.W.Frag} {H H1 : Hp} {h sc p : Addr} (a : StD K h sc H H1) (hp : H1 p = none) : H p = none := by
  cases e : H p with
  | none => rfl
  | some o =>
    rw [a.k p o (a.law.nh hp) e] at hp
    cases hp
theorem StD.trans {K : PySem.W.Frag} {H H1 H2 : Hp} {h sc : Addr} (a : StD K h sc H H1) (b : StD K h sc H1 H2) : StD K h sc H H2 := ⟨a.law0, b.law, a.k.trans b.k⟩
def nRp : List Str := ["_law_state", "_law_shelves", "_law_size", "_law_count", "_law_sizes", "_law_routes", "_law_carrier", "_law_shelf"]
section
variable {P : Program} {w : World} {K : PySem.W.Frag} {mg : Str → Option Value} {base : Heap}
theorem scRp : FnScope nRp ["_law_state", "_law_shelves", "_law_size"] (defScope sRndPlan) := ⟨rfl, rfl, rfl, by decide +kernel, rfl, by decide +kernel, by decide +kernel⟩
def spRp (K : PySem.W.Frag) : Sp := fun vs H Q _ => ∃ (h sc : Addr) (ns sz : Int), vs = [.ref h, .int ns, .int sz] ∧ LawD K H h sc ∧ (1 ≤ ns ∧ ns ≤ 12) ∧ (0 ≤ sz ∧ sz ≤ 9) ∧ ∀ H' p zs rs, StD K h sc H H' → PlanAt K H' p zs rs → Val zs rs → (zs.length : Int) ≤ ns → rs.length ≤ 3 → (∀ z ∈ zs, z ≤ sz) → Q (.ref p) H'
theorem ok_rp (T : Bd P K mg) : FnOk P w K mg base CX0 3 T.aLRndPlan T.dLRndPlan ["_law_state", "_law_shelves", "_law_size"] (spRp K) := by
  have GN : FnOk P w K mg base CX0 1 T.aLDrawn T.dLDrawn ["_law_state", "_law_count"] (qDrawn K) := by unfold qDrawn; exact ok_drawn T.LDrawn.F T.bt
  have GR : FnOk P w K mg base CX0 2 T.aLRndRoute T.dLRndRoute ["_law_state", "_law_count"] (qRr K) := by unfold qRr; exact ok_rr T
  refine T.LRndPlan.F.ok scRp (fun vs H Q E h => ?_) (fun cdv A outer s H vs Q E hr h => ?_)
  · obtain ⟨h, sc, ns, sz, rfl, _⟩ := h
    rfl
  · obtain ⟨h, sc, ns, sz, rfl, LH, hns, hsz, q⟩ := h
    have p62 : (1000 : Int) < 2 ^ 62 := by decide
    have p64 : (1000 : Int) < 2 ^ 64 := by decide
    refine ⟨_, pss_cons (ps_set (i := 3) scRp.nd rfl (Or.inl rfl) (pe_op op_add (pe_int) (pe_call (E := E0) GN (hr.mono (by decide)) (by rfl) T.LDrawn.g T.LDrawn.F.kp T.LDrawn.b .nil pass0 (pa_cons (pv 0) (pa_cons (pv 1) pa_nil)))))
      (pss_cons (ps_set (i := 4) scRp.nd rfl (Or.inl rfl) (pe_callTy call_tuple_of (by rfl) T.bt.tuple b_tuple (pa_cons (pe_lc (own := [("_law_shelf", 7)]) (g := gName 7) (tt := tYes) (te := tCall (qDrawn K) [] E0 (tCons (tVar 0) (tCons (tOp (rI0 fun i j => .int (i + j)) (tVar 2) (tC (.int 1))) tNil))) rfl scRp.nd (pi_range1 (by rfl) T.bt.range (pa_cons (pv 3) pa_nil)) (blkOk_by (N := nRp) (sc := defScope sRndPlan) (by decide +kernel)) (fun _ _ _ _ _ => pg_name (i := 7) scRp.nd rfl (Or.inl rfl)) (fun _ _ _ _ _ => pts_nil) (fun _ _ _ _ _ => pe_call (E := E0) GN (hr.mono (by decide)) (by rfl) T.LDrawn.g T.LDrawn.F.kp T.LDrawn.b .nil pass0 (pa_cons (pv 0) (pa_cons (pe_op op_add (pv 2) (pe_int)) pa_nil)))) pa_nil)))
      (pss_cons (ps_set (i := 5) scRp.nd rfl (Or.inl rfl) (pe_lst pa_nil))
      (pss_cons (ps_for PassesOwn.never rfl (pi_range1 (by rfl) T.bt.range (pa_cons (pe_op op_add (pe_int) (pe_call (E := E0) GN (hr.mono (by decide)) (by rfl) T.LDrawn.g T.LDrawn.F.kp T.LDrawn.b .nil pass0 (pa_cons (pv 0) (pa_cons (pe_int) pa_nil)))) pa_nil)) (pg_name (i := 6) scRp.nd rfl (Or.inl rfl))
        (pss_one (ps_expr (pe_bm PySem.F.plainAttrs_list PySem.F.slot_list_append PySem.F.type_list_append mt_append (pv 5) (pa_cons (pe_call (E := E0) GR (hr.mono (by decide)) (by rfl) T.LRndRoute.g T.LRndRoute.F.kp T.LRndRoute.b .nil pass0 (pa_cons (pv 0) (pa_cons (pv 3) pa_nil))) pa_nil)))))
      (pss_one (ps_ret (pe_tup (pa_cons (pv 4) (pa_cons (pe_callTy call_tuple_of (by rfl) T.bt.tuple b_tuple (pa_cons (pv 5) pa_nil)) pa_nil)))))))), ?_⟩
    refine ⟨.ref h, rfl, .int ns, rfl, ?_⟩
    show qDrawn _ _ _ _ _
    refine go_drawn LH (by omega) (by omega) fun n1 H1 hn1 L1 x1 => ⟨1, n1, rfl, rfl, ?_⟩
    have S1 := (StD.refl LH).next L1 x1
    refine ⟨.int (1 + (n1 : Int)), rfl, 1 + (n1 : Int), rfl, by omega, by omega, fun D hD => ?_⟩
    have Dh := S1.law.nh hD
    have D0 := S1.was hD
    refine lc_range (lo := 0) (n := ((1 : Int) + (n1 : Nat)).toNat) (fun i G => StD K h sc H G ∧ ∃ zs : List Int, zs.length = i ∧ (∀ z ∈ zs, 0 ≤ z ∧ z ≤ sz) ∧ G D = some (.lst (zs.map V.int))) ⟨S1.same (same_upd hD), [], rfl, fun z hz => (List.not_mem_nil hz).elim, upd_same⟩ (fun i G hi ⟨S, zs, zl, hz, kD⟩ => ?_) (fun G ⟨S, zs, zl, hz, kD⟩ => ?_)
    · refine ⟨rfl, yes_go ⟨.ref h, rfl, .int sz, rfl, sz, 1, rfl, rfl, ?_⟩⟩
      show qDrawn _ _ _ _ _
      refine go_drawn S.law (by omega) (by omega) fun r G2 hr2 L2 x2 => ⟨_, x2 _ _ Dh kD, ?_, (S.next L2 x2).upd D0 Dh, zs ++ [(r : Int)], by rw [List.length_append, zl]; rfl, fun y hy => ?_, ?_⟩
      · rw [List.length_map]
        exact small1000 (by omega)
      · rcases List.mem_append.mp hy with hy | hy
        · exact hz y hy
        · rw [List.mem_singleton.mp hy]
          exact ⟨by omega, by omega⟩
      · rw [upd_same, List.map_append]
        rfl
    refine ⟨D, _, rfl, .inl ⟨.inl (.inl kD), fun a ha => ?_⟩⟩
    have S2 := S.same (same_upd (o := .tup (zs.map V.int)) ha)
    have ka : (upd G a (.tup (zs.map V.int))) a = some (.tup (zs.map V.int)) := upd_same
    have ah := S.law.nh ha
    generalize upd G a (.tup (zs.map V.int)) = H2 at S2 ka ⊢
    refine ⟨Nat.zero_le _, fun fr hfr => ?_⟩
    have S3 := S2.same (same_upd (o := .lst []) hfr)
    have rh := S2.law.nh hfr
    have r0 := S2.was hfr
    have ka3 := (same_upd (o := .lst []) hfr) _ _ ka
    have kr : (upd H2 fr (.lst [])) fr = some (.lst []) := upd_same
    have nra : a ≠ fr := ne_of_none ka hfr
    generalize upd H2 fr (.lst []) = H3 at S3 ka3 kr ⊢
    refine ⟨.ref h, rfl, ?_⟩
    show qDrawn _ _ _ _ _
    refine go_drawn S3.law (by decide) (by decide) fun n2 H4 hn2 L4 x4 => ⟨1, n2, rfl, rfl, _, rfl, by omega, by omega, ?_⟩
    have S4 := S3.next L4 x4
    have ez : (1 : Int) + (n1 : Int) = ((zs.length : Nat) : Int) := by omega
    refine for_range (lo := 0) (n := ((1 : Int) + (n2 : Nat)).toNat) (fun i σ H' => (∃ y6, σ = [some (.ref h), some (.int ns), some (.int sz), some (.int (1 + (n1 : Int))), some (.ref a), some (.ref fr), y6, none]) ∧ StD K h sc H H' ∧ H' a = some (.tup (zs.map V.int)) ∧
        ∃ (qs : List Addr) (rs : List Ro), rs.length = i ∧ H' fr = some (.lst (qs.map V.ref)) ∧ Paired (fun q r => SqT K H' q (rV r)) qs rs ∧ ∀ r ∈ rs, (1 ≤ r.length ∧ r.length ≤ 6) ∧ ∀ e ∈ r, okE zs.length e = true)
      ⟨⟨_, rfl⟩, S4, x4 _ _ ah ka3, [], [], rfl, x4 _ _ rh kr, .nil, fun r hr => (List.not_mem_nil hr).elim⟩ (fun i σ H5 hi ⟨⟨y6, es⟩, S5, ka5, qs, rs, rl, kr5, hP, hR⟩ => ?_) (fun σ H5 ⟨⟨y6, es⟩, S5, ka5, qs, rs, rl, kr5, hP, hR⟩ => ?_)
    · subst es
      refine ⟨.ref fr, rfl, .inl ⟨rfl, _, .inl (.inl kr5)⟩, .ref h, rfl, .int (1 + (n1 : Int)), rfl, ?_⟩
      show qRr K [.ref h, .int (1 + (n1 : Int))] _ _ _
      rw [ez]
      unfold qRr
      refine ⟨h, sc, zs.length, rfl, S5.law, by omega, by omega, fun H6 u r S6 hu hrl hre => ?_⟩
      have kr6 := S6.k _ _ rh kr5
      have ql : qs.length = i := by rw [paired_len hP, rl]
      refine ⟨fr, _, _, rfl, rfl, kr6, ?_, ⟨_, rfl⟩, (S5.trans S6).upd r0 rh, ?_, qs ++ [u], rs ++ [r], by rw [List.length_append, rl]; rfl, ?_, ?_, fun x hx => ?_⟩
      · rw [List.length_map]
        exact small1000 (by omega)
      · rw [upd_ne nra]
        exact S6.k _ _ ah ka5
      · rw [upd_same, List.map_append]
        rfl
      · exact paired_snoc (sqT_lst kr6 hu) (paired_imp (fun a xs s => sqT_lst kr6 (sqT_d S6.law0 S6.k s)) hP)
      · rcases List.mem_append.mp hx with hx | hx
        · exact hR x hx
        · rw [List.mem_singleton.mp hx]
          exact ⟨hrl, hre⟩
    subst es
    refine ⟨.ref a, rfl, .ref fr, rfl, fr, _, rfl, .inl ⟨.inl (.inl kr5), fun b hb => ?_⟩⟩
    have s7 := same_upd (o := .tup (qs.map V.ref)) hb
    have kb : (upd H5 b (.tup (qs.map V.ref))) b = some (.tup (qs.map V.ref)) := upd_same
    generalize upd H5 b (.tup (qs.map V.ref)) = H7 at s7 kb ⊢
    refine ⟨(by show 2 ≤ sizeLine; decide), fun p hp => ?_⟩
    have s8 := same_upd (o := .tup [.ref a, .ref b]) hp
    refine q _ p zs rs (S5.same (s7.trans s8)) ⟨a, b, .inl (.inl upd_same), .inl (.inl (s8 _ _ (s7 _ _ ka5))), qs, .inl (.inl (s8 _ _ kb)), paired_same (s7.trans s8) hP⟩ ⟨⟨by omega, fun z hz9 => ⟨(hz z hz9).1, by have := (hz z hz9).2; omega⟩, by omega, fun r hr => (hR r hr).1⟩, fun r hr => (hR r hr).2⟩ (by omega) (by omega) fun z hz9 => (hz z hz9).2
end
end Sv
set_option maxHeartbeats 4000000
set_option maxHeartbeats 4000000
namespace Sv
open PySem PySem.Spec PyProof.Rows L2
section
variable {P : Program} {w : World} {K : PySem.W.Frag} {mg : Str → Option Value} {base : Heap}
/-- a layout of numbers of places -/
def iL (L : Lay Nat) : Lay Int := mapL (fun (n : Nat) => (n : Int)) L
end
end Sv
set_option maxHeartbeats 4000000
set_option maxHeartbeats 4000000
set_option maxHeartbeats 4000000
namespace Sv
open PySem PySem.Spec PyProof.Rows L2
def RowV (H : Hp) (rw : List Addr) (ss : List (List V)) : Prop := Paired (fun q s => H q = some (.lst s)) rw ss
theorem rowV_imp {H H' : Hp} : ∀ {rw : List Addr} {ss : List (List V)}, (∀ q ∈ rw, ∀ o, H q = some o → H' q = some o) → RowV H rw ss → RowV H' rw ss
  | _, _, _, .nil => .nil
  | _, _, e, .cons h t => .cons (e _ (List.mem_cons_self ..) _ h) (rowV_imp (fun q hq => e q (List.mem_cons_of_mem _ hq)) t)
def Ox (x : Addr) (H H' : Hp) : Prop := ∀ b o, b ≠ x → H b = some o → H' b = some o
section
variable {x q : Addr} {H H1 H2 : Hp} {o : HO}
theorem Ox.refl (x : Addr) (H : Hp) : Ox x H H := fun _ _ _ e => e
theorem Ox.then (a : Ox x H H1) (b : Same H1 H2) : Ox x H H2 := fun c u n e => b _ _ (a c u n e)
theorem Ox.at (a : Ox x H H1) (n : H q = none) (o : HO) : Ox x H (upd H1 q o) := fun c u m e => by
  rw [upd_ne (fun z => by rw [z, n] at e; cases e)]
  exact a c u m e
theorem Ox.free (a : Ox x H H1) (hx : H1 x = some o) (n : H1 q = none) : H q = none := by
  cases e : H q with
  | none => rfl
  | some u =>
    have : q ≠ x := fun z => by rw [z, hx] at n; cases n
    rw [a q u this e] at n
    cases n
end
/-- where the parcel of place i is after up to k ticks -/
def stopV (n : Nat) (zs : List Int) (rs : List Ro) (t : Int) (k i : Nat) : List V := (List.range (k + 1)).map fun j => V.int (ap (fwd n zs rs t j) i : Nat)
def stopsV (n : Nat) (zs : List Int) (rs : List Ro) (t : Int) (k : Nat) : List (List V) := (List.range (n + sumN zs)).map (stopV n zs rs t k)
/-- on which shelf x is left by the first k of the visits -/
def lefN (ps : List (Nat × Nat)) (L : Lay Int) (x : Int) : Nat → V
  | 0 => .non
  | k + 1 => match ps[k]? with
    | some p => if x = (steps (ps.take k) L).1.getD p.1 0 then .int (p.2 : Nat) else lefN ps L x k
    | none => lefN ps L x k
def lefV (ps : List (Nat × Nat)) (L : Lay Int) (x : Int) : V := lefN ps L x ps.length
/-- in which shelves the parcel of place i is left, tick by tick -/
def leftV (n : Nat) (zs : List Int) (rs : List Ro) (t : Int) (k i : Nat) : List V := (List.range k).map fun j => lefV (vis rs (t + (j : Nat))) (iL (run rs t j (idx n zs))) (i : Nat)
def leftsV (n : Nat) (zs : List Int) (rs : List Ro) (t : Int) (k : Nat) : List (List V) := (List.range (n + sumN zs)).map (leftV n zs rs t k)
def RI (H3 H' : Hp) (D : Addr) (ss : List (List V)) : Prop := Same H3 H' ∧ ∃ rw : List Addr, H' D = some (.lst (rw.map V.ref)) ∧ RowV H' rw ss ∧ rw.Nodup ∧ ∀ q ∈ rw, H3 q = none ∧ q ≠ D
theorem RI.start {H3 : Hp} {D : Addr} (hD : H3 D = none) : RI H3 (upd H3 D (.lst [])) D [] := ⟨same_upd hD, [], upd_same, .nil, List.nodup_nil, fun q hq => (List.not_mem_nil hq).elim⟩
structure LapAt (H : Hp) (C a : Addr) (zs : List Int) (rs : List Ro) (t : Int) : Prop where
  ex : ∃ (dx st le ef : Addr) (fs : List (Str × V)) (srw lrw : List Addr), H a = some (.ins C dx fs) ∧ fs.lookup ("length" : Str) = some (.int (lc rs : Nat)) ∧ fs.lookup ("stops" : Str) = some (.ref st) ∧ fs.lookup ("lefts" : Str) = some (.ref le) ∧ fs.lookup ("effect" : Str) = some (.ref ef) ∧
    H st = some (.lst (srw.map V.ref)) ∧ RowV H srw (stopsV rs.length zs rs t (lc rs)) ∧ H le = some (.lst (lrw.map V.ref)) ∧ RowV H lrw (leftsV rs.length zs rs t (lc rs)) ∧ H ef = some (.tup (vN (wh rs.length zs rs t)))
theorem LapAt.same {H H' : Hp} {C a : Addr} {zs : List Int} {rs : List Ro} {t : Int} (h : LapAt H C a zs rs t) (e : Same H H') : LapAt H' C a zs rs t := by
  obtain ⟨dx, st, le, ef, fs, srw, lrw, h1, h2, h3, h4, h5, h6, h7, h8, h9, h10⟩ := h.ex
  exact ⟨dx, st, le, ef, fs, srw, lrw, e _ _ h1, h2, h3, h4, h5, e _ _ h6, rowV_imp (fun q _ o => e q o) h7, e _ _ h8, rowV_imp (fun q _ o => e q o) h9, e _ _ h10⟩
/-- a lap that is being made -/
structure LB (H H' : Hp) (x dx C st le : Addr) (fs : List (Str × V)) (srw lrw : List Addr) (ss ls : List (List V)) : Prop where
  o : Ox x H H'
  x : H' x = some (.ins C dx fs)
  s : H' st = some (.lst (srw.map V.ref))
  l : H' le = some (.lst (lrw.map V.ref))
  sr : RowV H' srw ss
  lr : RowV H' lrw ls
section
variable {H H' H2 : Hp} {x dx C st le q : Addr} {fs : List (Str × V)} {srw lrw : List Addr} {ss ls : List (List V)}
theorem LB.same (b : LB H H' x dx C st le fs srw lrw ss ls) (e : Same H' H2) : LB H H2 x dx C st le fs srw lrw ss ls :=
  ⟨b.o.then e, e _ _ b.x, e _ _ b.s, e _ _ b.l, rowV_imp (fun q _ o => e q o) b.sr, rowV_imp (fun q _ o => e q o) b.lr⟩
end
end Sv
set_option maxHeartbeats 8000000
namespace Sv
open PySem PySem.Spec PyProof.Rows L2
section
variable {P : Program} {w : World} {K : PySem.W.Frag} {mg : Str → Option Value} {base : Heap}
noncomputable abbrev fL1 (rs : List Ro) : List (Str × V) := putF "length" (.int (lc rs : Nat)) []
noncomputable abbrev fL2 (rs : List Ro) (st : Addr) : List (Str × V) := putF "stops" (.ref st) (fL1 rs)
noncomputable abbrev fL3 (rs : List Ro) (st le : Addr) : List (Str × V) := putF "lefts" (.ref le) (fL2 rs st)
theorem fl2 (rs : List Ro) (st : Addr) : (fL2 rs st).length ≤ 2 := Nat.le_trans (length_putF _ _ _) (Nat.succ_le_succ (length_putF _ _ _))
theorem fl3 (rs : List Ro) (st le : Addr) : (fL3 rs st le).length ≤ 3 := Nat.le_trans (length_putF _ _ _) (Nat.succ_le_succ (fl2 rs st))
end
end Sv
set_option maxHeartbeats 4000000
namespace Sv
open PySem PySem.Spec PyProof.Rows L2
section
variable {P : Program} {w : World} {K : PySem.W.Frag} {mg : Str → Option Value} {base : Heap}
theorem NewT.imp {H H1 : Hp} {g : List Nat} {Q : VK} (h : NewT H g Q) (e : Same H H1) : NewT H1 g Q := fun H' p sm hp hq => h H' p (e.trans sm) (Same.free e hp) hq
/-- a new effect that is known to have no attributes of its own -/
def NewF (H : Hp) (g : List Nat) (Q : VK) : Prop := ∀ H' p o, Same H H' → H p = none → H' p = some (.frz o (.tup (vN g))) → o.dict = none → Q (.ref p) H'
theorem NewF.imp {H H1 : Hp} {g : List Nat} {Q : VK} (h : NewF H g Q) (e : Same H H1) : NewF H1 g Q := fun H' p o sm hp hq hd => h H' p o (e.trans sm) (Same.free e hp) hq hd
end
end Sv
set_option maxHeartbeats 4000000
set_option maxHeartbeats 4000000
namespace Sv
open PySem PySem.Spec PyProof.Rows L2
theorem range_getD (ns : List Int) : (List.range ns.length).map (fun i => ns.getD i 0) = ns := by
  refine List.ext_getElem? fun i => ?_
  by_cases h : i < ns.length
  · rw [List.getElem?_map, List.getElem?_range h, Option.map_some, List.getD_eq_getElem?_getD, List.getElem?_eq_getElem h]
    rfl
  · rw [List.getElem?_eq_none (by simp; omega), List.getElem?_eq_none (by omega)]
theorem any_mem (ns : List Int) (k : Int) : (ns.any (· == k)) = decide (k ∈ ns) := by
  rw [Bool.eq_iff_iff, List.any_eq_true, decide_eq_true_iff]
  exact ⟨fun ⟨x, hx, e⟩ => by rw [← beq_iff_eq.mp e]; exact hx, fun h => ⟨k, h, beq_self_eq_true k⟩⟩
theorem fm_nodup (val : Nat → Int) : ∀ i, (PyProof.Rows.firstMet val i).Nodup
  | 0 => by rw [PyProof.Rows.firstMet_zero]; exact List.nodup_nil
  | i + 1 => by
    rw [PyProof.Rows.firstMet_succ]
    have ih := fm_nodup val i
    unfold PyProof.Rows.step_dedup
    split
    · exact ih
    · rename_i h
      refine List.nodup_append.mpr ⟨ih, by simp, fun x hx y hy z => h ?_⟩
      rw [List.mem_singleton.mp hy] at z
      exact List.any_eq_true.mpr ⟨x, hx, beq_iff_eq.mpr z⟩
def tLenSetL (K : PySem.W.Frag) (ta : TE) : TE := fun σ H Q => ta σ H fun x H1 => ∃ (l : Addr) (ns : List Int), x = .ref l ∧ SqL K H1 l (ns.map V.int) ∧ ns.length ≤ 4000 ∧ ∀ c : Nat, c ≤ ns.length → (c = ns.length ↔ ns.Nodup) → Q (.int c) H1
theorem pe_lenSetL {X : Cx} {a : Expr} {ta : TE} {p p2 q pos : Pos} (hg : Gl X "len") (hm : X.mg "len" = none) (hg2 : Gl X "set") (hm2 : X.mg "set" = none) (ha : PE X a ta) (hc : X.calm = true := by rfl)
    (na : starEach [a] X.env = (false, eval a X.env) :: starEach [] X.env := by rfl) : PE X (.Call (.Name "len" p) [.Call (.Name "set" p2) [a] [] q] [] pos) (tLenSetL X.K ta) := by
  refine ⟨fun pins s σ H Q I h => Call_ (ld_blt I hg hm boot_len (PyProof.Rows.callWith_builtin1 (PyProof.Rows.args_cons (Call_ (ld_blt I hg2 hm2 boot_set ?_)) rfl) rfl rfl))⟩
  refine PyProof.Rows.callWith_type1 (PyProof.Rows.args_cons (thn (ha.run pins s σ H _ I h) fun v s1 ⟨x, H1, I1, r1, l, ns, ex, hq, hl, q1⟩ => PyProof.Rows.args_nil ?_) na) na rfl
  subst ex
  cases r1
  obtain ⟨its, r, pl, hz⟩ := I1.list hq
  have hlen : its.toArray.size = ns.length := by rw [List.size_toArray, ← r.length, List.length_map]
  refine call_set_list (I1.ok.hd hc) pl.isList (by simpa using RZ.intsAre_vals r) (by rw [hlen]; unfold scanBound; omega) fun h' tk hS hk => PyProof.Rows.args_nil ?_
  have fl := PyProof.Rows.firstMet_length_le (fun i => ns.getD i 0) its.toArray.size
  have fm : ∀ k, k ∈ PyProof.Rows.firstMet (fun i => ns.getD i 0) its.toArray.size ↔ k ∈ ns := fun k => by
    have z := PyProof.Rows.firstMet_any (fun i => ns.getD i 0) its.toArray.size k
    rw [hlen, range_getD, any_mem, any_mem] at z
    rw [hlen]
    simpa using z
  have fn := fm_nodup (fun i => ns.getD i 0) its.toArray.size
  generalize (PyProof.Rows.firstMet (fun i => ns.getD i 0) its.toArray.size) = m at hS fl fm fn
  obtain ⟨o, es, ep, t, ho, hex, hd, _, _, _, hf, hn⟩ := hS
  have I2 : Inv X pins σ H1 { s1 with heap := h', toks := tk } := I1.kept fun b o e => hk b o (Heap.lt_size e) e
  refine call_len_set ho hex hd hf (by rw [hn]; have : (4000 : Nat) < 2 ^ 63 := by decide
                                       omega) ⟨.int m.length, H1, I2.tok _, ⟨_, by rw [hn]⟩, q1 m.length (by omega) ⟨fun e => ?_, fun e => ?_⟩⟩
  · exact nodup_of_len fn (fun x hx => (fm x).mp hx) (by rw [e]; exact Nat.le_refl _)
  · have z := nodup_sub_len e fun x hx => (fm x).mpr hx
    omega
end Sv
set_option maxHeartbeats 4000000
namespace Sv
open PySem PySem.Spec PyProof.Rows L2
abbrev TimeOk (t : Int) : Prop := -1000000000000000000000000000000 ≤ t ∧ t ≤ 1000000000000000000000000000000
def OkP (ns : List Int) : Prop := (∀ x ∈ ns, 1 ≤ x ∧ x ≤ 999) ∧ ns.Nodup
instance (ns : List Int) : Decidable (OkP ns) := by unfold OkP; infer_instance
instance (n : Nat) (zs : List Int) (L : Lay Int) : Decidable (Fits n zs L) := by unfold Fits; infer_instance
structure StOk (zs : List Int) (rs : List Ro) (t : Int) (L : Lay Int) : Prop where
  t : TimeOk t
  f : Fits rs.length zs L
  p : OkP (join L)
instance (zs : List Int) (rs : List Ro) (t : Int) (L : Lay Int) : Decidable (StOk zs rs t L) :=
  if h : TimeOk t ∧ Fits rs.length zs L ∧ OkP (join L) then isTrue ⟨h.1, h.2.1, h.2.2⟩ else isFalse fun z => h ⟨z.t, z.f, z.p⟩
/-- a state in its place -/
structure StateAt (K : PySem.W.Frag) (H : Hp) (s : Addr) (t : Int) (L : Lay Int) : Prop where
  ex : ∃ ca sh : Addr, SqT K H s [.int t, .ref ca, .ref sh] ∧ LayT K H ca sh L.1 L.2
theorem StateAt.imp {K : PySem.W.Frag} {H H' : Hp} {s : Addr} {t : Int} {L : Lay Int} (x : StateAt K H s t L) (e : ∀ a xs, SqT K H a xs → SqT K H' a xs) : StateAt K H' s t L := by
  obtain ⟨ca, sh, h1, h2⟩ := x.ex
  exact ⟨ca, sh, e _ _ h1, h2.imp e⟩
theorem StateAt.same {K : PySem.W.Frag} {H H' : Hp} {s : Addr} {t : Int} {L : Lay Int} (x : StateAt K H s t L) (e : Same H H') : StateAt K H' s t L := x.imp fun _ _ => sqT_same e
section
variable {P : Program} {w : World} {K : PySem.W.Frag} {mg : Str → Option Value} {base : Heap}
theorem scTupOf : FnScope ["row", "length"] ["row", "length"] (defScope sTupOf) := ⟨rfl, rfl, rfl, by decide +kernel, rfl, by decide +kernel, by decide +kernel⟩
def spTupOf (K : PySem.W.Frag) : Sp := fun vs H Q _ => ∃ (a : Addr) (n : Int) (xs : List V), vs = [.ref a, .int n] ∧ SqT K H a xs ∧ Q (.bl (decide ((xs.length : Int) = n))) H
theorem int_eqV (a b : Int) : decide (V.int a = V.int b) = decide (a = b) := by
  by_cases h : a = b
  · rw [decide_eq_true h, decide_eq_true (by rw [h])]
  · rw [decide_eq_false h, decide_eq_false fun z => h (V.int.inj z)]
theorem ok_tupOf (T : Bd P K mg) : FnOk P w K mg base CX0 1 T.aTupOf T.dTupOf ["row", "length"] (spTupOf K) := by
  refine T.TupOf.F.ok scTupOf (fun vs H Q E h => ?_) (fun cdv A outer s H vs Q E hr h => ?_)
  · obtain ⟨a, n, xs, rfl, _⟩ := h
    rfl
  · obtain ⟨a, n, xs, rfl, hA, q⟩ := h
    refine ⟨_, pss_one (ps_ret (pe_and (pe_callB call_isi (by rfl) T.bt.isinstance b_isinstance (pa_cons (pv 0) (pa_cons (pe_ty (by rfl) T.bt.tuple b_tuple) pa_nil)))
      (pe_one (pe_cmpR op_eq (pe_callB call_len_seq (by rfl) T.bt.len b_len (pa_cons (pv 0) pa_nil)) (pv 1) (nomark _))))), ?_⟩
    refine ⟨.ref a, rfl, .ref a, .ty "tuple", _, _, true, rfl, .ty "tuple", tyx_tup hA, kit_ty (by decide +kernel), true, rfl, ?_⟩
    rw [if_pos rfl]
    refine ⟨.ref a, rfl, a, _, rfl, .inr hA, .int n, rfl, rfl, ?_⟩
    show Q (.bl (decide (V.int (xs.length : Nat) = V.int n))) H
    rw [int_eqV]
    exact q
theorem scParcels : FnScope ["parcels", "parcel"] ["parcels"] (defScope sParcels) := ⟨rfl, rfl, rfl, by decide +kernel, rfl, by decide +kernel, by decide +kernel⟩
def spParcels (K : PySem.W.Frag) : Sp := fun vs H Q _ => ∃ (l : Addr) (ns : List Int), vs = [.ref l] ∧ SqL K H l (ns.map V.int) ∧ ns.length ≤ 2000 ∧ Q (.bl (decide (OkP ns))) H
theorem ok_parcels (T : Bd P K mg) : FnOk P w K mg base CX0 2 T.aParcels T.dParcels ["parcels"] (spParcels K) := by
  have GW : FnOk P w K mg base CX0 1 T.aWithin T.dWithin ["number", "low", "high"] spWithin := ok_within T.Within.F T.bt.isinstance T.bt.bool T.bt.int
  obtain ⟨tl, hlast⟩ := T.lastP
  refine T.Parcels.F.ok scParcels (fun vs H Q E h => ?_) (fun cdv A outer s H vs Q E hr h => ?_)
  · obtain ⟨l, ns, rfl, _⟩ := h
    rfl
  · obtain ⟨l, ns, rfl, hL, hl, q⟩ := h
    refine ⟨_, pss_cons (ps_for PassesOwn.never rfl (pi_list (pv 0)) (pg_name (i := 1) scParcels.nd rfl (Or.inl rfl))
        (pss_one (ps_if (pt_not (pt_val (pe_call GW hr (by rfl) T.Within.g T.Within.F.kp T.Within.b .nil pass0 (pa_cons (pv 1) (pa_cons pe_int (pa_cons (pe_glob (v := .int 999) (by rfl) hlast ⟨_, rfl⟩) pa_nil)))))) (pss_one (ps_ret pe_bl)) pss_nil)))
      (pss_one (ps_ret (pe_cmpR op_eq (pe_lenSetL (by rfl) T.bt.len (by rfl) T.bt.set (pv 0)) (pe_callB call_len_seq (by rfl) T.bt.len b_len (pa_cons (pv 0) pa_nil)) (nomark _)))), ?_⟩
    have hlen : (ns.map V.int).length = ns.length := by rw [List.length_map]
    refine ⟨.ref l, rfl, l, rfl, ⟨_, hL⟩, for_list (xs := ns.map V.int) (fun i σ H' => (∃ y, σ = [some (.ref l), y]) ∧ H' = H ∧ ∀ j x, j < i → ns[j]? = some x → 1 ≤ x ∧ x ≤ 999) ⟨⟨none, rfl⟩, rfl, fun j x hj => by omega⟩ (fun i σ H' _ h => by rw [h.2.1]; exact hL)
      (fun i x σ H' hx ⟨⟨y, es⟩, eH, hok⟩ => ?_) (fun σ H' ⟨⟨y, es⟩, eH, hok⟩ => ?_)⟩
    · subst es
      subst eH
      obtain ⟨n, hn, rfl⟩ := iV_lt hx
      refine ⟨.int n, rfl, n, 1, 999, rfl, _, rfl, ?_⟩
      by_cases h : 1 ≤ n ∧ n ≤ 999
      · rw [decide_eq_true h]
        refine iteF ⟨⟨_, rfl⟩, rfl, fun j x hj e => ?_⟩
        by_cases hji : j = i
        · rw [hji, hn] at e
          rw [← Option.some.inj e]
          exact h
        · exact hok j x (by omega) e
      · rw [decide_eq_false h]
        have e : decide (OkP ns) = false := decide_eq_false fun z => h (z.1 n (List.mem_of_getElem? hn))
        rw [e] at q
        exact iteT q
    · subst es
      subst eH
      rw [hlen] at hok
      refine ⟨.ref l, rfl, l, ns, rfl, hL, by omega, fun c hc hiff => ?_⟩
      refine ⟨.ref l, rfl, l, _, rfl, .inl hL, rfl, ?_⟩
      rw [hlen]
      show Q (.bl (decide (V.int (c : Int) = V.int (ns.length : Nat)))) H'
      rw [int_eqV]
      have h1 : ∀ x ∈ ns, 1 ≤ x ∧ x ≤ 999 := fun x hx => by
        obtain ⟨j, hj⟩ := List.mem_iff_getElem?.mp hx
        exact hok j x (List.getElem?_eq_some_iff.mp hj).1 hj
      have e : decide ((c : Int) = (ns.length : Nat)) = decide (OkP ns) := by
        by_cases h : c = ns.length
        · rw [decide_eq_true (by rw [h]), decide_eq_true ⟨h1, hiff.mp h⟩]
        · rw [decide_eq_false (by omega), decide_eq_false fun z => h (hiff.mpr z.2)]
      rw [e]
      exact q
def nFi : List Str := ["plan", "carried", "shelves", "sizes", "routes", "size", "shelf"]
theorem scFits : FnScope nFi ["plan", "carried", "shelves"] (defScope sFits) := ⟨rfl, rfl, rfl, by decide +kernel, rfl, by decide +kernel, by decide +kernel⟩
def spFits (K : PySem.W.Frag) : Sp := fun vs H Q _ => ∃ (p ca sh : Addr) (zs : List Int) (rs : List Ro) (L : Lay Int), vs = [.ref p, .ref ca, .ref sh] ∧ PlanAt K H p zs rs ∧ (∀ z ∈ zs, 0 ≤ z) ∧ LayT K H ca sh L.1 L.2 ∧ ∀ H', Same H H' → Q (.bl (decide (Fits rs.length zs L))) H'
theorem fits_no {n : Nat} {zs : List Int} {L : Lay Int} {i : Nat} {z : Int} {s : List Int} (hz : zs[i]? = some z) (h0 : 0 ≤ z) (hs : L.2[i]? = some s) (h : ¬ (s.length : Int) = z) : ¬ Fits n zs L := fun f => by
  have h1 : (L.2.map List.length)[i]? = some s.length := by rw [List.getElem?_map, hs]; rfl
  rw [f.2, List.getElem?_map, hz] at h1
  have := Option.some.inj h1
  omega
theorem ok_fits (T : Bd P K mg) : FnOk P w K mg base CX0 2 T.aFits T.dFits ["plan", "carried", "shelves"] (spFits K) := by
  have GT : FnOk P w K mg base CX0 1 T.aTupOf T.dTupOf ["row", "length"] (spTupOf K) := ok_tupOf T
  refine T.Fits.F.ok scFits (fun vs H Q E h => ?_) (fun cdv A outer s H vs Q E hr h => ?_)
  · obtain ⟨p, ca, sh, zs, rs, L, rfl, _⟩ := h
    rfl
  · obtain ⟨p, ca, sh, zs, rs, L, rfl, hp, hz, hL, q⟩ := h
    obtain ⟨a, b, hp1, ha, hb⟩ := hp.ex
    obtain ⟨rqs, hA, hP⟩ := hb.ex
    have hrl := paired_len hP
    obtain ⟨qs, hs1, hs2⟩ := hL.s
    have hql := segT_len hs2
    refine ⟨_, pss_cons (ps_asg (pv 0) (pg_tup rfl (pgs_cons (pg_name (i := 3) scFits.nd rfl (.inl rfl)) (pgs_cons (pg_name (i := 4) scFits.nd rfl (.inl rfl)) pgs_nil))))
      (pss_cons (ps_if (pw_or (pt_not (pt_val (pe_call (E := E0) GT hr (by rfl) T.TupOf.g T.TupOf.F.kp T.TupOf.b .nil pass0 (pa_cons (pv 1) (pa_cons (pe_callB call_len_seq (by rfl) T.bt.len b_len (pa_cons (pv 4) pa_nil)) pa_nil)))))
          (pw_or1 (pt_not (pt_val (pe_call (E := E0) GT hr (by rfl) T.TupOf.g T.TupOf.F.kp T.TupOf.b .nil pass0 (pa_cons (pv 2) (pa_cons (pe_callB call_len_seq (by rfl) T.bt.len b_len (pa_cons (pv 3) pa_nil)) pa_nil))))))).pt (pss_one (ps_ret pe_bl)) pss_nil)
      (pss_cons (ps_for PassesOwn.never rfl (RZ.pi_zipA (by rfl) T.bt.zip (pa_cons (pv 3) (pa_cons (pv 2) pa_nil))) (pg_tup rfl (pgs_cons (pg_name (i := 5) scFits.nd rfl (.inl rfl)) (pgs_cons (pg_name (i := 6) scFits.nd rfl (.inl rfl)) pgs_nil)))
        (pss_one (ps_if (pt_not (pt_val (pe_call (E := E0) GT hr (by rfl) T.TupOf.g T.TupOf.F.kp T.TupOf.b .nil pass0 (pa_cons (pv 6) (pa_cons (pv 5) pa_nil))))) (pss_one (ps_ret pe_bl)) pss_nil)))
      (pss_one (ps_ret pe_bl)))), ?_⟩
    refine ⟨.ref p, rfl, p, _, rfl, hp1, rfl, _, _, rfl, _, _, rfl, rfl, ?_⟩
    refine ⟨.ref ca, rfl, .ref b, rfl, b, _, rfl, .inr hA, ca, _, _, rfl, hL.c, _, rfl, ?_⟩
    rw [List.length_map, List.length_map, hrl]
    have no : ¬ Fits rs.length zs L → Q (.bl false) H := fun h => by
      have := q H (Same.refl H)
      rwa [decide_eq_false h] at this
    by_cases h1 : ((L.1.length : Nat) : Int) = (rs.length : Nat)
    · rw [decide_eq_true h1]
      refine iteF ⟨.ref sh, rfl, .ref a, rfl, a, _, rfl, .inr ha, sh, _, _, rfl, hs1, _, rfl, ?_⟩
      rw [List.length_map, List.length_map, hql]
      by_cases h2 : ((L.2.length : Nat) : Int) = (zs.length : Nat)
      · rw [decide_eq_true h2]
        refine iteF ⟨.ref a, rfl, .ref sh, rfl, a, sh, zs.map V.int, qs.map V.ref, rfl, .inr ⟨ha, hs1, RZ.for_zipT (by rw [List.length_map, List.length_map]; omega) (fun i σ H' => (∃ y5 y6, σ = [some (.ref p), some (.ref ca), some (.ref sh), some (.ref a), some (.ref b), y5, y6]) ∧ Same H H' ∧ ∀ j z s, j < i → zs[j]? = some z → L.2[j]? = some s → (s.length : Int) = z)
          ⟨⟨_, _, rfl⟩, Same.refl H, fun j z s hj => by omega⟩ (fun i σ H' h => ⟨sqT_same h.2.1 ha, sqT_same h.2.1 hs1⟩) (fun i x y U σ H' hx hy ⟨⟨y5, y6, es⟩, sm, hok⟩ hU => ?_) (fun σ H' ⟨⟨y5, y6, es⟩, sm, hok⟩ => ?_)⟩⟩
        · subst es
          obtain ⟨z, hz1, rfl⟩ := iV_lt hx
          obtain ⟨q1, hq1, rfl⟩ := refs_lt hy
          obtain ⟨s1, hs3, hq2⟩ := segT_at hs2 hq1
          have smU : Same H (upd H' U (.tup [.int z, .ref q1])) := same_of sm (Same.free sm hU)
          refine ⟨U, _, rfl, .inl (.inl upd_same), rfl, _, _, rfl, _, _, rfl, rfl, ?_⟩
          refine ⟨.ref q1, rfl, .int z, rfl, q1, z, _, rfl, sqT_same smU hq2, _, rfl, ?_⟩
          rw [List.length_map]
          by_cases h3 : (s1.length : Int) = z
          · rw [decide_eq_true h3]
            refine iteF ⟨⟨_, _, rfl⟩, smU, fun j z' s' hj e1 e2 => ?_⟩
            by_cases hji : j = i
            · subst hji
              rw [hz1] at e1
              rw [hs3] at e2
              rw [← Option.some.inj e1, ← Option.some.inj e2]
              exact h3
            · exact hok j z' s' (by omega) e1 e2
          · rw [decide_eq_false h3]
            have e : decide (Fits rs.length zs L) = false := decide_eq_false (fits_no hz1 (hz z (List.mem_of_getElem? hz1)) hs3 h3)
            have := q _ smU
            rw [e] at this
            exact iteT this
        · subst es
          rw [List.length_map] at hok
          have f : Fits rs.length zs L := by
            refine ⟨by omega, List.ext_getElem? fun i => ?_⟩
            by_cases hi : i < zs.length
            · have g1 : zs[i]? = some zs[i] := List.getElem?_eq_getElem hi
              have hi2 : i < L.2.length := by omega
              have g2 : L.2[i]? = some L.2[i] := List.getElem?_eq_getElem hi2
              have := hok i _ _ hi g1 g2
              rw [List.getElem?_map, List.getElem?_map, g1, g2]
              show some (L.2[i].length) = some (zs[i].toNat)
              congr 1
              omega
            · rw [List.getElem?_eq_none (by rw [List.length_map]; omega), List.getElem?_eq_none (by rw [List.length_map]; omega)]
          have := q _ sm
          rwa [decide_eq_true f] at this
      · rw [decide_eq_false h2]
        refine iteT (no fun f => h2 ?_)
        have := congrArg List.length f.2
        rw [List.length_map, List.length_map] at this
        omega
    · rw [decide_eq_false h1]
      exact iteT (no fun f => h1 (by rw [f.1]))
end
end Sv
set_option maxHeartbeats 4000000
namespace Sv
open PySem PySem.Spec PyProof.Rows L2
section
variable {P : Program} {w : World} {K : PySem.W.Frag} {mg : Str → Option Value} {base : Heap}
def nCs : List Str := ["plan", "state", "time", "carried", "shelves"]
theorem scCheckState : FnScope nCs ["plan", "state"] (defScope sCheckState) := ⟨rfl, rfl, rfl, by decide +kernel, rfl, by decide +kernel, by decide +kernel⟩
def spCheckState (K : PySem.W.Frag) (CS : Addr) : Sp := fun vs H Q E => ∃ (p s : Addr) (zs : List Int) (rs : List Ro) (t : Int) (L : Lay Int), vs = [.ref p, .ref s] ∧ PlanAt K H p zs rs ∧ Val zs rs ∧ StateAt K H s t L ∧
  (StOk zs rs t L → ∀ H', Same H H' → Q .non H') ∧ (¬ StOk zs rs t L → ∀ H', Same H H' → E (.ref CS) none H')
theorem ok_checkState (T : Bd P K mg) : FnOk P w K mg base (L2.CX P w) 3 T.aCheckState T.dCheckState ["plan", "state"] (spCheckState K T.CS) := by
  have GW : FnOk P w K mg base CX0 1 T.aWithin T.dWithin ["number", "low", "high"] spWithin := ok_within T.Within.F T.bt.isinstance T.bt.bool T.bt.int
  have GF : FnOk P w K mg base CX0 2 T.aFits T.dFits ["plan", "carried", "shelves"] (spFits K) := ok_fits T
  have GJ : FnOk P w K mg base CX0 1 T.aJoin T.dJoin ["carried", "shelves"] (spJoin K) := ok_join T
  have GP : FnOk P w K mg base CX0 2 T.aParcels T.dParcels ["parcels"] (spParcels K) := ok_parcels T
  obtain ⟨tl, hlim⟩ := T.tlim
  refine T.CheckState.F.okX scCheckState (fun vs H Q E h => ?_) (fun cdv A outer s H vs Q E hr h => ?_)
  · obtain ⟨p, s, zs, rs, t, L, rfl, _⟩ := h
    rfl
  · obtain ⟨p, s, zs, rs, t, L, rfl, hp, hv, hs, q1, q2⟩ := h
    obtain ⟨ca, sh, hs1, hL⟩ := hs.ex
    refine ⟨_, pss_cons (ps_if (pw_or (pt_not (pt_val (pe_callB call_isi (by rfl) T.bt.isinstance b_isinstance (pa_cons (pv 1) (pa_cons (pe_ty (by rfl) T.bt.tuple b_tuple) pa_nil)))))
          (pw_or1 (pt_cmpR op_ne (pe_callB call_len_seq (by rfl) T.bt.len b_len (pa_cons (pv 1) pa_nil)) pe_int (nomark _)))).pt
        (pss_one (ps_raise rfl (takes_of rfl rfl rfl rfl) (pmk_own PySem.F.excBase_ValueError T.cs.x T.cs.g T.cs.k (raises_own T.cs.b T.cs.t) rfl))) pss_nil)
      (pss_cons (ps_asg (pv 1) (pg_tup rfl (pgs_cons (pg_name (i := 2) scCheckState.nd rfl (.inl rfl)) (pgs_cons (pg_name (i := 3) scCheckState.nd rfl (.inl rfl)) (pgs_cons (pg_name (i := 4) scCheckState.nd rfl (.inl rfl)) pgs_nil)))))
      (pss_cons (ps_if (pt_not (pt_val (pe_call (E := E0) GW (hr.mono (by decide)) (by rfl) T.Within.g T.Within.F.kp T.Within.b .nil pass0 (pa_cons (pv 2) (pa_cons (pe_un un_neg (pe_glob (v := .int 1000000000000000000000000000000) (by rfl) hlim ⟨_, rfl⟩)) (pa_cons (pe_glob (v := .int 1000000000000000000000000000000) (by rfl) hlim ⟨_, rfl⟩) pa_nil))))))
        (pss_one (ps_raise rfl (takes_of rfl rfl rfl rfl) (pmk_own PySem.F.excBase_ValueError T.cs.x T.cs.g T.cs.k (raises_own T.cs.b T.cs.t) rfl))) pss_nil)
      (pss_cons (ps_if (pt_not (pt_val (pe_call (E := E0) GF hr (by rfl) T.Fits.g T.Fits.F.kp T.Fits.b .nil pass0 (pa_cons (pv 0) (pa_cons (pv 3) (pa_cons (pv 4) pa_nil))))))
        (pss_one (ps_raise rfl (takes_of rfl rfl rfl rfl) (pmk_own PySem.F.excBase_ValueError T.cs.x T.cs.g T.cs.k (raises_own T.cs.b T.cs.t) rfl))) pss_nil)
      (pss_one (ps_if (pt_not (pt_val (pe_call (E := E0) GP hr (by rfl) T.Parcels.g T.Parcels.F.kp T.Parcels.b .nil pass0 (pa_cons (pe_call (E := E0) GJ (hr.mono (by decide)) (by rfl) T.Join.g T.Join.F.kp T.Join.b .nil pass0 (pa_cons (pv 3) (pa_cons (pv 4) pa_nil))) pa_nil))))
        (pss_one (ps_raise rfl (takes_of rfl rfl rfl rfl) (pmk_own PySem.F.excBase_ValueError T.cs.x T.cs.g T.cs.k (raises_own T.cs.b T.cs.t) rfl))) pss_nil))))), ?_⟩
    refine ⟨.ref s, rfl, .ref s, .ty "tuple", _, _, true, rfl, .ty "tuple", tyx_tup hs1, kit_ty (by decide +kernel), true, rfl, iteF ?_⟩
    refine ⟨.ref s, rfl, s, _, rfl, .inr hs1, rfl, _, rfl, iteF ?_⟩
    refine ⟨.ref s, rfl, s, _, rfl, hs1, rfl, _, _, rfl, _, _, rfl, _, _, rfl, rfl, ?_⟩
    refine ⟨.int t, rfl, _, rfl, t, -1000000000000000000000000000000, 1000000000000000000000000000000, rfl, _, rfl, ?_⟩
    by_cases h1 : TimeOk t
    · rw [decide_eq_true h1]
      refine iteF ⟨.ref p, rfl, .ref ca, rfl, .ref sh, rfl, p, ca, sh, zs, rs, L, rfl, hp, fun z hz => (hv.z2 z hz).1, hL, fun H1 sm1 => ⟨_, rfl, ?_⟩⟩
      by_cases h2 : Fits rs.length zs L
      · rw [decide_eq_true h2]
        have jl := join_len h2
        have hn := hv.num
        have jl2 : L.1.length + L.2.flatten.length = rs.length + sumN zs := by
          rw [← jl]
          unfold join
          rw [List.length_append]
        refine iteF ⟨.ref ca, rfl, .ref sh, rfl, ca, sh, L.1, L.2, rfl, hL.same sm1, by omega, fun H2 f sm2 nf kf => ⟨f, L.1 ++ L.2.flatten, rfl, .inl (.inl kf), by rw [List.length_append]; omega, _, rfl, ?_⟩⟩
        by_cases h3 : OkP (L.1 ++ L.2.flatten)
        · rw [decide_eq_true h3]
          exact iteF (q1 ⟨h1, h2, h3⟩ _ (sm1.trans sm2))
        · rw [decide_eq_false h3]
          exact iteT (q2 (fun z => h3 z.p) _ (sm1.trans sm2))
      · rw [decide_eq_false h2]
        exact iteT (q2 (fun z => h2 z.f) _ sm1)
    · rw [decide_eq_false h1]
      exact iteT (q2 (fun z => h1 z.t) _ (Same.refl H))
end
end Sv
set_option maxHeartbeats 4000000
namespace Sv
open PySem PySem.Spec PyProof.Rows L2
section
variable {P : Program} {w : World} {K : PySem.W.Frag} {mg : Str → Option Value} {base : Heap}
theorem NewL.imp {H H1 : Hp} {l : List Int} {Q : VK} (h : NewL H l Q) (e : Same H H1) : NewL H1 l Q := fun H' f sm hf => h H' f (e.trans sm) (Same.free e hf)
/-- a new state -/
def NewSt (K : PySem.W.Frag) (H : Hp) (t : Int) (L : Lay Int) (Q : VK) : Prop := ∀ H' s, Same H H' → H s = none → StateAt K H' s t L → Q (.ref s) H'
theorem NewSt.imp {K : PySem.W.Frag} {H H1 : Hp} {t : Int} {L : Lay Int} {Q : VK} (h : NewSt K H t L Q) (e : Same H H1) : NewSt K H1 t L Q := fun H' s sm hs => h H' s (e.trans sm) (Same.free e hs)
end
end Sv
set_option maxHeartbeats 4000000
set_option maxHeartbeats 4000000
set_option maxHeartbeats 4000000
namespace Sv
open PySem PySem.Spec PyProof.Rows L2
/-- the parcels 1 to n -/
def upto (n : Nat) : List Int := (List.range n).map fun k => ((k : Nat) : Int) + 1
theorem upto_succ (n : Nat) : upto (n + 1) = upto n ++ [((n : Nat) : Int) + 1] := by
  unfold upto
  rw [List.range_succ, List.map_append]
  rfl
theorem upto_ok {n : Nat} (h : n ≤ 999) : OkP (upto n) := by
  refine ⟨fun x hx => ?_, ?_⟩
  · obtain ⟨k, hk, rfl⟩ := List.mem_map.mp hx
    have := List.mem_range.mp hk
    omega
  · unfold upto
    refine List.pairwise_map.mpr (List.Pairwise.imp (fun {a b} hab e => ?_) (List.nodup_range (n := n)))
    exact hab (by omega)
theorem okP_pm {a b : List Int} (p : a.Perm b) (h : OkP b) : OkP a := ⟨fun x hx => h.1 x (p.mem_iff.mp hx), p.nodup_iff.mpr h.2⟩
theorem sqT_dl {K : PySem.W.Frag} {H H' : Hp} {f a : Addr} {ys xs : List V} (hf : H f = some (.lst ys)) (g : SameD f H H') (s : SqT K H a xs) : SqT K H' a xs := by
  rcases s with (s | ⟨o, s⟩) | s
  · refine .inl (.inl (g _ _ (fun z => ?_) s))
    rw [z, hf] at s
    cases s
  · refine .inl (.inr ⟨o, g _ _ (fun z => ?_) s⟩)
    rw [z, hf] at s
    cases s
  · exact .inr s
theorem StD.offs {K : PySem.W.Frag} {H H1 H2 : Hp} {h sc f : Addr} (S : StD K h sc H H1) (hf : H f = none) (fh : f ≠ h) (g : SameD f H1 H2) : StD K h sc H H2 := by
  have k : SameD h H H2 := fun b o hb e => g b o (fun z => by rw [z, hf] at e; cases e) (S.k b o hb e)
  obtain ⟨i0, m0, d0, cs0, f1, f2, f3⟩ := S.law0.ex
  obtain ⟨i, m, d, cs, e1, _, _⟩ := S.law.ex
  exact ⟨S.law0, ⟨i, m, d, cs0, g _ _ (Ne.symm fh) e1, sqL_d f1 k f2, f3⟩, k⟩
theorem e12 : (10 : Int) ^ (12 : Int).toNat = 1000000000000 := by decide
theorem ins_perm {ys : List Int} {r : Nat} {v : Int} : (ys.take r ++ [v] ++ ys.drop r).Perm (ys ++ [v]) := by
  rw [List.append_assoc]
  refine (List.perm_middle (a := v) (l₁ := ys.take r) (l₂ := ys.drop r)).trans ?_
  rw [List.take_append_drop]
  exact (List.perm_append_singleton v ys).symm
section
variable {P : Program} {w : World} {K : PySem.W.Frag} {mg : Str → Option Value} {base : Heap}
def nRs : List Str := ["_law_state", "_law_plan", "_law_parcels", "_law_shelves", "_law_place", "_law_first", "_law_size", "_law_time"]
theorem scRs : FnScope nRs ["_law_state", "_law_plan"] (defScope sRndState) := ⟨rfl, rfl, rfl, by decide +kernel, rfl, by decide +kernel, by decide +kernel⟩
def spRs (K : PySem.W.Frag) : Sp := fun vs H Q _ => ∃ (h sc p : Addr) (zs : List Int) (rs : List Ro), vs = [.ref h, .ref p] ∧ LawD K H h sc ∧ PlanAt K H p zs rs ∧ Val zs rs ∧
  ∀ H' s t L, StD K h sc H H' → StateAt K H' s t L → StOk zs rs t L → (-100 ≤ t ∧ t ≤ 1000000000000) → (join L).Perm (upto (rs.length + sumN zs)) → Q (.ref s) H'
theorem ok_rs (T : Bd P K mg) : FnOk P w K mg base CX0 2 T.aLRndState T.dLRndState ["_law_state", "_law_plan"] (spRs K) := by
  have GN : FnOk P w K mg base CX0 1 T.aLDrawn T.dLDrawn ["_law_state", "_law_count"] (qDrawn K) := by unfold qDrawn; exact ok_drawn T.LDrawn.F T.bt
  refine T.LRndState.F.ok scRs (fun vs H Q E h => ?_) (fun cdv A outer s H vs Q E hr h => ?_)
  · obtain ⟨h, sc, p, zs, rs, rfl, _⟩ := h
    rfl
  · obtain ⟨h, sc, p, zs, rs, rfl, LH, hp, hv, q⟩ := h
    obtain ⟨a, b, hp1, ha, hb⟩ := hp.ex
    obtain ⟨qs, hA, hP⟩ := hb.ex
    have hql := paired_len hP
    refine ⟨_, pss_cons (ps_par (i := 2) (j := 3) rfl scRs.nd rfl rfl (by decide) rfl rfl (pa_cons (pe_lst pa_nil) (pa_cons (pe_lst pa_nil) pa_nil)) (by rfl))
      (pss_cons (ps_for PassesOwn.never rfl (pi_range1 (by rfl) T.bt.range (pa_cons (pe_op op_add (pe_callB call_len_seq (by rfl) T.bt.len b_len (pa_cons (pe_ix ix_tup (pv 1) (pe_int) (fun _ _ => rfl)) pa_nil)) (pe_callB (cr_sumT rfl) (by rfl) T.bt.sum b_sum (pa_cons (pe_ix ix_tup (pv 1) (pe_int) (fun _ _ => rfl)) pa_nil))) pa_nil)) (pg_name (i := 4) scRs.nd rfl (Or.inl rfl))
        (pss_one (ps_expr (pe_bm PySem.F.plainAttrs_list PySem.F.slot_list_insert PySem.F.type_list_insert mt_insert (pv 2) (pa_cons (pe_call (E := E0) GN (hr.mono (by decide)) (by rfl) T.LDrawn.g T.LDrawn.F.kp T.LDrawn.b .nil pass0 (pa_cons (pv 0) (pa_cons (pe_op op_add (pe_callB call_len_seq (by rfl) T.bt.len b_len (pa_cons (pv 2) pa_nil)) (pe_int)) pa_nil))) (pa_cons (pe_op op_add (pv 4) (pe_int)) pa_nil))))))
      (pss_cons (ps_set (i := 5) scRs.nd rfl (Or.inl rfl) (pe_callB call_len_seq (by rfl) T.bt.len b_len (pa_cons (pe_ix ix_tup (pv 1) (pe_int) (fun _ _ => rfl)) pa_nil)))
      (pss_cons (ps_for PassesOwn.never rfl (pi_tup (pe_ix ix_tup (pv 1) (pe_int) (fun _ _ => rfl))) (pg_name (i := 6) scRs.nd rfl (Or.inl rfl))
        (pss_cons (ps_expr (pe_bm PySem.F.plainAttrs_list PySem.F.slot_list_append PySem.F.type_list_append mt_append (pv 3) (pa_cons (pe_callTy call_tuple_of (by rfl) T.bt.tuple b_tuple (pa_cons (pe_slice sl_list (pv 2) (po_some (pv 5)) (po_some (pe_op op_add (pv 5) (pv 6)))) pa_nil)) pa_nil)))
      (pss_one (ps_set (i := 5) scRs.nd rfl (Or.inl rfl) (pe_op op_add (pv 5) (pv 6))))))
      (pss_cons (ps_set (i := 7) scRs.nd rfl (Or.inl rfl) (pe_ix ix_list (pe_lst (pa_cons (pe_int) (pa_cons (pe_op op_sub (pe_call (E := E0) GN (hr.mono (by decide)) (by rfl) T.LDrawn.g T.LDrawn.F.kp T.LDrawn.b .nil pass0 (pa_cons (pv 0) (pa_cons (pe_int) pa_nil))) (pe_int)) (pa_cons (pe_call (E := E0) GN (hr.mono (by decide)) (by rfl) T.LDrawn.g T.LDrawn.F.kp T.LDrawn.b .nil pass0 (pa_cons (pv 0) (pa_cons (pe_op op_pow pe_int pe_int) pa_nil))) pa_nil)))) (pe_call (E := E0) GN (hr.mono (by decide)) (by rfl) T.LDrawn.g T.LDrawn.F.kp T.LDrawn.b .nil pass0 (pa_cons (pv 0) (pa_cons (pe_int) pa_nil))) (fun _ _ => rfl)))
      (pss_one (ps_ret (pe_tup (pa_cons (pv 7) (pa_cons (pe_callTy call_tuple_of (by rfl) T.bt.tuple b_tuple (pa_cons (pe_slice sl_list (pv 2) (po_none) (po_some (pe_callB call_len_seq (by rfl) T.bt.len b_len (pa_cons (pe_ix ix_tup (pv 1) (pe_int) (fun _ _ => rfl)) pa_nil)))) pa_nil)) (pa_cons (pe_callTy call_tuple_of (by rfl) T.bt.tuple b_tuple (pa_cons (pv 3) pa_nil)) pa_nil)))))))))), ?_⟩
    have hn := hv.num
    have p62 : (1000 : Int) < 2 ^ 62 := by decide
    have p63 : (1000 : Int) < 2 ^ 63 := by decide
    have p64 : (1000 : Int) < 2 ^ 64 := by decide
    have hr6 := hv.r1
    have hz12 := hv.z1
    refine ⟨Nat.zero_le _, fun c hc => ⟨Nat.zero_le _, fun f hf0 => ⟨_, _, rfl, ?_⟩⟩⟩
    have ch := LH.nh hc
    have S1 := (StD.refl LH).upd (o := .lst []) hc ch
    have kc1 : (upd H c (.lst [])) c = some (.lst []) := upd_same
    have cf : c ≠ f := ne_of_none kc1 hf0
    have hf : H f = none := S1.was hf0
    have fh := LH.nh hf
    have S2 := S1.upd (o := .lst []) hf fh
    have kc2 : (upd (upd H c (.lst [])) f (.lst [])) c = some (.lst []) := by rw [upd_ne cf]; exact kc1
    have kf2 : (upd (upd H c (.lst [])) f (.lst [])) f = some (.lst []) := upd_same
    generalize upd (upd H c (.lst [])) f (.lst []) = H2 at S2 kc2 kf2 ⊢
    clear S1 kc1 hf0
    -- the parcels
    refine ⟨.ref p, rfl, p, _, 1, .ref b, rfl, rfl, sqT_d LH S2.k hp1, rfl, b, _, rfl, .inr (sqT_d LH S2.k hA), .ref p, rfl, p, _, 0, .ref a, rfl, rfl, sqT_d LH S2.k hp1, rfl, a, zs, rfl, sqT_d LH S2.k ha, _, _, rfl, rfl, ?_⟩
    rw [List.length_map, hql, sum_int fun z hz => (hv.z2 z hz).1]
    refine ⟨_, rfl, by omega, by omega, ?_⟩
    have en : (((rs.length : Nat) : Int) + ((sumN zs : Nat) : Int)).toNat = rs.length + sumN zs := by omega
    rw [en]
    refine for_range (lo := 0) (n := rs.length + sumN zs) (fun i σ H' => (∃ y4, σ = [some (.ref h), some (.ref p), some (.ref c), some (.ref f), y4, none, none, none]) ∧ StD K h sc H H' ∧ H' f = some (.lst []) ∧ ∃ ys : List Int, ys.length = i ∧ ys.Perm (upto i) ∧ H' c = some (.lst (ys.map V.int)))
      ⟨⟨_, rfl⟩, S2, kf2, [], rfl, .nil, kc2⟩ (fun i σ H3 hi ⟨⟨y4, es⟩, S3, kf3, ys, yl, yp, kc3⟩ => ?_) (fun σ H3 ⟨⟨y4, es⟩, S3, kf3, ys, yl, yp, kc3⟩ => ?_)
    · subst es
      refine ⟨.ref c, rfl, .inl ⟨rfl, _, .inl (.inl kc3)⟩, .ref h, rfl, .ref c, rfl, c, _, rfl, .inl (.inl (.inl kc3)), _, _, rfl, rfl, ?_⟩
      rw [List.length_map]
      show qDrawn _ _ _ _ _
      refine go_drawn S3.law (by omega) (by omega) fun r H4 hr4 L4 x4 => ⟨.int (0 + (i : Int)), rfl, _, _, rfl, rfl, ?_⟩
      have S4 := S3.next L4 x4
      have kc4 := x4 _ _ ch kc3
      have kf4 := x4 _ _ fh kf3
      refine ⟨c, _, (r : Int), _, rfl, rfl, kc4, by rw [List.length_map]; exact small1000 (by omega), by omega, by omega, ⟨_, rfl⟩, S4.upd hc ch, by rw [upd_ne (Ne.symm cf)]; exact kf4, ys.take r ++ [((i : Nat) : Int) + 1] ++ ys.drop r, ?_, ?_, ?_⟩
      · rw [List.length_append, List.length_append, List.length_take, List.length_drop]
        show min r ys.length + 1 + (ys.length - r) = i + 1
        omega
      · rw [upto_succ]
        exact ins_perm.trans (yp.append_right _)
      · rw [upd_same, Int.toNat_natCast, List.map_append, List.map_append, List.map_take, List.map_drop, Int.zero_add]
        rfl
    subst es
    have po : OkP ys := okP_pm yp (upto_ok (by omega))
    generalize hys : ys = cs at kc3 po yl yp
    have hp9 := sqT_d LH S3.k hp1
    have ha9 := sqT_d LH S3.k ha
    have hA9 := sqT_d LH S3.k hA
    -- the shelves
    refine ⟨.ref p, rfl, p, _, 1, .ref b, rfl, rfl, hp9, rfl, b, _, rfl, .inr hA9, ?_⟩
    rw [List.length_map, hql]
    refine ⟨.ref p, rfl, p, _, 0, .ref a, rfl, rfl, hp9, rfl, a, rfl, ⟨_, ha9⟩, for_tup (xs := zs.map V.int) (fun i σ H' => (∃ y6, σ = [some (.ref h), some (.ref p), some (.ref c), some (.ref f), y4, some (.int (rs.length + sumN (zs.take i) : Nat)), y6, none]) ∧ SameD f H3 H' ∧
        ∃ qs : List Addr, H' f = some (.lst (qs.map V.ref)) ∧ SegV H' qs (segs cs rs.length (zs.take i))) ⟨⟨none, rfl⟩, fun _ _ _ e => e, [], kf3, .nil⟩ (fun i σ H' _ h => sqT_dl kf3 h.2.1 ha9) (fun i x σ H' hx ⟨⟨y6, es⟩, sm, qs2, kf, sv⟩ => ?_) (fun σ H' ⟨⟨y6, es⟩, sm, qs2, kf, sv⟩ => ?_)⟩
    · subst es
      obtain ⟨z, hz1, rfl⟩ := iV_lt hx
      have hzz := hv.z2 z (List.mem_of_getElem? hz1)
      have il : i < zs.length := (List.getElem?_eq_some_iff.mp hz1).1
      have kc2 := sm _ _ cf kc3
      refine ⟨.ref f, rfl, .inl ⟨rfl, _, .inl (.inl kf)⟩, .ref c, rfl, .int (rs.length + sumN (zs.take i) : Nat), rfl, (rs.length + sumN (zs.take i) : Nat), rfl, .int (rs.length + sumN (zs.take i) : Nat), rfl, .int z, rfl, (rs.length + sumN (zs.take i) : Nat), z, rfl, rfl, _, rfl, c, _, rfl, .inl (.inl kc2), fun p4 hp4 => ?_⟩
      have ecut : cutV (cs.map V.int) (some ((rs.length + sumN (zs.take i) : Nat) : Int)) (some (((rs.length + sumN (zs.take i) : Nat) : Int) + z)) = ((cs.drop (rs.length + sumN (zs.take i))).take z.toNat).map V.int := by
        rw [show (((rs.length + sumN (zs.take i) : Nat) : Int) + z) = ((rs.length + sumN (zs.take i) : Nat) : Int) + (z.toNat : Nat) by omega, cut_seg, ← List.map_drop, ← List.map_take]
      rw [ecut]
      have m4 : Same H' (upd H' p4 (.lst (((cs.drop (rs.length + sumN (zs.take i))).take z.toNat).map V.int))) := same_upd hp4
      refine ⟨p4, _, rfl, .inl ⟨.inl (.inl upd_same), fun p5 hp5 => ?_⟩⟩
      have m5 := m4.trans (same_upd (o := .tup (((cs.drop (rs.length + sumN (zs.take i))).take z.toNat).map V.int)) hp5)
      have k5 : (upd (upd H' p4 (.lst (((cs.drop (rs.length + sumN (zs.take i))).take z.toNat).map V.int))) p5 (.tup (((cs.drop (rs.length + sumN (zs.take i))).take z.toNat).map V.int))) p5 = some (.tup (((cs.drop (rs.length + sumN (zs.take i))).take z.toNat).map V.int)) := upd_same
      generalize upd (upd H' p4 (.lst (((cs.drop (rs.length + sumN (zs.take i))).take z.toNat).map V.int))) p5 (.tup (((cs.drop (rs.length + sumN (zs.take i))).take z.toNat).map V.int)) = H12 at m5 k5 ⊢
      have kf5 := m5 _ _ kf
      have hql2 : qs2.length = i := by
        rw [segV_len sv, segs_len, List.length_take]
        omega
      have ek : zs.take (i + 1) = zs.take i ++ [z] := by rw [List.take_add_one, hz1]; rfl
      refine ⟨f, _, _, rfl, rfl, kf5, ?_, .int (rs.length + sumN (zs.take i) : Nat), rfl, .int z, rfl, (rs.length + sumN (zs.take i) : Nat), z, rfl, rfl, ⟨some (.int z), ?_⟩, fun b o hb e => by rw [upd_ne hb]; exact m5 _ _ (sm _ _ hb e), qs2 ++ [p5], ?_, ?_⟩
      · rw [List.length_map]
        exact small1000 (by omega)
      · rw [ek, sumN_snoc]
        have : (((rs.length + sumN (zs.take i) : Nat) : Int) + z) = ((rs.length + (sumN (zs.take i) + z.toNat) : Nat) : Int) := by omega
        show [_, _, _, _, _, some (V.int (((rs.length + sumN (zs.take i) : Nat) : Int) + z)), _, _] = _
        rw [this]
      · rw [upd_same, List.map_append]
        rfl
      · rw [ek, segs_snoc]
        refine segV_imp (fun b xs hb => ?_) (segV_snoc k5 (segV_imp (fun b xs hb => m5 _ _ hb) sv))
        rw [upd_ne (fun e => by rw [e, kf5] at hb; cases hb)]
        exact hb
    subst es
    rw [List.length_map, List.take_length] at sv
    have S5 := S3.offs hf fh sm
    have kc5 := sm _ _ cf kc3
    have hp5 := sqT_dl kf3 sm hp9
    have hA5 := sqT_dl kf3 sm hA9
    -- the time
    refine ⟨.ref h, rfl, ?_⟩
    show qDrawn _ _ _ _ _
    refine go_drawn S5.law (by decide) (by decide) fun u1 H6 hu1 L6 x6 => ⟨u1, 100, rfl, rfl, .ref h, rfl, 10, 12, rfl, rfl, ⟨by decide, by decide, by decide⟩, ?_⟩
    have S6 := S5.next L6 x6
    show qDrawn K [.ref h, .int ((10 : Int) ^ (12 : Int).toNat)] _ _ _
    rw [e12]
    refine go_drawn S6.law (by decide) (by decide) fun u2 H7 hu2 L7 x7 => ⟨(by show 3 ≤ sizeLine; decide), fun D hD => ⟨.ref h, rfl, ?_⟩⟩
    have S7 := S6.next L7 x7
    have Dh := S7.law.nh hD
    have sD := same_upd (o := .lst [.int 0, .int ((u1 : Nat) - 100), .int (u2 : Nat)]) hD
    have S8 := S7.same sD
    have kD : (upd H7 D (.lst [.int 0, .int ((u1 : Nat) - 100), .int (u2 : Nat)])) D = some (.lst [.int 0, .int ((u1 : Nat) - 100), .int (u2 : Nat)]) := upd_same
    have x8 : SameD h H' (upd H7 D (.lst [.int 0, .int ((u1 : Nat) - 100), .int (u2 : Nat)])) := (x6.trans x7).trans (.of sD)
    generalize upd H7 D (.lst [.int 0, .int ((u1 : Nat) - 100), .int (u2 : Nat)]) = H8 at S8 kD x8 ⊢
    show qDrawn _ _ _ _ _
    refine go_drawn S8.law (by decide) (by decide) fun u3 H9 hu3 L9 x9 => ?_
    have S9 := S8.next L9 x9
    have xA := x8.trans x9
    obtain ⟨t, ht, hat⟩ : ∃ t : Int, (-100 ≤ t ∧ t ≤ 1000000000000) ∧ atI [V.int 0, V.int ((u1 : Nat) - 100), V.int (u2 : Nat)] (u3 : Nat) = some (.int t) := by
      have : u3 = 0 ∨ u3 = 1 ∨ u3 = 2 := by omega
      rcases this with rfl | rfl | rfl
      · exact ⟨0, ⟨by decide, by decide⟩, rfl⟩
      · exact ⟨(u1 : Nat) - 100, ⟨by omega, by omega⟩, rfl⟩
      · exact ⟨u2, ⟨by omega, by omega⟩, rfl⟩
    refine ⟨D, _, _, _, rfl, rfl, .inl (.inl (x9 _ _ Dh kD)), hat, ?_⟩
    -- the state
    have kc9 := xA _ _ ch kc5
    have kf9 := xA _ _ fh kf
    have hpA := sqT_d S5.law xA hp5
    have hAA := sqT_d S5.law xA hA5
    have hh9 : ∀ {b : Addr} {xs : List V}, H' b = some (.tup xs) → b ≠ h := fun hb e => by
      obtain ⟨_, _, _, _, e1, _⟩ := S5.law.ex
      rw [e, e1] at hb
      cases hb
    have sv9 := segV_imp (fun b xs hb => xA _ _ (hh9 hb) hb) sv
    refine ⟨.int t, rfl, .ref c, rfl, .ref p, rfl, p, _, 1, .ref b, rfl, rfl, hpA, rfl, b, _, rfl, .inr hAA, ?_⟩
    rw [show (qs.map V.ref).length = rs.length by rw [List.length_map, hql]]
    refine ⟨(rs.length : Nat), rfl, c, _, rfl, .inl (.inl kc9), fun p1 hp1' => ?_⟩
    rw [cut_to, ← List.map_take]
    have m1 : Same H9 (upd H9 p1 (.lst ((cs.take rs.length).map V.int))) := same_upd hp1'
    refine ⟨p1, _, rfl, .inl ⟨.inl (.inl upd_same), fun ca hca => ?_⟩⟩
    have m2 := m1.trans (same_upd (o := .tup ((cs.take rs.length).map V.int)) hca)
    have kca : (upd (upd H9 p1 (.lst ((cs.take rs.length).map V.int))) ca (.tup ((cs.take rs.length).map V.int))) ca = some (.tup ((cs.take rs.length).map V.int)) := upd_same
    generalize upd (upd H9 p1 (.lst ((cs.take rs.length).map V.int))) ca (.tup ((cs.take rs.length).map V.int)) = H10 at m2 kca ⊢
    refine ⟨.ref f, rfl, f, _, rfl, .inl ⟨.inl (.inl (m2 _ _ kf9)), fun sh hsh => ⟨(by show 3 ≤ sizeLine; decide), fun t2 ht2 => ?_⟩⟩⟩
    have ksh : (upd H10 sh (.tup (qs2.map V.ref))) sh = some (.tup (qs2.map V.ref)) := upd_same
    have m6 : Same H10 (upd (upd H10 sh (.tup (qs2.map V.ref))) t2 (.tup [.int t, .ref ca, .ref sh])) := (same_upd hsh).trans (same_upd ht2)
    have lay : LayAt (upd (upd H10 sh (.tup (qs2.map V.ref))) t2 (.tup [.int t, .ref ca, .ref sh])) ca sh (cs.take rs.length) (segs cs rs.length zs) :=
      ⟨m6 _ _ kca, qs2, by rw [upd_ne (ne_of_none ksh ht2)]; exact ksh, segV_imp (fun b xs hb => m6 _ _ (m2 _ _ hb)) sv9⟩
    exact q _ t2 t (spl rs.length zs cs) (S9.same (m2.trans m6)) ⟨ca, sh, .inl (.inl upd_same), lay.t⟩ ⟨⟨by omega, by omega⟩, spl_fits yl, by rw [join_spl yl]; exact po⟩ ht (by rw [join_spl yl]; exact yp)
end
end Sv
set_option maxHeartbeats 4000000
namespace Sv
open PySem PySem.Spec PyProof.Rows L2
def dig (c : Nat) : Bool := decide (48 ≤ c) && decide (c ≤ 57)
def isNum (a : List Nat) : Bool := a.all dig && (decide (a = [48]) || (decide (a ≠ []) && decide (a.head? ≠ some 48)))
theorem dig_in (c : Nat) : decide (c ∈ (("0123456789" : Str)).cps.toList) = dig c := by
  have e : (("0123456789" : Str)).cps.toList = [48, 49, 50, 51, 52, 53, 54, 55, 56, 57] := rfl
  rw [e]
  unfold dig
  rw [Bool.eq_iff_iff, Bool.and_eq_true, decide_eq_true_iff, decide_eq_true_iff, decide_eq_true_iff]
  simp only [List.mem_cons, List.not_mem_nil, or_false]
  omega
section
variable {P : Program} {w : World} {K : PySem.W.Frag} {mg : Str → Option Value} {base : Heap}
theorem scIn : FnScope ["text", "sign"] ["text"] (defScope sIsNumber) := ⟨rfl, rfl, rfl, by decide +kernel, rfl, by decide +kernel, by decide +kernel⟩
def spIn : Sp := fun vs H Q _ => ∃ a : List Nat, vs = [.str (SX.S a)] ∧ a.length ≤ 1000 ∧ Q (.bl (isNum a)) H
theorem ok_in (T : Bd P K mg) : FnOk P w K mg base CX0 1 T.aIsNumber T.dIsNumber ["text"] spIn := by
  obtain ⟨tD, hD⟩ := T.digs
  refine T.IsNumber.F.ok scIn (fun vs H Q E h => ?_) (fun cdv A outer s H vs Q E hr h => ?_)
  · obtain ⟨a, rfl, _⟩ := h
    rfl
  · obtain ⟨a, rfl, hl, q⟩ := h
    refine ⟨_, pss_cons (ps_for PassesOwn.never rfl (pi_str (pv 0)) (pg_name (i := 1) scIn.nd rfl (Or.inl rfl))
        (pss_one (ps_if (pt_cmpR op_notIn_sign (pv 1) (pe_glob (v := .str "0123456789") (by rfl) hD ⟨_, rfl⟩) (by rfl)) (pss_one (ps_ret (pe_bl))) pss_nil)))
      (pss_one (ps_ret (pe_or (pe_cmpR op_eq (pv 0) pe_str (nomark _)) (pe_one (pe_and (pe_cmpR op_ne (pv 0) pe_str (nomark _)) (pe_one (pe_cmpR op_ne (pe_ix ix_str (pv 0) pe_int (fun _ _ => rfl)) pe_str (nomark _)))))))), ?_⟩
    refine ⟨.str (SX.S a), rfl, SX.S a, rfl, for_it (walk_str (z := SX.S a)) (fun i σ H' => (∃ y1, σ = [some (.str (SX.S a)), y1]) ∧ H' = H ∧ (a.take i).all dig = true) ⟨⟨none, rfl⟩, rfl, rfl⟩ (fun _ _ _ _ _ => trivial) (fun i x σ H1 H2 hi ⟨⟨y1, es⟩, eH, ha⟩ hY => ?_) (fun σ H1 ⟨⟨y1, es⟩, eH, ha⟩ => ?_)⟩
    · subst es
      obtain ⟨rfl, c, hc, rfl⟩ := hY
      subst eH
      have hc2 : a[i]? = some c := by simpa using hc
      refine ⟨.str ⟨#[c]⟩, rfl, c, _, rfl, rfl, _, rfl, ?_⟩
      rw [dig_in]
      by_cases hd : dig c = true
      · refine ite2 (fun z => by rw [hd] at z; cases z) (fun _ => ⟨⟨_, rfl⟩, rfl, ?_⟩)
        rw [List.take_add_one, hc2, List.all_append, ha]
        simp [hd]
      · refine ite2 (fun _ => ?_) (fun z => absurd (by simpa using z) hd)
        have : isNum a = false := by
          unfold isNum
          rw [show a.all dig = false from ?_]
          · rfl
          · refine Bool.eq_false_iff.mpr fun z => hd (List.all_eq_true.mp z c (List.mem_of_getElem? hc2))
        rw [this] at q
        exact q
    · subst es
      subst eH
      have sz : (SX.S a).cps.size = a.length := by simp
      rw [sz, List.take_length] at ha
      have e48 : (V.str (SX.S a) = V.str "0") ↔ a = [48] := ⟨fun z => SX.S_inj (b := [48]) (V.str.inj z), fun z => by rw [z]; rfl⟩
      have e0 : (V.str (SX.S a) = V.str "") ↔ a = [] := ⟨fun z => SX.S_inj (b := []) (V.str.inj z), fun z => by rw [z]; rfl⟩
      refine ⟨.str (SX.S a), rfl, rfl, _, rfl, ?_⟩
      by_cases h48 : a = [48]
      · refine ite2 (fun _ => ?_) (fun z => absurd (decide_eq_true (e48.mpr h48)) z)
        rw [show isNum a = true by rw [h48]; rfl] at q
        exact q
      · refine ite2 (fun z => absurd (e48.mp (of_decide_eq_true z)) h48) (fun _ => ⟨.str (SX.S a), rfl, rfl, _, rfl, ?_⟩)
        cases a with
        | nil => exact ite2 (fun z => by rw [decide_eq_true (e0.mpr rfl)] at z; cases z) (fun _ => q)
        | cons c t =>
          refine ite2 (fun _ => ?_) (fun z => absurd (by rw [decide_eq_false (fun y => nomatch e0.mp y)]; rfl) z)
          refine ⟨.str (SX.S (c :: t)), rfl, SX.S (c :: t), 0, c, rfl, rfl, by rw [SX.S_len]; exact Nat.le_of_lt (small1000 hl), atI_nat (j := 0) (by simp), rfl, ?_⟩
          have ec : (V.str ⟨#[c]⟩ = V.str "0") ↔ c = 48 := ⟨fun z => by have := SX.S_inj (a := [c]) (b := [48]) (V.str.inj z); exact List.head_eq_of_cons_eq this, fun z => by rw [z]; rfl⟩
          have ei : isNum (c :: t) = !decide (V.str ⟨#[c]⟩ = V.str "0") := by
            unfold isNum
            rw [ha, decide_eq_false h48]
            by_cases h0 : c = 48
            · rw [decide_eq_true (ec.mpr h0), h0]
              rfl
            · rw [decide_eq_false (fun z => h0 (ec.mp z))]
              simp [h0]
          rw [ei] at q
          exact q
theorem scNt : FnScope ["text"] ["text"] (defScope sNumberOfText) := ⟨rfl, rfl, rfl, by decide +kernel, rfl, by decide +kernel, by decide +kernel⟩
def spNt : Sp := fun vs H Q _ => ∃ a : List Nat, vs = [.str (SX.S a)] ∧ a.length ≤ 1000 ∧ a.all dig = true ∧ a ≠ [] ∧ Q (.int ((NumText.digitsVal (a.take 40) : Nat) : Int)) H
theorem ok_nt (T : Bd P K mg) : FnOk P w K mg base CX0 1 T.aNumberOfText T.dNumberOfText ["text"] spNt := by
  obtain ⟨tN, hN⟩ := T.den
  refine T.NumberOfText.F.ok scNt (fun vs H Q E h => ?_) (fun cdv A outer s H vs Q E hr h => ?_)
  · obtain ⟨a, rfl, _⟩ := h
    rfl
  · obtain ⟨a, rfl, hl, hd, hne, q⟩ := h
    refine ⟨_, pss_one (ps_ret (pe_callTy call_int_str (by rfl) T.bt.int b_int (pa_cons (pe_slice C8.sl_txt (pv 0) po_none (po_some (pe_glob (v := .int 40) (by rfl) hN ⟨_, rfl⟩))) pa_nil))), ?_⟩
    refine ⟨.str (SX.S a), rfl, 40, rfl, SX.S a, rfl, by rw [SX.S_len]; exact Nat.le_of_lt (small1000 hl), _, ((NumText.digitsVal (a.take 40) : Nat) : Int), rfl, ?_, ?_, q⟩
    · rw [SX.slice_to (by decide)]
      refine SX.int_S (List.all_eq_true.mpr fun c hc => List.all_eq_true.mp hd c (List.mem_of_mem_take hc)) (fun z => ?_) (by rw [List.length_take]; show min 40 a.length ≤ 4300; omega)
      cases a with
      | nil => exact hne rfl
      | cons c t => cases z
    · rw [SX.slice_to (by decide), SX.S_len, List.length_take]
      show min 40 a.length ≤ 640
      omega
theorem scTe : FnScope ["entry"] ["entry"] (defScope sTextOfEntry) := ⟨rfl, rfl, rfl, by decide +kernel, rfl, by decide +kernel, by decide +kernel⟩
theorem neg_S (m : Nat) : Str.ofString (toString (Int.negSucc m)) = SX.S (45 :: TL.numL (m + 1)) := by
  have e : toString (Int.negSucc m) = "-" ++ Nat.repr (m + 1) := rfl
  have h := TL.tl_num (m + 1)
  have e2 : toString (((m + 1 : Nat) : Nat) : Int) = Nat.repr (m + 1) := rfl
  rw [e2, Str.ofString_eq_toList] at h
  rw [e, Str.ofString_eq_toList, ← h]
  simp
/-- the text of an entry -/
def entS : Option Int → List Nat
  | none => [114, 101, 115, 116]
  | some i => if i < 0 then 45 :: TL.numL (-i).toNat else TL.numL i.toNat
def spTe : Sp := fun vs H Q _ => ∃ e : Option Int, vs = [eV e] ∧ (∀ i, e = some i → i.natAbs < 2 ^ 200) ∧ Q (.str (SX.S (entS e))) H
theorem ok_te (T : Bd P K mg) : FnOk P w K mg base CX0 1 T.aTextOfEntry T.dTextOfEntry ["entry"] spTe := by
  refine T.TextOfEntry.F.ok scTe (fun vs H Q E h => ?_) (fun cdv A outer s H vs Q E hr h => ?_)
  · obtain ⟨e, rfl, _⟩ := h
    rfl
  · obtain ⟨e, rfl, he, q⟩ := h
    refine ⟨_, pss_one (ps_ret (pe_ifExp (pt_cmpR op_isN (pv 0) pe_non (nomark _)) pe_str (pe_callTy call_str_int (by rfl) T.bt.str b_str (pa_cons (pv 0) pa_nil)))), ?_⟩
    cases e with
    | none => exact ⟨.non, rfl, rfl, _, rfl, iteT q⟩
    | some i =>
      have h1 := he i rfl
      refine ⟨.int i, rfl, rfl, _, rfl, iteF ⟨.int i, rfl, i, rfl, ?_, ?_⟩⟩
      · by_cases hz : i.natAbs = 0
        · rw [hz]
          decide
        · exact Nat.lt_of_lt_of_le ((Nat.log2_lt (k := 200) hz).mpr h1) (by decide)
      · have e2 : Str.ofString (toString i) = SX.S (entS (some i)) := by
          show Str.ofString (toString i) = SX.S (if i < 0 then 45 :: TL.numL (-i).toNat else TL.numL i.toNat)
          cases i with
          | ofNat n =>
            rw [if_neg (by show ¬ ((n : Nat) : Int) < 0; omega)]
            exact SX.num_S n
          | negSucc m =>
            rw [if_pos (Int.negSucc_lt_zero m)]
            exact neg_S m
        show Q (.str (Str.ofString (toString i))) H
        rw [e2]
        exact q
end
end Sv
set_option maxHeartbeats 4000000
namespace Sv
open PySem PySem.Spec PyProof.Rows L2
/-- a line: a word and the entries behind it -/
def lineS (w : List Nat) (r : Ro) : List Nat := TL.joinL [32] (w :: r.map entS)
def SmallE (r : Ro) : Prop := ∀ i, some i ∈ r → i.natAbs < 10 ^ 40
theorem entS_len {r : Ro} (h : SmallE r) : ∀ e ∈ r, (entS e).length ≤ 41 := fun e he => by
  cases e with
  | none => show 4 ≤ 41; decide
  | some i =>
    have h1 := h i he
    show (if i < 0 then 45 :: TL.numL (-i).toNat else TL.numL i.toNat).length ≤ 41
    by_cases h0 : i < 0
    · rw [if_pos h0, List.length_cons]
      exact Nat.succ_le_succ (TL.numL_len (by decide) (by rw [show (-i).toNat = i.natAbs by omega]; exact h1))
    · rw [if_neg h0]
      exact Nat.le_succ_of_le (TL.numL_len (by decide) (by rw [show i.toNat = i.natAbs by omega]; exact h1))
theorem sum_len {k : Nat} : ∀ {l : List Str}, (∀ x ∈ l, x.length ≤ k) → (l.map (·.length)).sum ≤ l.length * k
  | [], _ => Nat.zero_le _
  | x :: l, h => by
    have ih := sum_len fun y hy => h y (List.mem_cons_of_mem _ hy)
    have h1 := h x (List.mem_cons_self ..)
    rw [List.map_cons, List.sum_cons, List.length_cons, Nat.succ_mul]
    omega
section
variable {P : Program} {w : World} {K : PySem.W.Frag} {mg : Str → Option Value} {base : Heap}
theorem scLo : FnScope ["word", "items", "item"] ["word", "items"] (defScope sLineOf) := ⟨rfl, rfl, rfl, by decide +kernel, rfl, by decide +kernel, by decide +kernel⟩
def spLo (K : PySem.W.Frag) : Sp := fun vs H Q _ => ∃ (w : List Nat) (q : Addr) (r : Ro), vs = [.str (SX.S w), .ref q] ∧ w.length ≤ 20 ∧ SqT K H q (rV r) ∧ r.length ≤ 200 ∧ SmallE r ∧ ∀ H', Same H H' → Q (.str (SX.S (lineS w r))) H'
theorem ok_lo (T : Bd P K mg) : FnOk P w K mg base CX0 2 T.aLineOf T.dLineOf ["word", "items"] (spLo K) := by
  have GT : FnOk P w K mg base CX0 1 T.aTextOfEntry T.dTextOfEntry ["entry"] spTe := ok_te T
  refine T.LineOf.F.ok scLo (fun vs H Q E h => ?_) (fun cdv A outer s H vs Q E hr h => ?_)
  · obtain ⟨w, q, r, rfl, _⟩ := h
    rfl
  · obtain ⟨w, qa, r, rfl, hw, hq, hl, hs, q⟩ := h
    refine ⟨_, pss_one (ps_ret (pe_join pe_str (pe_op op_cat (pe_lst (pa_cons (pv 0) pa_nil)) (pe_lc (own := [("item", 2)]) (g := gName 2) (tt := tYes) (te := tCall spTe [] E0 (tCons (tVar 2) tNil)) rfl scLo.nd (pi_tup (pv 1)) (blkOk_by (N := ["word", "items", "item"]) (sc := defScope sLineOf) (by decide +kernel)) (fun _ _ _ _ _ => pg_name (i := 2) scLo.nd rfl (Or.inl rfl)) (fun _ _ _ _ _ => pts_nil) (fun _ _ _ _ _ => pe_call (E := E0) GT (hr.mono (by decide)) (by rfl) T.TextOfEntry.g T.TextOfEntry.F.kp T.TextOfEntry.b .nil pass0 (pa_cons (pv 2) pa_nil)))))), ?_⟩
    refine ⟨⟨_, rfl⟩, .str (SX.S w), rfl, (by show 1 ≤ sizeLine; decide), fun z hz => ?_⟩
    have s1 := same_upd (o := .lst [.str (SX.S w)]) hz
    have k1 : (upd H z (.lst [.str (SX.S w)])) z = some (.lst [.str (SX.S w)]) := upd_same
    generalize upd H z (.lst [.str (SX.S w)]) = H1 at s1 k1 ⊢
    refine ⟨.ref qa, rfl, qa, rfl, ⟨_, sqT_same s1 hq⟩, fun D hD => lc_tup (xs := rV r) (fun i G => Same H1 G ∧ G D = some (.lst ((r.take i).map fun e => V.str (SX.S (entS e))))) ⟨same_upd hD, upd_same⟩ (fun i G _ g => sqT_same (s1.trans g.1) hq) (fun i v G hv ⟨sm, kD⟩ => ?_) (fun G ⟨sm, kD⟩ => ?_)⟩
    · obtain ⟨e, he, rfl⟩ : ∃ e, r[i]? = some e ∧ v = eV e := by
        unfold rV at hv
        rw [List.getElem?_map] at hv
        cases hr2 : r[i]? with
        | none => rw [hr2] at hv; cases hv
        | some e =>
          rw [hr2] at hv
          exact ⟨e, rfl, (Option.some.inj hv).symm⟩
      have hil := (List.getElem?_eq_some_iff.mp he).1
      refine ⟨rfl, yes_go ⟨eV e, rfl, e, rfl, fun j hj => ?_, _, kD, by rw [List.length_map, List.length_take]; exact small1000 (by omega), same_of sm hD, ?_⟩⟩
      · exact Nat.lt_trans (hs j (by rw [← hj]; exact List.mem_of_getElem? he)) (by decide)
      · rw [upd_same, List.take_add_one, he, List.map_append]
        rfl
    rw [rV_len, List.take_length] at kD
    refine ⟨z, D, _, _, rfl, rfl, sm _ _ k1, kD, ?_, fun u hu => ?_⟩
    · rw [List.length_map]
      show 1 + r.length ≤ sizeLine
      exact Nat.le_of_lt (small1000 (by omega))
    refine ⟨SX.S [32], u, (w :: r.map entS).map SX.S, rfl, rfl, .inl (.inl (.inl ?_)), ?_, ?_⟩
    · rw [upd_same, List.map_cons, List.map_cons, List.map_map, List.map_map]
      rfl
    · have h1 := sum_len (k := 41) (l := (w :: r.map entS).map SX.S) (fun x hx => by
        obtain ⟨a, ha, rfl⟩ := List.mem_map.mp hx
        rw [SX.S_len]
        rcases List.mem_cons.mp ha with rfl | ha
        · omega
        · obtain ⟨e, he, rfl⟩ := List.mem_map.mp ha
          exact entS_len hs e he)
      have h2 : ((w :: r.map entS).map SX.S).length = r.length + 1 := by simp
      have h3 : (SX.S [32]).length = 1 := rfl
      rw [h2] at h1 ⊢
      rw [h3]
      omega
    · rw [SX.join_S]
      exact q _ ((s1.trans sm).trans (same_upd hu))
end
end Sv
set_option maxHeartbeats 4000000
namespace Sv
open PySem PySem.Spec PyProof.Rows L2
theorem seq_two {a b : TS} {D : Ends} {σ : L2.St} {H : Hp} (tail : b D σ H) (main : b D σ H → tSeq a b D σ H) : tSeq a b D σ H := main tail
def restS : List Nat := [114, 101, 115, 116]
/-- what a word of a line says -/
def itemO (m : Bool) (a : List Nat) : Option (Option Int) := if m = true ∧ a = restS then some none else if isNum a = true then some (some ((NumText.digitsVal (a.take 40) : Nat) : Int)) else none
theorem isNum_dig {a : List Nat} (h : isNum a = true) : a.all dig = true ∧ a ≠ [] := by
  unfold isNum at h
  rw [Bool.and_eq_true] at h
  refine ⟨h.1, fun z => ?_⟩
  rw [z] at h
  cases h.2
section
variable {P : Program} {w : World} {K : PySem.W.Frag} {mg : Str → Option Value} {base : Heap}
theorem scIt : FnScope ["row", "text", "may_rest"] ["row", "text", "may_rest"] (defScope sItemOfText) := ⟨rfl, rfl, rfl, by decide +kernel, rfl, by decide +kernel, by decide +kernel⟩
def spIt (C : Addr) : Sp := fun vs H Q E => ∃ (row : Int) (a : List Nat) (m : Bool), vs = [.int row, .str (SX.S a), .bl m] ∧ row.natAbs < 2 ^ 100 ∧ a.length ≤ 1000 ∧ (∀ e, itemO m a = some e → Q (eV e) H) ∧ (itemO m a = none → TextE C H row E)
theorem ok_it (T : Bd P K mg) : FnOk P w K mg base (L2.CX P w) 3 T.aItemOfText T.dItemOfText ["row", "text", "may_rest"] (spIt T.CTx) := by
  have GI : FnOk P w K mg base CX0 1 T.aIsNumber T.dIsNumber ["text"] spIn := ok_in T
  have GN : FnOk P w K mg base CX0 1 T.aNumberOfText T.dNumberOfText ["text"] spNt := ok_nt T
  refine T.ItemOfText.F.okX scIt (fun vs H Q E h => ?_) (fun cdv A outer s H vs Q E hr h => ?_)
  · obtain ⟨row, a, m, rfl, _⟩ := h
    rfl
  · obtain ⟨row, a, m, rfl, hrow, hl, q1, q2⟩ := h
    refine ⟨_, pss_cons (ps_if ((pw_and (pt_val (pv 2)) (pw_and1 (pt_cmpR op_eq (pv 1) pe_str (nomark _)))).pt) (pss_one (ps_ret (pe_non))) pss_nil)
      (pss_cons (ps_if (pt_not (pt_val (pe_call (E := E0) GI (hr.mono (by decide)) (by rfl) T.IsNumber.g T.IsNumber.F.kp T.IsNumber.b .nil pass0 (pa_cons (pv 1) pa_nil)))) (pss_one (ps_raise rfl (takes_of rfl rfl rfl rfl) (pmk_text T.tx hr (by rfl) (pv 0)))) pss_nil)
      (pss_one (ps_ret (pe_call (E := E0) GN (hr.mono (by decide)) (by rfl) T.NumberOfText.g T.NumberOfText.F.kp T.NumberOfText.b .nil pass0 (pa_cons (pv 1) pa_nil))))), ?_⟩
    have er : (V.str (SX.S a) = V.str "rest") ↔ a = restS := ⟨fun z => SX.S_inj (b := restS) (V.str.inj z), fun z => by rw [z]; rfl⟩
    by_cases hy : m = true ∧ a = restS
    · obtain ⟨rfl, h2⟩ := hy
      exact ⟨.bl true, rfl, true, rfl, iteT ⟨.str (SX.S a), rfl, rfl, _, rfl, ite2 (fun _ => q1 none (by unfold itemO; rw [if_pos ⟨rfl, h2⟩])) (fun z => absurd (decide_eq_true (er.mpr h2)) z)⟩⟩
    · refine seq_two ?_ (fun tail => ?_)
      · refine ⟨.str (SX.S a), rfl, a, rfl, hl, _, rfl, ?_⟩
        by_cases hn : isNum a = true
        · obtain ⟨hd, hne⟩ := isNum_dig hn
          rw [hn]
          exact iteF ⟨.str (SX.S a), rfl, a, rfl, hl, hd, hne, q1 (some ((NumText.digitsVal (a.take 40) : Nat) : Int)) (by unfold itemO; rw [if_neg hy, if_pos hn])⟩
        · rw [Bool.eq_false_iff.mpr hn]
          exact iteT ⟨.int row, rfl, mkT_go hrow (q2 (by unfold itemO; rw [if_neg hy, if_neg hn]))⟩
      · refine ⟨.bl m, rfl, m, rfl, ?_⟩
        cases m with
        | false => exact iteF tail
        | true => exact iteT ⟨.str (SX.S a), rfl, rfl, _, rfl, ite2 (fun z => absurd ⟨rfl, er.mp (of_decide_eq_true z)⟩ hy) (fun _ => tail)⟩
end
end Sv
set_option maxHeartbeats 4000000
namespace Sv
open PySem PySem.Spec PyProof.Rows L2
def szW : List Nat := [115, 105, 122, 101, 115]
def rtW : List Nat := [114, 111, 117, 116, 101]
/-- a plan as a text -/
def planS (zs : List Int) (rs : List Ro) : List Nat := TL.joinL [10] (lineS szW (zs.map some) :: rs.map (lineS rtW))
theorem rV_some (zs : List Int) : rV (zs.map some) = zs.map V.int := by
  unfold rV
  rw [List.map_map]
  rfl
theorem joinL_len (sep : List Nat) : ∀ ys : List (List Nat), (TL.joinL sep ys).length ≤ (ys.map List.length).sum + ys.length * sep.length
  | [] => by show 0 ≤ _; exact Nat.zero_le _
  | [x] => by
    show x.length ≤ x.length + 0 + 1 * sep.length
    omega
  | x :: y :: r => by
    have ih := joinL_len sep (y :: r)
    show (x ++ (sep ++ TL.joinL sep (y :: r))).length ≤ _
    rw [List.length_append, List.length_append, List.map_cons, List.sum_cons, List.length_cons, Nat.succ_mul]
    omega
theorem lineS_len {w : List Nat} {r : Ro} (hw : w.length ≤ 20) (hr : r.length ≤ 200) (h : SmallE r) : (lineS w r).length ≤ 9000 := by
  have h1 := joinL_len [32] (w :: r.map entS)
  have h2 : ∀ l : List (List Nat), (∀ x ∈ l, x.length ≤ 41) → (l.map List.length).sum ≤ l.length * 41 := by
    intro l
    induction l with
    | nil => intro _; exact Nat.zero_le _
    | cons x l ih =>
      intro hx
      have a := ih fun y hy => hx y (List.mem_cons_of_mem _ hy)
      have b := hx x (List.mem_cons_self ..)
      rw [List.map_cons, List.sum_cons, List.length_cons, Nat.succ_mul]
      omega
  have h3 := h2 (w :: r.map entS) (fun x hx => by
    rcases List.mem_cons.mp hx with rfl | hx
    · omega
    · obtain ⟨e, he, rfl⟩ := List.mem_map.mp hx
      exact entS_len h e he)
  rw [List.length_cons, List.length_map] at h1 h3
  unfold lineS
  have : ([32] : List Nat).length = 1 := rfl
  rw [this] at h1
  omega
theorem smallE_z {zs : List Int} (h : ∀ z ∈ zs, 0 ≤ z ∧ z ≤ 9) : SmallE (zs.map some) := fun i hi => by
  obtain ⟨z, hz, e⟩ := List.mem_map.mp hi
  obtain rfl := Option.some.inj e
  obtain ⟨a, b⟩ := h z hz
  exact Nat.lt_of_le_of_lt (show z.natAbs ≤ 9 by omega) (by decide)
theorem smallE_r {n : Int} (hn : n ≤ 12) {r : Ro} (h : ∀ e ∈ r, okE n e = true) : SmallE r := fun i hi => by
  have := of_decide_eq_true (h _ hi)
  exact Nat.lt_of_le_of_lt (show i.natAbs ≤ 12 by omega) (by decide)
section
variable {P : Program} {w : World} {K : PySem.W.Frag} {mg : Str → Option Value} {base : Heap}
theorem scFp : FnScope ["plan", "sizes", "routes", "route"] ["plan"] (defScope sFormatPlan) := ⟨rfl, rfl, rfl, by decide +kernel, rfl, by decide +kernel, by decide +kernel⟩
def spFp (K : PySem.W.Frag) (C : Addr) : Sp := fun vs H Q E => ∃ (p : Addr) (zs : List Int) (rs : List Ro), vs = [.ref p] ∧ PlanAt K H p zs rs ∧ Small zs rs ∧ (bad zs rs = none → ∀ H', Same H H' → Q (.str (SX.S (planS zs rs))) H') ∧ (∀ part i, bad zs rs = some (part, i) → PlanE C H part i E)
theorem ok_fp (T : Bd P K mg) : FnOk P w K mg base (L2.CX P w) 5 T.aFormatPlan T.dFormatPlan ["plan"] (spFp K T.C) := by
  have GP : FnOk P w K mg base (L2.CX P w) 4 T.aCheckPlan T.dCheckPlan ["plan"] (spCheckPlan K T.C) := ok_checkPlan T
  have GL : FnOk P w K mg base CX0 2 T.aLineOf T.dLineOf ["word", "items"] (spLo K) := ok_lo T
  refine T.FormatPlan.F.okX scFp (fun vs H Q E h => ?_) (fun cdv A outer s H vs Q E hr h => ?_)
  · obtain ⟨p, zs, rs, rfl, _⟩ := h
    rfl
  · obtain ⟨p, zs, rs, rfl, hp, hs, q1, q2⟩ := h
    refine ⟨_, pss_cons (ps_expr (pe_call (E := E) GP (hr.mono (by decide)) (by rfl) T.CheckPlan.g T.CheckPlan.F.kp T.CheckPlan.b .nil (passes_call (takes_of rfl rfl rfl rfl) fun _ _ _ _ h => h) (pa_cons (pv 0) pa_nil)))
      (pss_cons (ps_asg (pv 0) (pg_tup rfl (pgs_cons (pg_name (i := 1) scFp.nd rfl (.inl rfl)) (pgs_cons (pg_name (i := 2) scFp.nd rfl (.inl rfl)) pgs_nil))))
      (pss_one (ps_ret (pe_join pe_str (pe_op op_cat (pe_lst (pa_cons (pe_call (E := E0) GL (hr.mono (by decide)) (by rfl) T.LineOf.g T.LineOf.F.kp T.LineOf.b .nil pass0 (pa_cons (pe_str) (pa_cons (pv 1) pa_nil))) pa_nil)) (pe_lc (own := [("route", 3)]) (g := gName 3) (tt := tYes) (te := tCall (spLo K) [] E0 (tCons (tC (.str "route")) (tCons (tVar 3) tNil))) rfl scFp.nd (pi_tup (pv 2)) (blkOk_by (N := ["plan", "sizes", "routes", "route"]) (sc := defScope sFormatPlan) (by decide +kernel)) (fun _ _ _ _ _ => pg_name (i := 3) scFp.nd rfl (Or.inl rfl)) (fun _ _ _ _ _ => pts_nil) (fun _ _ _ _ _ => pe_call (E := E0) GL (hr.mono (by decide)) (by rfl) T.LineOf.g T.LineOf.F.kp T.LineOf.b .nil pass0 (pa_cons (pe_str) (pa_cons (pv 3) pa_nil))))))))), ?_⟩
    refine ⟨.ref p, rfl, p, zs, rs, rfl, hp, hs, fun hb H1 sm1 => ?_, q2⟩
    have hv := val_of hb
    have z12 := hv.z1
    have r6 := hv.r1
    obtain ⟨a, b, hp1, ha, hB⟩ := (hp.same sm1).ex
    obtain ⟨qs, hB2, hP⟩ := hB.ex
    have hql := paired_len hP
    refine ⟨.ref p, rfl, p, _, rfl, hp1, rfl, _, _, rfl, _, _, rfl, rfl, ?_⟩
    have sz := smallE_z hv.z2
    refine ⟨⟨_, rfl⟩, .ref a, rfl, szW, a, zs.map some, rfl, by decide, by rw [rV_some]; exact ha, by rw [List.length_map]; omega, sz, fun H2 sm2 => ⟨(by show 1 ≤ sizeLine; decide), fun z hz => ?_⟩⟩
    have s3 := sm2.trans (same_upd (o := .lst [.str (SX.S (lineS szW (zs.map some)))]) hz)
    have kz : (upd H2 z (.lst [.str (SX.S (lineS szW (zs.map some)))])) z = some (.lst [.str (SX.S (lineS szW (zs.map some)))]) := upd_same
    generalize upd H2 z (.lst [.str (SX.S (lineS szW (zs.map some)))]) = H3 at s3 kz ⊢
    refine ⟨.ref b, rfl, b, rfl, ⟨_, sqT_same s3 hB2⟩, fun D hD => lc_tup (xs := qs.map V.ref) (fun i G => Same H3 G ∧ G D = some (.lst ((rs.take i).map fun r => V.str (SX.S (lineS rtW r))))) ⟨same_upd hD, upd_same⟩ (fun i G _ g => sqT_same (s3.trans g.1) hB2) (fun i v G hv9 ⟨sm, kD⟩ => ?_) (fun G ⟨sm, kD⟩ => ?_)⟩
    · obtain ⟨u, hu, rfl⟩ := refs_lt hv9
      have hil := (List.getElem?_eq_some_iff.mp hu).1
      obtain ⟨r, hr2, hur⟩ := paired_at hP hu
      have hm := List.mem_of_getElem? hr2
      refine ⟨rfl, yes_go ⟨.ref u, rfl, rtW, u, r, rfl, by decide, sqT_same (s3.trans sm) hur, by have := (hv.r2 r hm).2; omega, smallE_r (by omega) (hv.e r hm), fun G2 smg => ⟨_, smg _ _ kD, by rw [List.length_map, List.length_take]; exact small1000 (by omega), same_of (sm.trans smg) hD, ?_⟩⟩⟩
      rw [upd_same, List.take_add_one, hr2, List.map_append]
      rfl
    rw [List.length_map, hql, List.take_length] at kD
    refine ⟨z, D, _, _, rfl, rfl, sm _ _ kz, kD, ?_, fun u hu => ?_⟩
    · rw [List.length_map]
      show 1 + rs.length ≤ sizeLine
      exact Nat.le_of_lt (small1000 (by omega))
    refine ⟨SX.S [10], u, (lineS szW (zs.map some) :: rs.map (lineS rtW)).map SX.S, rfl, rfl, .inl (.inl (.inl ?_)), ?_, ?_⟩
    · rw [upd_same, List.map_cons, List.map_cons, List.map_map, List.map_map]
      rfl
    · have h1 := sum_len (k := 9000) (l := (lineS szW (zs.map some) :: rs.map (lineS rtW)).map SX.S) (fun x hx => by
        obtain ⟨y, hy, rfl⟩ := List.mem_map.mp hx
        rw [SX.S_len]
        rcases List.mem_cons.mp hy with rfl | hy
        · exact lineS_len (by decide) (by rw [List.length_map]; omega) sz
        · obtain ⟨r, hr9, rfl⟩ := List.mem_map.mp hy
          exact lineS_len (by decide) (by have := (hv.r2 r hr9).2; omega) (smallE_r (by omega) (hv.e r hr9)))
      have h2 : ((lineS szW (zs.map some) :: rs.map (lineS rtW)).map SX.S).length = rs.length + 1 := by simp
      have h3 : (SX.S [10]).length = 1 := rfl
      rw [h2] at h1 ⊢
      rw [h3]
      omega
    · rw [SX.join_S]
      exact q1 hb _ ((sm1.trans (s3.trans sm)).trans (same_upd hu))
end
end Sv
set_option maxHeartbeats 4000000
namespace Sv
open PySem PySem.Spec PyProof.Rows L2
def tmW : List Nat := [116, 105, 109, 101]
def caW : List Nat := [99, 97, 114, 114, 105, 101, 100]
def shW : List Nat := [115, 104, 101, 108, 102]
/-- a state as a text -/
def stateS (t : Int) (L : Lay Int) : List Nat := TL.joinL [10] (lineS tmW [some t] :: lineS caW (L.1.map some) :: L.2.map fun s => lineS shW (s.map some))
theorem smallE_p {xs : List Int} (h : ∀ x ∈ xs, 1 ≤ x ∧ x ≤ 999) : SmallE (xs.map some) := fun i hi => by
  obtain ⟨z, hz, e⟩ := List.mem_map.mp hi
  obtain rfl := Option.some.inj e
  obtain ⟨a, b⟩ := h z hz
  exact Nat.lt_of_le_of_lt (show z.natAbs ≤ 999 by omega) (by decide)
section
variable {P : Program} {w : World} {K : PySem.W.Frag} {mg : Str → Option Value} {base : Heap}
theorem scFs : FnScope ["plan", "state", "time", "carried", "shelves", "lines", "shelf"] ["plan", "state"] (defScope sFormatState) := ⟨rfl, rfl, rfl, by decide +kernel, rfl, by decide +kernel, by decide +kernel⟩
def spFs (K : PySem.W.Frag) (CS : Addr) : Sp := fun vs H Q E => ∃ (p s : Addr) (zs : List Int) (rs : List Ro) (t : Int) (L : Lay Int), vs = [.ref p, .ref s] ∧ PlanAt K H p zs rs ∧ Val zs rs ∧ StateAt K H s t L ∧
  (StOk zs rs t L → ∀ H', Same H H' → Q (.str (SX.S (stateS t L))) H') ∧ (¬ StOk zs rs t L → ∀ H', Same H H' → E (.ref CS) none H')
theorem ok_fs (T : Bd P K mg) : FnOk P w K mg base (L2.CX P w) 5 T.aFormatState T.dFormatState ["plan", "state"] (spFs K T.CS) := by
  have GP : FnOk P w K mg base (L2.CX P w) 4 T.aCheckPlan T.dCheckPlan ["plan"] (spCheckPlan K T.C) := ok_checkPlan T
  have GS : FnOk P w K mg base (L2.CX P w) 3 T.aCheckState T.dCheckState ["plan", "state"] (spCheckState K T.CS) := ok_checkState T
  have GL : FnOk P w K mg base CX0 2 T.aLineOf T.dLineOf ["word", "items"] (spLo K) := ok_lo T
  refine T.FormatState.F.okX scFs (fun vs H Q E h => ?_) (fun cdv A outer s H vs Q E hr h => ?_)
  · obtain ⟨p, s, zs, rs, t, L, rfl, _⟩ := h
    rfl
  · obtain ⟨p, st, zs, rs, t, L, rfl, hp, hv, hs, q1, q2⟩ := h
    refine ⟨_, pss_cons (ps_expr (pe_call (E := E) GP (hr.mono (by decide)) (by rfl) T.CheckPlan.g T.CheckPlan.F.kp T.CheckPlan.b .nil (passes_call (takes_of rfl rfl rfl rfl) fun _ _ _ _ h => h) (pa_cons (pv 0) pa_nil)))
      (pss_cons (ps_expr (pe_call (E := E) GS (hr.mono (by decide)) (by rfl) T.CheckState.g T.CheckState.F.kp T.CheckState.b .nil (passes_call (takes_of rfl rfl rfl rfl) fun _ _ _ _ h => h) (pa_cons (pv 0) (pa_cons (pv 1) pa_nil))))
      (pss_cons (ps_asg (pv 1) (pg_tup rfl (pgs_cons (pg_name (i := 2) scFs.nd rfl (.inl rfl)) (pgs_cons (pg_name (i := 3) scFs.nd rfl (.inl rfl)) (pgs_cons (pg_name (i := 4) scFs.nd rfl (.inl rfl)) pgs_nil)))))
      (pss_cons (ps_set (i := 5) scFs.nd rfl (Or.inl rfl) (pe_lst (pa_cons (pe_call (E := E0) GL (hr.mono (by decide)) (by rfl) T.LineOf.g T.LineOf.F.kp T.LineOf.b .nil pass0 (pa_cons (pe_str) (pa_cons (pe_tup (pa_cons (pv 2) pa_nil)) pa_nil))) (pa_cons (pe_call (E := E0) GL (hr.mono (by decide)) (by rfl) T.LineOf.g T.LineOf.F.kp T.LineOf.b .nil pass0 (pa_cons (pe_str) (pa_cons (pv 3) pa_nil))) pa_nil))))
      (pss_one (ps_ret (pe_join pe_str (pe_op op_cat (pv 5) (pe_lc (own := [("shelf", 6)]) (g := gName 6) (tt := tYes) (te := tCall (spLo K) [] E0 (tCons (tC (.str "shelf")) (tCons (tVar 6) tNil))) rfl scFs.nd (pi_tup (pv 4)) (blkOk_by (N := ["plan", "state", "time", "carried", "shelves", "lines", "shelf"]) (sc := defScope sFormatState) (by decide +kernel)) (fun _ _ _ _ _ => pg_name (i := 6) scFs.nd rfl (Or.inl rfl)) (fun _ _ _ _ _ => pts_nil) (fun _ _ _ _ _ => pe_call (E := E0) GL (hr.mono (by decide)) (by rfl) T.LineOf.g T.LineOf.F.kp T.LineOf.b .nil pass0 (pa_cons (pe_str) (pa_cons (pv 6) pa_nil))))))))))), ?_⟩
    have hb := hv.bad
    refine ⟨.ref p, rfl, p, zs, rs, rfl, hp, hv.small, fun _ H1 sm1 => ?_, (fun part i e => by rw [hb] at e; cases e)⟩
    refine ⟨.ref p, rfl, .ref st, rfl, p, st, zs, rs, t, L, rfl, hp.same sm1, hv, hs.imp (fun _ _ => sqT_same sm1), fun ok H2 sm2 => ?_, fun no H2 sm2 => q2 no H2 (sm1.trans sm2)⟩
    have s12 := sm1.trans sm2
    obtain ⟨ca, sh, hs1, hL⟩ := (hs.imp fun _ _ => sqT_same s12).ex
    obtain ⟨qs, hS1, hS2⟩ := hL.s
    have hql := segT_len hS2
    have z12 := hv.z1
    have r6 := hv.r1
    have f1 := ok.f.1
    have f2 := congrArg List.length ok.f.2
    rw [List.length_map, List.length_map] at f2
    have fs : ∀ x ∈ L.2, x.length ≤ 9 := fun x hx => by
      have h1 : x.length ∈ L.2.map List.length := List.mem_map.mpr ⟨x, hx, rfl⟩
      rw [ok.f.2] at h1
      obtain ⟨z, hz, e⟩ := List.mem_map.mp h1
      have := hv.z2 z hz
      omega
    have p1 : ∀ x ∈ L.1, 1 ≤ x ∧ x ≤ 999 := fun x hx => ok.p.1 x (List.mem_append_left _ hx)
    have p2 : ∀ r ∈ L.2, ∀ x ∈ r, 1 ≤ x ∧ x ≤ 999 := fun r hr x hx => ok.p.1 x (List.mem_append_right _ (List.mem_flatten.mpr ⟨r, hr, hx⟩))
    have st1 : SmallE [some t] := fun i hi => by
      have e := Option.some.inj (List.mem_singleton.mp hi)
      subst e
      have ht := ok.t
      exact Nat.lt_of_le_of_lt (show i.natAbs ≤ 1000000000000000000000000000000 by omega) (by decide)
    refine ⟨.ref st, rfl, st, _, rfl, hs1, rfl, _, _, rfl, _, _, rfl, _, _, rfl, rfl, ?_⟩
    refine ⟨.int t, rfl, (by show 1 ≤ sizeLine; decide), fun u hu => ?_⟩
    have s3 := same_upd (o := .tup [.int t]) hu
    have ku : (upd H2 u (.tup [.int t])) u = some (.tup [.int t]) := upd_same
    generalize upd H2 u (.tup [.int t]) = H3 at s3 ku ⊢
    refine ⟨tmW, u, [some t], rfl, by decide, .inl (.inl ku), (by show 1 ≤ 200; decide), st1, fun H4 sm4 => ?_⟩
    refine ⟨.ref ca, rfl, caW, ca, L.1.map some, rfl, by decide, by rw [rV_some]; exact sqT_same (s3.trans sm4) hL.c, by rw [List.length_map]; omega, smallE_p p1, fun H5 sm5 => ⟨(by show 2 ≤ sizeLine; decide), fun z hz => ?_⟩⟩
    have s35 := s3.trans (sm4.trans (sm5.trans (same_upd (o := .lst [.str (SX.S (lineS tmW [some t])), .str (SX.S (lineS caW (L.1.map some)))]) hz)))
    have kz : (upd H5 z (.lst [.str (SX.S (lineS tmW [some t])), .str (SX.S (lineS caW (L.1.map some)))])) z = some (.lst [.str (SX.S (lineS tmW [some t])), .str (SX.S (lineS caW (L.1.map some)))]) := upd_same
    generalize upd H5 z (.lst [.str (SX.S (lineS tmW [some t])), .str (SX.S (lineS caW (L.1.map some)))]) = H6 at s35 kz ⊢
    refine ⟨⟨_, rfl⟩, .ref z, rfl, .ref sh, rfl, sh, rfl, ⟨_, sqT_same s35 hS1⟩, fun D hD => lc_tup (xs := qs.map V.ref) (fun i G => Same H6 G ∧ G D = some (.lst ((L.2.take i).map fun r => V.str (SX.S (lineS shW (r.map some)))))) ⟨same_upd hD, upd_same⟩ (fun i G _ g => sqT_same (s35.trans g.1) hS1) (fun i v G hv9 ⟨sm, kD⟩ => ?_) (fun G ⟨sm, kD⟩ => ?_)⟩
    · obtain ⟨u2, hu2, rfl⟩ := refs_lt hv9
      have hil := (List.getElem?_eq_some_iff.mp hu2).1
      obtain ⟨r, hr2, hur⟩ := segT_at hS2 hu2
      have hm := List.mem_of_getElem? hr2
      refine ⟨rfl, yes_go ⟨.ref u2, rfl, shW, u2, r.map some, rfl, by decide, by rw [rV_some]; exact sqT_same (s35.trans sm) hur, by rw [List.length_map]; have := fs r hm; omega, smallE_p (p2 r hm), fun G2 smg => ⟨_, smg _ _ kD, by rw [List.length_map, List.length_take]; exact small1000 (by omega), same_of (sm.trans smg) hD, ?_⟩⟩⟩
      rw [upd_same, List.take_add_one, hr2, List.map_append]
      rfl
    rw [List.length_map, hql, List.take_length] at kD
    refine ⟨z, D, _, _, rfl, rfl, sm _ _ kz, kD, ?_, fun u3 hu3 => ?_⟩
    · rw [List.length_map]
      show 2 + L.2.length ≤ sizeLine
      exact Nat.le_of_lt (small1000 (by omega))
    refine ⟨SX.S [10], u3, (lineS tmW [some t] :: lineS caW (L.1.map some) :: L.2.map fun s => lineS shW (s.map some)).map SX.S, rfl, rfl, .inl (.inl (.inl ?_)), ?_, ?_⟩
    · rw [upd_same, List.map_cons, List.map_cons, List.map_cons, List.map_cons, List.map_map, List.map_map]
      rfl
    · have h1 := sum_len (k := 9000) (l := (lineS tmW [some t] :: lineS caW (L.1.map some) :: L.2.map fun s => lineS shW (s.map some)).map SX.S) (fun x hx => by
        obtain ⟨y, hy, rfl⟩ := List.mem_map.mp hx
        rw [SX.S_len]
        rcases List.mem_cons.mp hy with rfl | hy
        · exact lineS_len (by decide) (by show 1 ≤ 200; decide) st1
        · rcases List.mem_cons.mp hy with rfl | hy
          · exact lineS_len (by decide) (by rw [List.length_map]; omega) (smallE_p p1)
          · obtain ⟨r, hr9, rfl⟩ := List.mem_map.mp hy
            exact lineS_len (by decide) (by rw [List.length_map]; have := fs r hr9; omega) (smallE_p (p2 r hr9)))
      have h2 : ((lineS tmW [some t] :: lineS caW (L.1.map some) :: L.2.map fun s => lineS shW (s.map some)).map SX.S).length = L.2.length + 2 := by simp
      have h3 : (SX.S [10]).length = 1 := rfl
      rw [h2] at h1 ⊢
      rw [h3]
      omega
    · rw [SX.join_S]
      exact q1 ok _ ((s12.trans (s35.trans sm)).trans (same_upd hu3))
end
end Sv
set_option maxHeartbeats 4000000
set_option maxHeartbeats 4000000
set_option maxHeartbeats 4000000
set_option maxHeartbeats 4000000
set_option maxHeartbeats 4000000
namespace Sv
open PySem PySem.Spec PyProof.Rows L2
theorem unpack_star1 {prog : Program} {w : World} {A : Around} {E : Value → Shared → Prop} {s : Shared} {l : Addr} {items : Array Value} {Q : List Value → Shared → Prop} (hl : s.heap.IsList l items) (hh : A.handled = none) (hn : 1 ≤ items.size) (hz : items.size ≤ 16384)
    (h : ∀ (h' : Heap) (tk : Nat), (∀ b o, s.heap.get? b = some o → h'.get? b = some o) → Q (items.toList.take 1 ++ [.ref h'.objs.size]) { s with heap := h'.push { cls := .type "list", data := .seq (items.toList.drop 1).toArray }, toks := tk }) :
    wpAny (model prog w) A (unpackItems (.ref l) 2 (some 1)) Q E s := by
  have hlt : l ≠ s.heap.objs.size := by obtain ⟨o, ho, _⟩ := hl; exact Nat.ne_of_lt (Heap.lt_size ho)
  unfold unpackItems
  refine wpAny_bind ?_
  unfold notIterableAtAll
  refine wpAny_bind (wpAny_specialOf hl.typeIs slot_list_iter.lookup ?_)
  refine wpAny_pure ?_
  simp only [Bool.false_eq_true, if_false]
  refine wpAny_bind (wpAny_holding (wpAny_pyIter_list hl ?_))
  refine wpAny_bind (wpAny_holding (PySem.W.kun_draw hlt 1 0 _ _ ⟨_, Heap.get?_push_size _ rfl, rfl, rfl⟩ (hl.push _) (by omega) fun h₁ hit₁ hs₁ => ?_))
  have hl₁ : h₁.IsList l items := (hl.push _).extBut hs₁.extBut hlt
  rw [Nat.zero_add] at hit₁
  have hit₁' := hit₁
  obtain ⟨oi, hoi, _⟩ := hit₁'
  have hl₁' := hl₁
  obtain ⟨ol, hol, _⟩ := hl₁'
  rw [List.drop_zero]
  have hfl : (items.toList.take 1).length = 1 := by rw [List.length_take, Array.length_toList]; omega
  rw [if_neg (show ¬ ((items.toList.take 1).length < 1) by rw [hfl]; omega)]
  refine wpAny_bind (wpAny_holding (PySem.W.kun_collect (s := { s with heap := h₁ }) (T := "list_iterator") (.inr (.inr (.inl rfl))) (Walks.list (A := A.in1) hh s.heap.objs.size l hlt items) (fun j u st => st.1.typeIs) (k := 1) (by omega) ⟨hit₁, hl₁⟩ (Heap.lt_size hoi) (Heap.lt_size hol) (fun h₂ tk hk => ?_) (by rw [sizeLine_eq]; omega)))
  have hrl : (items.toList.drop 1).length = items.size - 1 := by rw [List.length_drop, Array.length_toList]
  show wpAny _ _ (if (items.toList.drop 1).length < 0 then _ else _) _ _ _
  rw [if_neg (by omega)]
  show wpAny _ _ (newList ((items.toList.drop 1).take ((items.toList.drop 1).length - 0)) >>= fun d => pure (items.toList.take 1 ++ [d] ++ (items.toList.drop 1).drop ((items.toList.drop 1).length - 0))) _ _ _
  rw [Nat.sub_zero, List.take_length, List.drop_length]
  have he : ∀ b o, s.heap.get? b = some o → h₂.get? b = some o := fun b o e => hk b o (Nat.ne_of_lt (Heap.lt_size e)) (hs₁.extBut b o (Nat.ne_of_lt (Heap.lt_size e)) (Heap.get?_push_of_some _ e))
  refine wpAny_bind ?_
  unfold newList
  refine wpAny_newObj_type (wpAny_pure ?_) ?_
  · rw [List.append_nil]
    exact h h₂ tk he
  · show (items.toList.drop 1).toArray.size ≤ sizeLine
    rw [List.size_toArray, hrl, sizeLine_eq]
    omega
def gStar (K : PySem.W.Frag) (g1 g2 : TG) : TG := fun v σ H Q => ∃ a x xs, v = .ref a ∧ SqL K H a (x :: xs) ∧ xs.length ≤ 16000 ∧ ∀ p, H p = none → g1 x σ (upd H p (.lst xs)) fun σ1 H1 => g2 (.ref p) σ1 H1 Q
theorem pg_star {X : Cx} {e1 e2 : Expr} {k : Nat} {sp pos : Pos} {g1 g2 : TG} (hc : X.calm = true) (h1 : PG X e1 g1) (h2 : PG X e2 g2) (he : assignEach [e1, .Starred e2 sp] X.env = [(false, assign e1 X.env), (true, assign e2 X.env)] := by rfl) : PG X (.Tuple [e1, .Starred e2 sp] k pos) (gStar X.K g1 g2) := by
  refine ⟨fun pins s σ H v u Q I r hw => ?_⟩
  obtain ⟨a, x, xs, e0, hq, hlen, hw⟩ := hw
  subst e0
  cases r
  obtain ⟨its, rv, hpl, hz⟩ := I.list hq
  cases rv with
  | @cons _ y _ ys r0 rr =>
  have hrl := rr.length
  rw [assign_Tuple]
  refine wpAny_bind (wpAny_standAt ?_)
  unfold unpack
  rw [he]
  refine wpAny_bind (wpAny_holding (unpack_star1 hpl.isList (I.ok.hd hc) (by simp) (by rw [List.size_toArray, List.length_cons]; omega) fun h' tk hk => ?_))
  have I1 : Inv X pins σ H { s with heap := h', toks := tk } := I.kept (t' := tk) hk
  have hn := I1.hok.fresh (Nat.le_refl h'.objs.size)
  have I2 := I1.laid (a := h'.objs.size) (o := .lst xs) (h' := h'.push { cls := .type "list", data := .seq ys.toArray }) (t' := tk) (fun _ _ q => Heap.get?_push_of_some _ q) (Nat.le_refl _) ⟨by rw [sizeLine_eq]; omega, ys, 0, rr, Heap.get?_push_size _ rfl⟩
  have q := hw _ hn
  show wpAny _ _ (assignInOrder [assign e1 X.env, assign e2 X.env] [y, .ref h'.objs.size]) _ _ _
  refine assignInOrder_cons (thn (h1.run pins _ σ _ x y _ I2 r0 q) fun _ s1 ⟨σ1, H1, I3, q1⟩ => ?_)
  refine assignInOrder_cons (thn (h2.run pins s1 σ1 H1 (.ref h'.objs.size) _ _ I3 rfl q1) fun _ s2 ⟨σ2, H2, I4, q2⟩ => ?_)
  exact assignInOrder_nil ⟨σ2, H2, I4, q2⟩
end Sv
set_option maxHeartbeats 4000000
namespace Sv
open PySem PySem.Spec PyProof.Rows L2
theorem spl_props (s : Nat) : ∀ (l acc : List Nat), TL.spl [s] 0 acc l ≠ [] ∧ (TL.spl [s] 0 acc l).length ≤ l.length + 1 ∧ ∀ p ∈ TL.spl [s] 0 acc l, p.length ≤ acc.length + l.length
  | [], acc => by
    rw [TL.spl_nil]
    exact ⟨(fun z => nomatch z), Nat.le_refl _, fun p hp => by rw [List.mem_singleton.mp hp]; exact Nat.le_refl _⟩
  | c :: r, acc => by
    cases h : TL.pre [s] (c :: r) with
    | true =>
      rw [TL.spl_hit h]
      obtain ⟨_, i2, i3⟩ := spl_props s r []
      refine ⟨(fun z => nomatch z), ?_, fun p hp => ?_⟩
      · rw [List.length_cons, List.length_cons]
        exact Nat.succ_le_succ i2
      · rcases List.mem_cons.mp hp with rfl | hp
        · omega
        · have := i3 p hp
          rw [List.length_nil] at this
          rw [List.length_cons]
          omega
    | false =>
      rw [TL.spl_miss h]
      obtain ⟨i1, i2, i3⟩ := spl_props s r (acc ++ [c])
      refine ⟨i1, ?_, fun p hp => ?_⟩
      · rw [List.length_cons]
        omega
      · have := i3 p hp
        rw [List.length_append, List.length_singleton] at this
        rw [List.length_cons]
        omega
theorem sw_minus : ∀ a : List Nat, Txt.startswith (SX.S a) (SX.S [45]) = match a with | 45 :: _ => true | _ => false
  | [] => rfl
  | c :: r => by
    have h0 : (SX.S (c :: r)).cps.extract 0 (0 + (SX.S [45]).length) = #[c] := by
      apply Array.ext'
      simp [Str.length]
    have h1 : decide (0 + (SX.S [45]).length ≤ (SX.S (c :: r)).length) = true := decide_eq_true (by rw [SX.S_len, SX.S_len, List.length_cons]; simp)
    unfold Txt.startswith
    rw [h1, Bool.true_and]
    show ((SX.S (c :: r)).cps.extract 0 (0 + (SX.S [45]).length) == (SX.S [45]).cps) = _
    rw [h0]
    by_cases hc : c = 45
    · subst hc
      rfl
    · have : ((#[c] : Array Nat) == (SX.S [45]).cps) = false := by
        rw [beq_eq_false_iff_ne]
        exact fun z => hc (by have := congrArg Array.toList z; simpa using this)
      rw [this]
      split
      · rename_i z
        exact absurd (List.cons.inj z).1 hc
      · rfl
/-- a negative number -/
def minusO : List Nat → Option Int
  | 45 :: y => if y ≠ [48] ∧ isNum y = true then some (-((NumText.digitsVal (y.take 40) : Nat) : Int)) else none
  | _ => none
/-- no minus: no such number -/
theorem minusO_no {x : List Nat} (h : ∀ y, x = 45 :: y → False) : minusO x = none ∧ Txt.startswith (SX.S x) (SX.S [45]) = false := by
  rw [sw_minus]
  unfold minusO
  constructor
  · split
    · exact absurd rfl (h _)
    · rfl
  · split
    · exact absurd rfl (h _)
    · rfl
/-- the time that a line tells -/
def timeO (a : List Nat) : Option Int := match TL.spl [32] 0 [] a with
  | [w, x] => if w = tmW then (if isNum x = true then some ((NumText.digitsVal (x.take 40) : Nat) : Int) else minusO x) else none
  | _ => none
section
variable {P : Program} {w : World} {K : PySem.W.Frag} {mg : Str → Option Value} {base : Heap}
theorem scTm : FnScope ["line", "first", "texts", "text"] ["line"] (defScope sTimeOfLine) := ⟨rfl, rfl, rfl, by decide +kernel, rfl, by decide +kernel, by decide +kernel⟩
def spTm (C : Addr) : Sp := fun vs H Q E => ∃ a : List Nat, vs = [.str (SX.S a)] ∧ a.length ≤ 900 ∧ (∀ t, timeO a = some t → ∀ H', Same H H' → Q (.int t) H') ∧ (timeO a = none → TextE C H 0 E)
theorem ok_tm (T : Bd P K mg) : FnOk P w K mg base (L2.CX P w) 3 T.aTimeOfLine T.dTimeOfLine ["line"] (spTm T.CTx) := by
  have GI : FnOk P w K mg base CX0 1 T.aIsNumber T.dIsNumber ["text"] spIn := ok_in T
  have GN : FnOk P w K mg base CX0 1 T.aNumberOfText T.dNumberOfText ["text"] spNt := ok_nt T
  refine T.TimeOfLine.F.okX scTm (fun vs H Q E h => ?_) (fun cdv A outer s H vs Q E hr h => ?_)
  · obtain ⟨a, rfl, _⟩ := h
    rfl
  · obtain ⟨a, rfl, hl, q1, q2⟩ := h
    refine ⟨_, pss_cons (ps_asg (pe_split (pv 0) pe_str) (pg_star rfl (pg_name (i := 1) scTm.nd rfl (.inl rfl)) (pg_name (i := 2) scTm.nd rfl (.inl rfl))))
      (pss_cons (ps_if ((pw_or (pt_cmpR op_ne (pv 1) pe_str (nomark _)) (pw_or1 (pt_cmpR op_ne (pe_callB call_len_seq (by rfl) T.bt.len b_len (pa_cons (pv 2) pa_nil)) pe_int (nomark _)))).pt) (pss_one (ps_raise rfl (takes_of rfl rfl rfl rfl) (pmk_text T.tx hr (by rfl) pe_int))) pss_nil)
      (pss_cons (ps_set (i := 3) scTm.nd rfl (Or.inl rfl) (pe_ix ix_list (pv 2) (pe_int) (fun _ _ => rfl)))
      (pss_cons (ps_if (pt_val (pe_call (E := E0) GI (hr.mono (by decide)) (by rfl) T.IsNumber.g T.IsNumber.F.kp T.IsNumber.b .nil pass0 (pa_cons (pv 3) pa_nil))) (pss_one (ps_ret (pe_call (E := E0) GN (hr.mono (by decide)) (by rfl) T.NumberOfText.g T.NumberOfText.F.kp T.NumberOfText.b .nil pass0 (pa_cons (pv 3) pa_nil)))) pss_nil)
      (pss_cons (ps_if ((pw_or (pt_not (pt_val (pe_m1 F.slot_str_startswith F.type_str_startswith mt_startswith (pv 3) pe_str))) (pw_or (pt_cmpR op_eq (pv 3) pe_str (nomark _)) (pw_or1 (pt_not (pt_val (pe_call (E := E0) GI (hr.mono (by decide)) (by rfl) T.IsNumber.g T.IsNumber.F.kp T.IsNumber.b .nil pass0 (pa_cons (pe_slice C8.sl_txt (pv 3) (po_some pe_int) po_none) pa_nil))))))).pt) (pss_one (ps_raise rfl (takes_of rfl rfl rfl rfl) (pmk_text T.tx hr (by rfl) pe_int))) pss_nil)
      (pss_one (ps_ret (pe_un un_neg (pe_call (E := E0) GN (hr.mono (by decide)) (by rfl) T.NumberOfText.g T.NumberOfText.F.kp T.NumberOfText.b .nil pass0 (pa_cons (pe_slice C8.sl_txt (pv 3) (po_some pe_int) po_none) pa_nil))))))))), ?_⟩
    obtain ⟨n1, n2, n3⟩ := spl_props 32 a []
    have es : Txt.split (SX.S a) (SX.S [32]) = (TL.spl [32] 0 [] a).map SX.S := SX.split_S (by decide) (by decide)
    have ht : timeO a = match TL.spl [32] 0 [] a with
      | [w, x] => if w = tmW then (if isNum x = true then some ((NumText.digitsVal (x.take 40) : Nat) : Int) else minusO x) else none
      | _ => none := rfl
    generalize TL.spl [32] 0 [] a = ps at n1 n2 n3 es ht
    cases ps with
    | nil => exact absurd rfl n1
    | cons w ws =>
    have k900 : 900 + 2 ≤ sizeLine := Nat.le_of_lt (small1000 (by decide))
    refine ⟨.str (SX.S a), rfl, ⟨_, rfl⟩, SX.S a, SX.S [32], rfl, rfl, rfl, by rw [SX.S_len]; omega, fun p0 hp0 => ?_⟩
    rw [es]
    have s1 := same_upd (o := .lst (((w :: ws).map SX.S).map V.str)) hp0
    have k1 : (upd H p0 (.lst (((w :: ws).map SX.S).map V.str))) p0 = some (.lst (.str (SX.S w) :: (ws.map SX.S).map V.str)) := upd_same
    generalize upd H p0 (.lst (((w :: ws).map SX.S).map V.str)) = H1 at s1 k1 ⊢
    have wl : ws.length ≤ 900 := by rw [List.length_cons] at n2; omega
    refine ⟨p0, .str (SX.S w), (ws.map SX.S).map V.str, rfl, .inl (.inl k1), by rw [List.length_map, List.length_map]; omega, fun p1 hp1 => ?_⟩
    have s2 := s1.trans (same_upd (o := .lst ((ws.map SX.S).map V.str)) hp1)
    have k2 : (upd H1 p1 (.lst ((ws.map SX.S).map V.str))) p1 = some (.lst ((ws.map SX.S).map V.str)) := upd_same
    generalize upd H1 p1 (.lst ((ws.map SX.S).map V.str)) = H2 at s2 k2 ⊢
    have ew : (V.str (SX.S w) = V.str "time") ↔ w = tmW := ⟨fun z => SX.S_inj (b := tmW) (V.str.inj z), fun z => by rw [z]; rfl⟩
    by_cases hw : w = tmW
    · by_cases hx : ws.length = 1
      · obtain ⟨x, rfl⟩ : ∃ x, ws = [x] := by
          cases ws with
          | nil => cases hx
          | cons x xs =>
            cases xs with
            | nil => exact ⟨x, rfl⟩
            | cons _ _ => cases hx
        have hxl : x.length ≤ 900 := by
          have := n3 x (List.mem_cons_of_mem _ (List.mem_singleton.mpr rfl))
          rw [List.length_nil] at this
          omega
        subst hw
        refine ⟨.str (SX.S tmW), rfl, rfl, _, rfl, ite2 (fun z => by rw [decide_eq_true (ew.mpr rfl)] at z; cases z) (fun _ => ⟨.ref p1, rfl, p1, _, rfl, .inl (.inl (.inl k2)), rfl, _, rfl, ite2 (fun z => by cases z) (fun _ => ?_)⟩)⟩
        have z900 : (SX.S x).length ≤ sizeLine := by rw [SX.S_len]; exact Nat.le_of_lt (small1000 (by omega))
        have ht2 : timeO a = (if isNum x = true then some ((NumText.digitsVal (x.take 40) : Nat) : Int) else minusO x) := ht.trans (if_pos rfl)
        refine ⟨.ref p1, rfl, p1, [.str (SX.S x)], 0, .str (SX.S x), rfl, rfl, .inl (.inl k2), rfl, ?_⟩
        refine ⟨.str (SX.S x), rfl, x, rfl, by omega, _, rfl, ?_⟩
        by_cases hn : isNum x = true
        · obtain ⟨hd, hne⟩ := isNum_dig hn
          rw [hn]
          exact iteT ⟨.str (SX.S x), rfl, x, rfl, by omega, hd, hne, q1 _ (ht2.trans (if_pos hn)) H2 s2⟩
        · rw [if_neg hn] at ht2
          rw [Bool.eq_false_iff.mpr hn]
          refine iteF ⟨.str (SX.S x), rfl, ⟨_, rfl⟩, SX.S x, SX.S [45], rfl, rfl, _, rfl, ?_⟩
          by_cases hno : ∃ y, x = 45 :: y
          · obtain ⟨y, rfl⟩ := hno
            rw [sw_minus]
            replace ht2 : timeO a = if y ≠ [48] ∧ isNum y = true then some (-((NumText.digitsVal (y.take 40) : Nat) : Int)) else none := ht2
            refine iteF ⟨.str (SX.S (45 :: y)), rfl, rfl, _, rfl, ?_⟩
            have em : (V.str (SX.S (45 :: y)) = V.str "-0") ↔ y = [48] := ⟨fun z => (List.cons.inj (SX.S_inj (b := [45, 48]) (V.str.inj z))).2, fun z => by rw [z]; rfl⟩
            have es1 : Txt.slice (SX.S (45 :: y)) (some 1) none = SX.S y := SX.slice_from (by decide)
            have hyl : y.length ≤ 900 := by rw [List.length_cons] at hxl; omega
            refine ite2 (fun z => iteT (mkT_go (by decide) ((q2 (ht2.trans (if_neg fun z2 => z2.1 (em.mp (of_decide_eq_true z))))).imp s2))) (fun z => ⟨.str (SX.S (45 :: y)), rfl, 1, rfl, SX.S (45 :: y), rfl, z900, y, by rw [es1]; rfl, by omega, _, rfl, ?_⟩)
            by_cases hm : isNum y = true
            · obtain ⟨hd, hne⟩ := isNum_dig hm
              rw [hm]
              exact iteF ⟨.str (SX.S (45 :: y)), rfl, 1, rfl, SX.S (45 :: y), rfl, z900, y, by rw [es1]; rfl, by omega, hd, hne, _, rfl, q1 _ (ht2.trans (if_pos ⟨fun e => z (decide_eq_true (em.mpr e)), hm⟩)) H2 s2⟩
            · rw [Bool.eq_false_iff.mpr hm]
              exact iteT (mkT_go (by decide) ((q2 (ht2.trans (if_neg fun z2 => hm z2.2))).imp s2))
          · obtain ⟨e1, e2⟩ := minusO_no (x := x) fun y e => hno ⟨y, e⟩
            rw [e1] at ht2
            rw [e2]
            exact iteT (iteT (mkT_go (by decide) ((q2 ht2).imp s2)))
      · have hn : timeO a = none := by
          rw [ht]
          cases ws with
          | nil => rfl
          | cons x xs =>
            cases xs with
            | nil => exact absurd rfl hx
            | cons _ _ => rfl
        exact ⟨.str (SX.S w), rfl, rfl, _, rfl, ite2 (fun z => by rw [decide_eq_true (ew.mpr hw)] at z; cases z) (fun _ => ⟨.ref p1, rfl, p1, _, rfl, .inl (.inl (.inl k2)), rfl, _, rfl, ite2 (fun _ => mkT_go (by decide) ((q2 hn).imp s2)) (fun z => absurd (by rw [decide_eq_false (fun y => hx (by have := V.int.inj y; rw [List.length_map, List.length_map] at this; omega))]; rfl) z)⟩)⟩
    · have hn : timeO a = none := by
        rw [ht]
        cases ws with
        | nil => rfl
        | cons x xs =>
          cases xs with
          | nil => exact if_neg hw
          | cons _ _ => rfl
      exact ⟨.str (SX.S w), rfl, rfl, _, rfl, ite2 (fun _ => iteT (mkT_go (by decide) ((q2 hn).imp s2))) (fun z => absurd (by rw [decide_eq_false (fun y => hw (ew.mp y))]; rfl) z)⟩
end
end Sv
set_option maxHeartbeats 2000000
namespace Sv
open PySem PySem.Spec PyProof.Rows L2
section
variable {M : Model} {A : Around} {E : Value → Shared → Prop} {s' : Shared} {base : Heap} {cenv : Env} {l : List Env} {e L : Addr} {Z : Obj → Prop} {m : Str → Option Value}
theorem tracedZ_sameBut {h h' : Heap} {C : Addr} {fl : Value} (hn : h.Ns C m) (hs : Heap.SameBut C h h') (t : HandSPX.TracedZ h base e Z fl) : HandSPX.TracedZ h' base e Z fl := by
  obtain ⟨oe, vs, T, oT, ts, he, hz, hd, h1, hnT, hTe, hT, hdT, h3⟩ := t
  obtain ⟨oL, es, ep, hoL, hdL, r⟩ := hn
  have ne : e ≠ C := fun q => by rw [q, hoL] at he; cases he; rw [hd] at hdL; cases hdL
  have nT : T ≠ C := fun q => by rw [q, hoL] at hT; cases hT; rw [hdT] at hdL; cases hdL
  exact ⟨oe, vs, T, oT, ts, (hs.2 e ne).trans he, hz, hd, h1, hnT, hTe, (hs.2 T nT).trans hT, hdT, h3⟩
/-- an exception that is held leaves a comprehension -/
theorem compFailsZ (hf : cenv.frame = some L) (hbC : base.get? cenv.locals = none) (hn : s'.heap.Ns cenv.locals m) (hh : HandSPX.HeldZ base l e Z L s'.heap)
    (hQ : ∀ h', HandSPX.HeldZ base l e Z L h' → (∀ b o, s'.heap.get? b = some o → b ≠ cenv.locals → (∀ vs, o.data ≠ .fields vs) → ∃ sl, h'.get? b = some { o with slots := sl }) → E (.ref e) { s' with heap := h' }) :
    CompFails M A E cenv (.ref e) s' := by
  refine ⟨m, hn, fun h₂ m₂ hn₂ hs₂ => ?_⟩
  obtain ⟨b1, b0, f1, t1⟩ := hh
  have b2 : base.StaysIn h₂ := fun b o hb => (hs₂.2 b fun q => by rw [q, hbC] at hb; cases hb).trans (b1 b o hb)
  have f2 : h₂.FunFrames base l := Heap.FunFrames.sameBut hs₂ hn₂ f1
  have t2 := tracedZ_sameBut hn hs₂ t1
  have t3 := t2
  obtain ⟨oe, vs, T, oT, ts, he, hz, hd, h1, r⟩ := t3
  unfold PySem.passOn
  refine wpAny_bind (wpAny_field he hd h1 ?_)
  rw [if_neg (show ¬ ((Value.ref T == Value.none) = true) from by simp)]
  rw [hf]
  refine wpAny_bind (HandSPX.setFlight_anyZ b2 f2 t2 fun h₃ b3 f3 t4 k3 => ?_)
  refine wpAny_throw ?_
  exact hQ h₃ ⟨b3, b0, f3, t4⟩ fun b o hb hbL hnf => k3 b o ((hs₂.2 b hbL).trans hb) hnf
end
/-- what a callee lets out within a block, as the comprehension is to have it -/
theorem passB {X : Cx} {pins pb : List (Addr × Obj)} {σ σB : L2.St} {H3 HB : Hp} {s3 s s' : Shared} {scope : Scope} {ce : Env} {fp : List Addr} {E : XK} {u : Value} {xe : Value → Shared → Prop}
    (hs : X.stack = X.env :: X.outer) (hf : X.env.frame = some X.env.locals) (tk : Takes X (fun cls d _ H => E cls d H)) (I3 : Inv X pins σ H3 s3) (f3 : ∀ b ∈ fp, FpOk X pins H3 b ∧ b < s3.heap.objs.size)
    (cL : ce.locals = s3.heap.objs.size) (cF : ce.frame = X.env.frame) (IB : Inv { X.blk s3 H3 scope ce fp with xe := xe } pb σB HB s) (c : L2.CX X.prog X.w X.stack HB s E u s') :
    notedBy (model X.prog X.w) X.A ce (CompFails (model X.prog X.w) X.A X.xe ce) u s' := by
  have x := XE.of_call (X := { X.blk s3 H3 scope ce fp with xe := xe }) (W := fun cls d _ H => E cls d H) IB (fun _ _ _ h => h) c
  obtain ⟨a, B0, _, _, _, rfl, fl0, _⟩ := c
  obtain ⟨a', B, sI, pI, σI, HI, cls, d, ea, I, nb, up, sky, na, os, ag, hE⟩ := x
  cases ea
  have hfr : X.A.frames = some (X.env :: X.outer) := by rw [I3.ok.frames, hs]
  have nC : HI ce.locals = none := I.free
  have sky : Sky B (X.env :: X.outer) a (Zc cls d) ce.locals s'.heap := by rw [← hs]; exact sky
  have nb : ∀ b o, sI.heap.get? b = some o → b ∉ frs X.stack → B.get? b = some o := nb
  obtain ⟨B', g1, g2⟩ := restrict B fun b => decide (b ≠ ce.locals)
  obtain ⟨G, k1, k2⟩ := restrict sI.heap fun b => decide (b ≠ ce.locals)
  have bB : ∀ b o, B'.get? b = some o → b ≠ ce.locals ∧ B.get? b = some o := fun b o e => by
    by_cases hb : b = ce.locals
    · rw [g2 b (by simp [hb])] at e; cases e
    · exact ⟨hb, by rw [← g1 b (by simp [hb])]; exact e⟩
  have bN : ∀ b, B.get? b = none → B'.get? b = none := fun b e => by
    cases q : B'.get? b with
    | none => rfl
    | some o => rw [(bB b o q).2] at e; cases e
  have bG : ∀ b o, G.get? b = some o → b ≠ ce.locals ∧ sI.heap.get? b = some o := fun b o e => by
    by_cases hb : b = ce.locals
    · rw [k2 b (by simp [hb])] at e; cases e
    · exact ⟨hb, by rw [← k1 b (by simp [hb])]; exact e⟩
  obtain ⟨m, hn, _⟩ := I.loc
  have hn : sI.heap.Ns ce.locals m := hn
  -- what the note leaves
  have fin : ∀ h1, HandSPX.HeldZ B (X.env :: X.outer) a (Zc cls d) X.env.locals h1 → s'.heap.UpToSlots h1 → CompFails (model X.prog X.w) X.A X.xe ce (.ref a) { s' with heap := h1 } := fun h1 hh up1 => by
    obtain ⟨z1, z2, z3, z4⟩ := hh
    have hh' : HandSPX.HeldZ B' (X.env :: X.outer) a (Zc cls d) X.env.locals h1 := by
      refine ⟨fun b o e => z1 b o (bB b o e).2, bN a z2, funFrames_none z3 fun b hb => bN b (z3.mem hb).1, ?_⟩
      obtain ⟨oe, vs, T, oT, ts, he, hz, hd, h1', hnT, r⟩ := z4
      exact ⟨oe, vs, T, oT, ts, he, hz, hd, h1', bN T hnT, r⟩
    refine compFailsZ (l := X.env :: X.outer) (L := X.env.locals) (cF.trans hf) (g2 _ (by simp)) ((hn.upToSlots up).upToSlots up1) hh' fun h2 hh2 k => ?_
    have I7 : Inv X pins σ HI sI := I3.call' (ch := fp) I.os I.base I.hok I.bare fun b hb => ⟨(f3 b hb).1.2.2.2.1, (f3 b hb).1.2.1, (f3 b hb).1.2.2.2.2.1, (f3 b hb).1.2.2.2.2.2⟩
    obtain ⟨f0, f1, f2, f3', f4, f5⟩ := I3.fpOk (Nat.le_refl _) (by rw [← cL]; exact nC)
    have I8 : Inv X pins σ HI { sI with heap := G } := I7.turned (t' := sI.toks) (fun b o hb e => by rw [k1 b (by simp [cL, hb])]; exact e) f0 f1 f3' f4 f5
    refine tk _ _ ⟨a, B', { sI with heap := G }, pins, σ, HI, cls, d, rfl, I8, fun b o e hb => ?_, fun b o e hnf => ?_, .inr (.inr (by rw [hs]; exact hh2)), na, os, ag, hE⟩
    · obtain ⟨e1, e2⟩ := bG b o e
      rw [g1 b (by simp [e1])]
      exact nb b o e2 hb
    · obtain ⟨e1, e2⟩ := bG b o e
      obtain ⟨sl, e3⟩ := up b o e2 hnf
      obtain ⟨sl2, e4⟩ := up1 b _ e3 hnf
      obtain ⟨sl3, e5⟩ := k b _ e4 e1 hnf
      exact ⟨sl3, e5⟩
  show wpAny _ _ (noteFrame (.ref a) ce) _ _ s'
  rw [noteFrame_env _ cF]
  rcases sky with ⟨hB, hn', hl, oe, vs, he, hz, hd, h1⟩ | fl | hh
  · exact HandSPX.look_newZ Zc.steady hfr hl hf he hB hn' hd h1 hz fin
  · exact HandSPX.looks_onZ Zc.steady hfr hf fl fin
  · exfalso
    obtain ⟨_, _, _, oe, vs, T, oT, ts, he, hz, hd, h1, hnT, hTe, hT, hdT, h3⟩ := hh
    obtain ⟨_, _, _, oe', vs', T', oT', ts', he', hz', hd', h1', hnT', hTe', hT', hdT', h3'⟩ := fl0
    rw [he] at he'; cases he'
    rw [hd] at hd'; cases hd'
    rw [h1] at h1'; cases h1'
    rw [hT] at hT'; cases hT'
    rw [hdT] at hdT'; cases hdT'
    rw [h3] at h3'
    exact absurd h3' (by simp [rawInt])
end Sv
set_option maxHeartbeats 2000000
namespace Sv
open PySem PySem.Spec PyProof.Rows L2
/-- the invariant does not read what an exception is wanted for -/
theorem inv_xe {X : Cx} {pn : List (Addr × Obj)} {σ : L2.St} {H : Hp} {s : Shared} (xe : Value → Shared → Prop) (I : Inv X pn σ H s) : Inv { X with xe := xe } pn σ H s := by
  obtain ⟨ok, a1, a2, a3, a4, a5, a6, a7, a8, a9, a10⟩ := I
  refine ⟨?_, a1, a2, a3, a4, a5, a6, a7, a8, a9, a10⟩
  obtain ⟨b1, b2, b3, b4, b5, b6, b7, b8, b9, b10, b11, b12, b13, b14, b15, b16, b17, b18⟩ := ok
  exact ⟨b1, b2, b3, b4, b5, b6, b7, b8, b9, b10, b11, b12, b13, b14, b15, b16, b17, b18⟩
section
variable {X : Cx} {elt tg iter : Expr} {sc : Scope} {own : List (Str × Nat)} {p p' : Pos} {wi : TI} {g : TG} {te : TE} {E : XK} {use : Option (Value → Sem Unit)} {Qf : Value → Shared → Prop}
/-- what a turn of the block leaves -/
def Rest (X : Cx) (s3 : Shared) (H3 : Hp) (sc : Scope) (ce : Env) (fp : List Addr) (τ : L2.St) (tn : Nat → Heap → Prop) (W : Nat → Nat → Hp → Prop) (n : Nat) (t : Shared) : Prop :=
  ∃ i K, Inv (X.blk s3 H3 sc ce fp) [] τ K t ∧ tn i t.heap ∧ (∀ b ∈ fp, K b = none) ∧ W i n K
theorem lcX_core {pn : List (Addr × Obj)} {s : Shared} {σ : L2.St} {H : Hp} {Q : VK} (hc : X.calm = true) (hst : X.stack = X.env :: X.outer) (hfr : X.env.frame = some X.env.locals) (tk : Takes X (fun cls d _ H => E cls d H))
    (hN : X.N.Nodup) (I : Inv X pn σ H s) (hi : PI X tg iter wi) (ok : BlkOk X.N X.env.scope sc own) (hs : ∀ x, foldedSetIterable iter X.env x = pure x)
    (hg : ∀ s H C cl fp, PG (X.blk s H sc (compEnvC sc cl C X.env) fp) tg g)
    (he : ∀ s H C cl fp xe, Passes (L2.CX X.prog X.w) { X.blk s H sc (compEnvC sc cl C X.env) fp with xe := xe } E → PE { X.blk s H sc (compEnvC sc cl C X.env) fp with xe := xe } elt te)
    (h : tLc wi g tYes te (own.map (·.2)) σ H Q)
    (fin : ∀ D C t m K, Inv X pn σ K t → Q (.ref D) K → t.heap.Ns C m → FpOk X pn K C → compPost (model X.prog X.w) X.A X.xe use Qf (.ref D) C (.ok .next) t) :
    wpAny (model X.prog X.w) X.A (comprehension (.ListComp elt [⟨tg, iter, [], 0⟩] sc p) sc X.env p' (newList []) false (eval iter X.env) use) Qf X.xe s := by
  have cap : ∀ y ∈ sc.names, y.2 = .free → ∃ c, X.env.cells.lookup y.1 = some c := fun y hy e => (ok.free y hy e).elim (fun k => I.ok.has _ (.inl k)) (fun k => I.ok.has _ (.inr k))
  refine comprehension_at (use := use) rfl hs (closure_ok cap) ok.kind (fun y hy e => (ok.uniq y hy).trans (congrArg some e)) ?_
  refine thn (hi.run pn s σ H _ I h) fun _ _ q1 => thn q1 fun _ u ⟨it, fp, tn, J, H2, e, I2, T, st, f2, q⟩ => ?_
  subst e
  refine wpAny_newObj_type (newEnv_comp ?_) (Nat.zero_le _)
  obtain ⟨W, ⟨m0, w0⟩, turn⟩ := q u.heap.objs.size (I2.hok.fresh (Nat.le_refl _))
  generalize hD : u.heap.objs.size = D at w0 turn ⊢
  -- the list stands
  have hv : u.heap.push { cls := .type "list", data := .seq ([] : List Value).toArray } = u.heap.push { cls := .type "list", data := .seq ([] : List Value).toArray } := rfl
  generalize eh : u.heap.push { cls := .type "list", data := .seq ([] : List Value).toArray } = hv1
  have kp : ∀ b o, u.heap.get? b = some o → hv1.get? b = some o := fun b o z => by rw [← eh]; exact Heap.get?_push_of_some _ z
  have sz1 : hv1.objs.size = D + 1 := by rw [← eh, Heap.size_push, hD]
  have I3 : Inv X pn σ (upd H2 D (.lst [])) { u with heap := hv1 } := I2.laid (t' := u.toks) kp (Nat.le_of_eq hD) ⟨Nat.zero_le _, [], 0, .nil, by
    show hv1.get? D = _
    rw [← eh, ← hD]; exact Heap.get?_push_size _ rfl⟩
  generalize e3 : ({ u with heap := hv1 } : Shared) = s3 at I3 ⊢
  have h3 : s3.heap = hv1 := by rw [← e3]
  have lo : ∀ b ∈ fp, b < D := fun b hb => by
    obtain ⟨o, z, _⟩ := T.obj _ _ st b hb
    rw [← hD]; exact Heap.lt_size z
  have f3 : ∀ b ∈ fp, FpOk X pn (upd H2 D (.lst [])) b ∧ b < s3.heap.objs.size := fun b hb => by
    refine ⟨⟨?_, (f2 b hb).2⟩, by rw [h3, sz1]; exact Nat.lt_succ_of_lt (lo b hb)⟩
    rw [upd_ne (Nat.ne_of_lt (lo b hb))]
    exact (f2 b hb).1
  have st3 : tn 0 s3.heap := T.keep _ _ _ st fun b _ o z => by rw [h3]; exact kp b o z
  generalize e4 : upd H2 D (.lst []) = H3 at I3 f3 w0
  have IB := block_start I3 ok hN f3
  have pg := hg s3 H3 s3.heap.objs.size (cellsFrom (s3.heap.objs.size + 1) sc.names (cloFrom X.env.cells sc.names [])) fp
  have pe := fun xe => he s3 H3 s3.heap.objs.size (cellsFrom (s3.heap.objs.size + 1) sc.names (cloFrom X.env.cells sc.names [])) fp xe
  show codeAny _ _ (.compStart (.ListComp elt [⟨tg, iter, [], 0⟩] sc p) 0 (.ref it) (.ref D) (compEnvC sc (cellsFrom (s3.heap.objs.size + 1) sc.names (cloFrom X.env.cells sc.names [])) s3.heap.objs.size X.env)) (compEnds (model X.prog X.w) X.A X.xe use Qf (.ref D) (compEnvC sc (cellsFrom (s3.heap.objs.size + 1) sc.names (cloFrom X.env.cells sc.names [])) s3.heap.objs.size X.env)) { s3 with heap := pushCells (s3.heap.push { cls := .type "dict", data := .dict #[] }) sc.names }
  generalize e5 : compEnvC sc (cellsFrom (s3.heap.objs.size + 1) sc.names (cloFrom X.env.cells sc.names [])) s3.heap.objs.size X.env = ce at IB pg pe ⊢
  have cL : ce.locals = s3.heap.objs.size := by rw [← e5]; rfl
  have cF : ce.frame = X.env.frame := by rw [← e5]; rfl
  have pe := pe (notedBy (model X.prog X.w) X.A ce (CompFails (model X.prog X.w) X.A X.xe ce)) fun pb σB HB t u' t' J2 c => passB hst hfr tk I3 f3 cL cF J2 c
  have eR : (fun x t => compEnds (model X.prog X.w) X.A X.xe use Qf (.ref D) ce (.error x) t) = CompFails (model X.prog X.w) X.A X.xe ce := by cases use <;> rfl
  generalize e6 : ({ s3 with heap := pushCells (s3.heap.push { cls := .type "dict", data := .dict #[] }) sc.names } : Shared) = s4 at IB ⊢
  have st4 : tn 0 s4.heap := T.keep _ _ _ st3 fun b _ o z => by rw [← e6]; exact pushCells_keeps _ _ _ _ (Heap.get?_push_of_some _ z)
  -- the iterator's objects are no others
  have apart : ∀ {τ : L2.St} {K : Hp} {t : Shared}, Inv (X.blk s3 H3 sc ce fp) [] τ K t → (∀ b ∈ fp, K b = none) → ∀ b ∈ fp, FpOk (X.blk s3 H3 sc ce fp) [] K b := fun J2 z b hb =>
    ⟨z b hb, (J2.ok.exf b hb).1, J2.ok.exfs b hb, .inl hb, (J2.ok.exf b hb).2, fun q hq => by cases hq⟩
  have again : codeAny (model X.prog X.w) X.A (.compLoop (.ListComp elt [⟨tg, iter, [], 0⟩] sc p) 0 (.ref it) (.ref D) ce) (compEnds (model X.prog X.w) X.A X.xe use Qf (.ref D) ce) s4 := by
    refine compLoop_any (Rest X s3 H3 sc ce fp (wipe σ (own.map (·.2))) tn W) ?_ m0 ⟨0, H3, IB, st4, fun b hb => (f3 b hb).1.1, w0⟩
    rw [eR]
    rintro n s5 ⟨i, H5, I5, st5, n5, w5⟩
    rcases turn i n H5 w5 with ⟨stop, qq⟩ | ⟨go, Nx, hNx, step⟩
    · refine thnF (T.done (X.blk s3 H3 sc ce fp) rfl rfl rfl hc i [] s5 _ H5 (fun _ _ => False) I5 (apart I5 n5) st5 stop) fun r s6 ⟨hr, I6⟩ => ?_
      subst hr
      have I7 : Inv X pn σ H5 s6 := I3.call' (ch := fp) I6.os I6.base I6.hok I6.bare fun b hb => ⟨(f3 b hb).1.2.2.2.1, (f3 b hb).1.2.1, (f3 b hb).1.2.2.2.2.1, (f3 b hb).1.2.2.2.2.2⟩
      have nC : H5 ce.locals = none := I6.free
      obtain ⟨m, hn, _⟩ := I6.loc
      have y := fin D ce.locals s6 m H5 I7 qq hn (by rw [cL] at nC ⊢; exact I3.fpOk (Nat.le_refl _) nC)
      cases use <;> exact y
    · refine thnF (T.item (X.blk s3 H3 sc ce fp) rfl rfl rfl hc i [] s5 _ H5 (fun _ _ => False) I5 (apart I5 n5) st5 go) fun r s6 ⟨x, hr, q6⟩ => ?_
      subst hr
      refine thnF q6 fun _ s7 ⟨y, H7, I7, r7, y7, st7, n7⟩ => ?_
      refine thnF (pg.run _ s7 _ H7 y x _ (I7.pinned (apart I7 n7) (T.obj _ _ st7)) r7 (step y H7 y7)) fun _ s8 ⟨σ8, H8, I8, hw8, q8⟩ => ?_
      have q8 : te σ8 H8 fun z K => ∃ acc, K D = some (.lst acc) ∧ acc.length < sizeLine ∧ Nx (upd K D (.lst (acc ++ [z]))) := q8
      refine wpAny_tests_nil ?_
      show wpAny (model X.prog X.w) X.A (eval elt ce) _ _ s8
      refine wpAny_mono (pe.run _ s8 σ8 H8 _ (inv_xe _ I8) q8) (fun z s9 q9 => ?_) fun _ _ a => a
      obtain ⟨v, H9, I9, r9, acc, hD9, hz9, nx⟩ := q9
      have I9 : Inv (X.blk s3 H3 sc ce fp) ([] ++ pinsAt fp s7.heap) σ8 H9 s9 := inv_xe (fun _ _ => False) I9
      refine app_ok (X := X.blk s3 H3 sc ce fp) I9 hD9 hz9 r9 fun s10 I10 => ?_
      obtain ⟨m', hm, w'⟩ := hNx _ nx
      have still : ∀ b ∈ fp, ∀ o, s7.heap.get? b = some o → s10.heap.get? b = some o ∧ (upd H9 D (.lst (acc ++ [v]))) b = none := fun b hb o z =>
        have k := I10.pin (b, o) (List.mem_append_right _ (List.mem_append_right _ (mem_pinsAt hb z)))
        ⟨k.1, k.2.1⟩
      refine ⟨m', hm, i + 1, _, (I10.unpinned (pins := [])).weak (by rw [← hw8, wipe_length]) (fun j w z => ?_), T.keep _ _ _ st7 fun b hb o z => (still b hb o z).1, fun b hb => ?_, w'⟩
      · rw [← hw8] at z
        exact (wipe_some z).1
      · obtain ⟨o, z, _⟩ := T.obj _ _ st7 b hb
        exact (still b hb o z).2
  exact codeAny_compStart_list again (T.self X.A 0 _ _ _ st4 again)
/-- as a value -/
theorem pe_lcX (hc : X.calm = true) (hst : X.stack = X.env :: X.outer) (hfr : X.env.frame = some X.env.locals) (tk : Takes X (fun cls d _ H => E cls d H)) (hN : X.N.Nodup) (hi : PI X tg iter wi) (ok : BlkOk X.N X.env.scope sc own)
    (hg : ∀ s H C cl fp, PG (X.blk s H sc (compEnvC sc cl C X.env) fp) tg g)
    (he : ∀ s H C cl fp xe, Passes (L2.CX X.prog X.w) { X.blk s H sc (compEnvC sc cl C X.env) fp with xe := xe } E → PE { X.blk s H sc (compEnvC sc cl C X.env) fp with xe := xe } elt te) (hs : ∀ x, foldedSetIterable iter X.env x = pure x := by intro _; rfl) :
    PE X (.ListComp elt [⟨tg, iter, [], 0⟩] sc p) (tLc wi g tYes te (own.map (·.2))) := by
  refine ⟨fun pn s σ H Q I h => ?_⟩
  rw [eval_ListComp]
  refine lcX_core hc hst hfr tk hN I hi ok hs hg he h fun D C t m K J q hn f => ⟨m, hn, fun h' sb => ?_⟩
  exact ⟨.ref D, K, J.turned (t' := t.toks) (fun b o hb z => (sb.2 b hb).trans z) f.1 f.2.1 f.2.2.2.1 f.2.2.2.2.1 f.2.2.2.2.2, rfl, q⟩
/-- name = [..], the name a local -/
theorem ps_setLcX {i : Nat} {y : Str} {py spos : Pos} (hc : X.calm = true) (hst : X.stack = X.env :: X.outer) (hfr : X.env.frame = some X.env.locals) (tk : Takes X (fun cls d _ H => E cls d H)) (hN : X.N.Nodup) (hy : X.N[i]? = some y)
    (hyl : X.env.scope.names.lookup y = some .local) (hsw : swapsWith (.ListComp elt [⟨tg, iter, [], 0⟩] sc p) (some (.Name y py)) spos.line X.env = pure true) (hi : PI X tg iter wi) (ok : BlkOk X.N X.env.scope sc own)
    (hg : ∀ s H C cl fp, PG (X.blk s H sc (compEnvC sc cl C X.env) fp) tg g)
    (he : ∀ s H C cl fp xe, Passes (L2.CX X.prog X.w) { X.blk s H sc (compEnvC sc cl C X.env) fp with xe := xe } E → PE { X.blk s H sc (compEnvC sc cl C X.env) fp with xe := xe } elt te) (hs : ∀ x, foldedSetIterable iter X.env x = pure x := by intro _; rfl) :
    PS X (.Assign [.Name y py] (.ListComp elt [⟨tg, iter, [], 0⟩] sc p) spos) (tAsg (tLc wi g tYes te (own.map (·.2))) (gName i)) := by
  refine ⟨fun pn s σ H D I h => ?_⟩
  rw [exec_Assign_Name_used _ _ _ _ hsw]
  have h : tLc wi g tYes te (own.map (·.2)) σ H (fun x H1 => gName i x σ H1 D.nx) := h
  refine wpAny_bind (wpAny_standAt (wpAny_bind ?_))
  refine wpAny_bind (thn (lcX_core (use := some (assign (.Name y py) X.env)) (Qf := fun _ t => SP X pn D .next t) hc hst hfr tk hN I hi ok hs hg he h fun L C t m K J q hn f => ?_) fun _ t hq => wpAny_pure (wpAny_pure hq))
  show wpAny _ _ (assign (.Name y py) X.env (.ref L)) _ _ _
  refine wpAny_assign_Name (store_ok2 (v := V.ref L) J hN hy (.inl hyl) rfl (fun t2 J2 ⟨a, sb, ha⟩ => ?_) (.inr hyl))
  have far : C ≠ a := ha.elim (fun z => by rw [z]; exact f.2.1) fun z e => f.2.2.2.2.1 y a z e.symm
  exact ⟨m, hn.sameBut sb far, fun h3 sb3 => ⟨_, K, J2.turned (t' := t2.toks) (fun b o hb z => (sb3.2 b hb).trans z) f.1 f.2.1 f.2.2.2.1 f.2.2.2.2.1 f.2.2.2.2.2, q⟩⟩
end
end Sv
set_option maxHeartbeats 4000000
namespace Sv
open PySem PySem.Spec PyProof.Rows L2
/-- the items of words -/
def itemsO (m : Bool) : List (List Nat) → Option Ro
  | [] => some []
  | a :: r => match itemO m a, itemsO m r with
    | some e, some es => some (e :: es)
    | _, _ => none
/-- the items of a line behind a word -/
def lineO (w a : List Nat) : Option Ro := match TL.spl [32] 0 [] a with
  | [] => none
  | x :: ps => if x = w then itemsO (decide (w = rtW)) ps else none
theorem itemsO_at {m : Bool} : ∀ {l : List (List Nat)} {i : Nat} {a : List Nat}, l[i]? = some a → itemO m a = none → itemsO m l = none
  | [], i, a, h, _ => by cases h
  | b :: r, 0, a, h, e => by
    obtain rfl : b = a := Option.some.inj h
    unfold itemsO
    rw [e]
  | b :: r, i + 1, a, h, e => by
    have ih := itemsO_at (l := r) (i := i) (a := a) h e
    unfold itemsO
    rw [ih]
    cases itemO m b <;> rfl
theorem itemsO_all {m : Bool} : ∀ {l : List (List Nat)} {es : Ro}, l.map (itemO m) = es.map some → itemsO m l = some es
  | [], [], _ => rfl
  | [], e :: es, h => by cases h
  | a :: l, [], h => by cases h
  | a :: l, e :: es, h => by
    rw [List.map_cons, List.map_cons] at h
    obtain ⟨h1, h2⟩ := List.cons.inj h
    unfold itemsO
    rw [h1, itemsO_all h2]
section
variable {P : Program} {w : World} {K : PySem.W.Frag} {mg : Str → Option Value} {base : Heap}
theorem scIl : FnScope ["lines", "row", "word", "first", "texts", "text"] ["lines", "row", "word"] (defScope sItemsOfLine) := ⟨rfl, rfl, rfl, by decide +kernel, rfl, by decide +kernel, by decide +kernel⟩
def spIl (K : PySem.W.Frag) (C : Addr) : Sp := fun vs H Q E => ∃ (ls : Addr) (i : Nat) (w : List Nat) (L : List (List Nat)), vs = [.ref ls, .int (i : Nat), .str (SX.S w)] ∧ SqL K H ls (L.map fun a => V.str (SX.S a)) ∧ i ≤ L.length ∧ L.length ≤ 1000 ∧ (∀ a ∈ L, a.length ≤ 900) ∧
  (∀ r, (L[i]?.bind (lineO w)) = some r → ∀ H' q, Same H H' → SqT K H' q (rV r) → r.length ≤ 901 → Q (.ref q) H') ∧ ((L[i]?.bind (lineO w)) = none → TextE C H (i : Nat) E)
theorem ok_il (T : Bd P K mg) : FnOk P w K mg base (L2.CX P w) 4 T.aItemsOfLine T.dItemsOfLine ["lines", "row", "word"] (spIl K T.CTx) := by
  have GIT : FnOk P w K mg base (L2.CX P w) 3 T.aItemOfText T.dItemOfText ["row", "text", "may_rest"] (spIt T.CTx) := ok_it T
  refine T.ItemsOfLine.F.okX scIl (fun vs H Q E h => ?_) (fun cdv A outer s H vs Q E hr h => ?_)
  · obtain ⟨ls, i, w, L, rfl, _⟩ := h
    rfl
  · obtain ⟨ls, i, w, L, rfl, hL, hi, hl, hal, q1, q2⟩ := h
    refine ⟨_, pss_cons (ps_if (pt_cmpR op_eq (pv 1) (pe_callB call_len_seq (by rfl) T.bt.len b_len (pa_cons (pv 0) pa_nil)) (nomark _)) (pss_one (ps_raise rfl (takes_of rfl rfl rfl rfl) (pmk_text T.tx (hr.mono (by decide)) (by rfl) (pv 1)))) pss_nil)
      (pss_cons (ps_asg (pe_split (pe_ix ix_list (pv 0) (pv 1) (fun _ _ => rfl)) pe_str) (pg_star rfl (pg_name (i := 3) scIl.nd rfl (.inl rfl)) (pg_name (i := 4) scIl.nd rfl (.inl rfl))))
      (pss_cons (ps_if (pt_cmpR op_ne (pv 3) (pv 2) (nomark _)) (pss_one (ps_raise rfl (takes_of rfl rfl rfl rfl) (pmk_text T.tx (hr.mono (by decide)) (by rfl) (pv 1)))) pss_nil)
      (pss_one (ps_ret (pe_callTy call_tuple_of (by rfl) T.bt.tuple b_tuple (pa_cons (pe_lcX (E := E) (own := [("text", 5)]) (g := gName 5) (te := tCall (spIt T.CTx) [] E (tCons (tVar 1) (tCons (tVar 5) (tCons (tOp rEq (tVar 2) (tC (.str "route"))) tNil)))) rfl rfl rfl (takes_of rfl rfl rfl rfl) scIl.nd (pi_list (pv 4)) (blkOk_by (N := ["lines", "row", "word", "first", "texts", "text"]) (sc := defScope sItemsOfLine) (by decide +kernel)) (fun _ _ _ _ _ => pg_name (i := 5) scIl.nd rfl (Or.inl rfl)) (fun _ _ _ _ _ xe px => pe_call (E := E) GIT (hr.mono (by decide)) (by rfl) T.ItemOfText.g T.ItemOfText.F.kp T.ItemOfText.b .nil px (pa_cons (pv 1) (pa_cons (pv 5) (pa_cons (pe_cmpR op_eq (pv 2) pe_str (nomark _)) pa_nil))))) pa_nil)))))), ?_⟩
    have i100 : ((i : Nat) : Int).natAbs < 2 ^ 100 := Nat.lt_of_le_of_lt (show i ≤ 1000 by omega) (by decide)
    refine ⟨.int (i : Nat), rfl, .ref ls, rfl, ls, _, rfl, .inl hL, rfl, _, rfl, ?_⟩
    by_cases hil : i = L.length
    · refine ite2 (fun _ => ⟨.int (i : Nat), rfl, mkT_go i100 (q2 ?_)⟩) (fun z => absurd (decide_eq_true (by rw [List.length_map, hil])) z)
      rw [hil, List.getElem?_eq_none (Nat.le_refl _)]
      rfl
    · have hlt : i < L.length := by omega
      refine ite2 (fun z => absurd (by have := V.int.inj (of_decide_eq_true z); rw [List.length_map] at this; omega) hil) (fun _ => ?_)
      obtain ⟨a, ha⟩ : ∃ a, L[i]? = some a := ⟨_, List.getElem?_eq_getElem hlt⟩
      have ham : a ∈ L := List.mem_of_getElem? ha
      have hla := hal a ham
      rw [ha] at q1 q2
      replace q1 : ∀ r, lineO w a = some r → ∀ H' q, Same H H' → SqT K H' q (rV r) → r.length ≤ 901 → Q (.ref q) H' := q1
      replace q2 : lineO w a = none → TextE T.CTx H (i : Nat) E := q2
      obtain ⟨n1, n2, n3⟩ := spl_props 32 a []
      have es : Txt.split (SX.S a) (SX.S [32]) = (TL.spl [32] 0 [] a).map SX.S := SX.split_S (by decide) (by decide)
      have ht : lineO w a = match TL.spl [32] 0 [] a with
        | [] => none
        | x :: ps => if x = w then itemsO (decide (w = rtW)) ps else none := rfl
      generalize TL.spl [32] 0 [] a = ps at n1 n2 n3 es ht
      cases ps with
      | nil => exact absurd rfl n1
      | cons x ws =>
      have k900 : 900 + 2 ≤ sizeLine := Nat.le_of_lt (small1000 (by decide))
      refine ⟨.ref ls, rfl, .int (i : Nat), rfl, ls, _, _, .str (SX.S a), rfl, rfl, hL, atI_nat (by rw [List.getElem?_map, ha]; rfl), ⟨_, rfl⟩, SX.S a, SX.S [32], rfl, rfl, rfl, by rw [SX.S_len]; omega, fun p0 hp0 => ?_⟩
      rw [es]
      have s1 := same_upd (o := .lst (((x :: ws).map SX.S).map V.str)) hp0
      have k1 : (upd H p0 (.lst (((x :: ws).map SX.S).map V.str))) p0 = some (.lst (.str (SX.S x) :: (ws.map SX.S).map V.str)) := upd_same
      generalize upd H p0 (.lst (((x :: ws).map SX.S).map V.str)) = H1 at s1 k1 ⊢
      have wl : ws.length ≤ 900 := by rw [List.length_cons] at n2; omega
      refine ⟨p0, .str (SX.S x), (ws.map SX.S).map V.str, rfl, .inl (.inl k1), by rw [List.length_map, List.length_map]; omega, fun p1 hp1 => ?_⟩
      have s2 := s1.trans (same_upd (o := .lst ((ws.map SX.S).map V.str)) hp1)
      have k2 : (upd H1 p1 (.lst ((ws.map SX.S).map V.str))) p1 = some (.lst ((ws.map SX.S).map V.str)) := upd_same
      generalize upd H1 p1 (.lst ((ws.map SX.S).map V.str)) = H2 at s2 k2 ⊢
      have ew : (V.str (SX.S x) = V.str (SX.S w)) ↔ x = w := ⟨fun z => SX.S_inj (V.str.inj z), fun z => by rw [z]⟩
      refine ⟨.str (SX.S x), rfl, .str (SX.S w), rfl, rfl, _, rfl, ?_⟩
      by_cases hx : x = w
      · replace ht := ht.trans (if_pos hx)
        refine ite2 (fun z => by rw [decide_eq_true (ew.mpr hx)] at z; cases z) (fun _ => ?_)
        have er : decide (V.str (SX.S w) = V.str "route") = decide (w = rtW) := by
          have : (V.str (SX.S w) = V.str "route") ↔ w = rtW := ⟨fun z => SX.S_inj (b := rtW) (V.str.inj z), fun z => by rw [z]; rfl⟩
          exact decide_eq_decide.mpr this
        generalize hm : decide (w = rtW) = m at ht er
        refine ⟨.ref p1, rfl, p1, rfl, ⟨_, .inl (.inl k2)⟩, fun D hD => lc_list (xs := (ws.map SX.S).map V.str) (fun i' G => Same H2 G ∧ ∃ es : Ro, (ws.take i').map (itemO m) = es.map some ∧ G D = some (.lst (rV es))) ⟨same_upd hD, [], rfl, upd_same⟩ (fun _ G _ g => .inl (.inl (g.1 _ _ k2))) (fun j v G hv ⟨sm, es, e1, kD⟩ => ?_) (fun G ⟨sm, es, e1, kD⟩ => ?_)⟩
        · rw [List.getElem?_map, List.getElem?_map] at hv
          cases hj : ws[j]? with
          | none => rw [hj] at hv; cases hv
          | some b =>
          rw [hj] at hv
          obtain rfl : V.str (SX.S b) = v := Option.some.inj hv
          have jlt := (List.getElem?_eq_some_iff.mp hj).1
          have esl : es.length ≤ 1000 := by
            have := congrArg List.length e1
            rw [List.length_map, List.length_map, List.length_take] at this
            omega
          refine ⟨rfl, yes_go ⟨.int (i : Nat), rfl, .str (SX.S b), rfl, .str (SX.S w), rfl, rfl, ?_⟩⟩
          refine ⟨(i : Nat), b, m, ?_, i100, ?_, fun e he => ?_, fun he => ?_⟩
          · rw [er]
            rfl
          · have := n3 b (List.mem_cons_of_mem _ (List.mem_of_getElem? hj))
            rw [List.length_nil] at this
            omega
          · refine ⟨_, kD, by rw [rV_len]; exact small1000 esl, same_of sm hD, es ++ [e], ?_, ?_⟩
            · rw [List.take_add_one, hj, List.map_append, e1, List.map_append]
              show _ ++ [itemO m b] = _
              rw [he]
              rfl
            · rw [upd_same]
              unfold rV
              rw [List.map_append]
              rfl
          · exact (q2 (ht.trans (itemsO_at hj he))).imp (s2.trans sm)
        · rw [List.length_map, List.length_map, List.take_length] at e1
          have esl : es.length = ws.length := by
            have := congrArg List.length e1
            rw [List.length_map, List.length_map] at this
            exact this.symm
          refine ⟨D, _, rfl, .inl ⟨.inl (.inl kD), fun u hu => q1 es (ht.trans (itemsO_all e1)) _ u ((s2.trans sm).trans (same_upd hu)) (.inl (.inl upd_same)) (by omega)⟩⟩
      · refine ite2 (fun _ => ⟨.int (i : Nat), rfl, mkT_go i100 ((q2 (ht.trans (if_neg hx))).imp s2)⟩) (fun z => absurd (by rw [decide_eq_false (fun y => hx (ew.mp y))]; rfl) z)
end
end Sv
set_option maxHeartbeats 4000000
namespace Sv
open PySem PySem.Spec PyProof.Rows L2
/-- the rows from i on, n of them; or the first that is wrong -/
def rowsO (w : List Nat) (L : List (List Nat)) (i : Nat) : Nat → Except Nat (List Ro)
  | 0 => .ok []
  | n + 1 => match rowsO w L i n with
    | .error j => .error j
    | .ok rs => match L[i + n]?.bind (lineO w) with
      | none => .error (i + n)
      | some r => .ok (rs ++ [r])
theorem rowsO_err {w : List Nat} {L : List (List Nat)} {i k j : Nat} (h : rowsO w L i k = .error j) : ∀ n, k ≤ n → rowsO w L i n = .error j
  | 0, hn => by
    obtain rfl : k = 0 := by omega
    exact h
  | n + 1, hn => by
    by_cases hk : k = n + 1
    · rw [← hk]
      exact h
    · show (match rowsO w L i n with
        | .error j => Except.error j
        | .ok rs => match L[i + n]?.bind (lineO w) with
          | none => .error (i + n)
          | some r => .ok (rs ++ [r])) = _
      rw [rowsO_err h n (by omega)]
theorem rowsO_bad {w : List Nat} {L : List (List Nat)} {i k n : Nat} {rs : List Ro} (h : rowsO w L i k = .ok rs) (hb : L[i + k]?.bind (lineO w) = none) (hk : k < n) : rowsO w L i n = .error (i + k) := by
  refine rowsO_err (k := k + 1) ?_ n hk
  show (match rowsO w L i k with
    | .error j => Except.error j
    | .ok rs => match L[i + k]?.bind (lineO w) with
      | none => .error (i + k)
      | some r => .ok (rs ++ [r])) = _
  rw [h, hb]
theorem rowsO_snoc {w : List Nat} {L : List (List Nat)} {i k : Nat} {rs : List Ro} {r : Ro} (h : rowsO w L i k = .ok rs) (hb : L[i + k]?.bind (lineO w) = some r) : rowsO w L i (k + 1) = .ok (rs ++ [r]) := by
  show (match rowsO w L i k with
    | .error j => Except.error j
    | .ok rs => match L[i + k]?.bind (lineO w) with
      | none => .error (i + k)
      | some r => .ok (rs ++ [r])) = _
  rw [h, hb]
theorem rowsO_len {w : List Nat} {L : List (List Nat)} {i : Nat} : ∀ {k : Nat} {rs : List Ro}, rowsO w L i k = .ok rs → rs.length = k ∧ ∀ j r, rs[j]? = some r → L[i + j]?.bind (lineO w) = some r
  | 0, rs, h => by
    have h2 : Except.ok [] = (Except.ok rs : Except Nat (List Ro)) := h
    injection h2 with h3
    rw [← h3]
    exact ⟨rfl, fun j r e => by simp at e⟩
  | k + 1, rs, h => by
    have h2 : (match rowsO w L i k with
      | .error j => Except.error j
      | .ok rs => match L[i + k]?.bind (lineO w) with
        | none => .error (i + k)
        | some r => .ok (rs ++ [r])) = Except.ok rs := h
    cases e1 : rowsO w L i k with
    | error j => rw [e1] at h2; cases h2
    | ok rs1 =>
      rw [e1] at h2
      cases e2 : L[i + k]?.bind (lineO w) with
      | none =>
        replace h2 : (match L[i + k]?.bind (lineO w) with
          | none => Except.error (i + k)
          | some r => .ok (rs1 ++ [r])) = Except.ok rs := h2
        rw [e2] at h2
        cases h2
      | some r =>
        replace h2 : (match L[i + k]?.bind (lineO w) with
          | none => Except.error (i + k)
          | some r => .ok (rs1 ++ [r])) = Except.ok rs := h2
        rw [e2] at h2
        replace h2 : (Except.ok (rs1 ++ [r]) : Except Nat (List Ro)) = Except.ok rs := h2
        injection h2 with h3
        obtain ⟨i1, i2⟩ := rowsO_len e1
        rw [← h3]
        refine ⟨by rw [List.length_append, i1]; rfl, fun j r' e => ?_⟩
        by_cases hj : j < k
        · rw [List.getElem?_append_left (by omega)] at e
          exact i2 j r' e
        · rw [List.getElem?_append_right (by omega), i1] at e
          have hjk : j = k := by
            have := (List.getElem?_eq_some_iff.mp e).1
            rw [List.length_singleton] at this
            omega
          rw [hjk, Nat.sub_self] at e
          rw [hjk, e2]
          exact e
theorem itemsO_ints : ∀ {l : List (List Nat)} {r : Ro}, itemsO false l = some r → ∃ zs : List Int, r = zs.map some ∧ ∀ z ∈ zs, 0 ≤ z
  | [], r, h => ⟨[], (Option.some.inj h).symm, fun z hz => (List.not_mem_nil hz).elim⟩
  | a :: l, r, h => by
    unfold itemsO at h
    cases e1 : itemO false a with
    | none => rw [e1] at h; cases h
    | some e =>
      rw [e1] at h
      cases e2 : itemsO false l with
      | none => rw [e2] at h; cases h
      | some es =>
        rw [e2] at h
        obtain ⟨zs, hz, hz0⟩ := itemsO_ints e2
        obtain rfl := Option.some.inj h
        unfold itemO at e1
        rw [if_neg (fun z => nomatch z.1)] at e1
        by_cases hn : isNum a = true
        · rw [if_pos hn] at e1
          obtain rfl := Option.some.inj e1
          exact ⟨_ :: zs, by rw [hz]; rfl, fun z hz' => by
            rcases List.mem_cons.mp hz' with rfl | hz'
            · omega
            · exact hz0 z hz'⟩
        · rw [if_neg hn] at e1
          cases e1
theorem lineO_ints {w a : List Nat} {r : Ro} (hw : w ≠ rtW) (h : lineO w a = some r) : ∃ zs : List Int, r = zs.map some ∧ ∀ z ∈ zs, 0 ≤ z := by
  unfold lineO at h
  rw [decide_eq_false hw] at h
  cases e1 : TL.spl [32] 0 [] a with
  | nil => rw [e1] at h; cases h
  | cons x ps =>
    rw [e1] at h
    replace h : (if x = w then itemsO false ps else none) = some r := h
    by_cases hx : x = w
    · rw [if_pos hx] at h
      exact itemsO_ints h
    · rw [if_neg hx] at h
      cases h
/-- what a text says of a plan; or the row that is wrong -/
def planR (a : List Nat) : Except Nat (Ro × List Ro) := match (TL.spl [10] 0 [] a)[0]?.bind (lineO szW) with
  | none => .error 0
  | some z => match rowsO rtW (TL.spl [10] 0 [] a) 1 ((TL.spl [10] 0 [] a).length - 1) with
    | .error j => .error j
    | .ok rs => .ok (z, rs)
section
variable {P : Program} {w : World} {K : PySem.W.Frag} {mg : Str → Option Value} {base : Heap}
theorem scPp : FnScope ["text", "lines", "sizes", "routes", "plan", "row"] ["text"] (defScope sParsePlan) := ⟨rfl, rfl, rfl, by decide +kernel, rfl, by decide +kernel, by decide +kernel⟩
def spPp (K : PySem.W.Frag) (C CT : Addr) : Sp := fun vs H Q E => ∃ a : List Nat, vs = [.str (SX.S a)] ∧ a.length ≤ 900 ∧ (∀ i : Nat, planR a = .error i → TextE CT H (i : Nat) E) ∧
  (∀ zs rs, planR a = .ok (zs.map some, rs) → (bad zs rs = none → ∀ H' p, Same H H' → PlanAt K H' p zs rs → Q (.ref p) H') ∧ (∀ part i, bad zs rs = some (part, i) → PlanE C H part i E))
theorem ok_pp (T : Bd P K mg) : FnOk P w K mg base (L2.CX P w) 5 T.aParsePlan T.dParsePlan ["text"] (spPp K T.C T.CTx) := by
  have GIL : FnOk P w K mg base (L2.CX P w) 4 T.aItemsOfLine T.dItemsOfLine ["lines", "row", "word"] (spIl K T.CTx) := ok_il T
  have GP : FnOk P w K mg base (L2.CX P w) 4 T.aCheckPlan T.dCheckPlan ["plan"] (spCheckPlan K T.C) := ok_checkPlan T
  refine T.ParsePlan.F.okX scPp (fun vs H Q E h => ?_) (fun cdv A outer s H vs Q E hr h => ?_)
  · obtain ⟨a, rfl, _⟩ := h
    rfl
  · obtain ⟨a, rfl, hl, q1, q2⟩ := h
    refine ⟨_, pss_cons (ps_set (i := 1) scPp.nd rfl (Or.inr rfl) (pe_split (pv 0) pe_str))
      (pss_cons (ps_set (i := 2) scPp.nd rfl (Or.inl rfl) (pe_call (E := E) GIL (hr.mono (by decide)) (by rfl) T.ItemsOfLine.g T.ItemsOfLine.F.kp T.ItemsOfLine.b .nil (passes_call (takes_of rfl rfl rfl rfl) fun _ _ _ _ h => h) (pa_cons (pv 1) (pa_cons (pe_int) (pa_cons (pe_str) pa_nil)))))
      (pss_cons (ps_setLcX (E := E) (i := 3) (own := [("row", 5)]) (g := gName 5) (te := tCall (spIl K T.CTx) [] E (tCons (tVar 1) (tCons (tVar 5) (tCons (tC (.str "route")) tNil)))) rfl rfl rfl (takes_of rfl rfl rfl rfl) scPp.nd rfl rfl (sw_true rfl rfl rfl rfl) (pi_range2 (by rfl) T.bt.range (pa_cons (pe_int) (pa_cons (pe_callB call_len_seq (by rfl) T.bt.len b_len (pa_cons (pv 1) pa_nil)) pa_nil))) (blkOk_by (N := ["text", "lines", "sizes", "routes", "plan", "row"]) (sc := defScope sParsePlan) (by decide +kernel)) (fun _ _ _ _ _ => pg_name (i := 5) scPp.nd rfl (Or.inl rfl)) (fun _ _ _ _ _ xe px => pe_call (E := E) GIL (hr.mono (by decide)) (by rfl) T.ItemsOfLine.g T.ItemsOfLine.F.kp T.ItemsOfLine.b .nil px (pa_cons (pv 1) (pa_cons (pv 5) (pa_cons (pe_str) pa_nil)))))
      (pss_cons (ps_set (i := 4) scPp.nd rfl (Or.inl rfl) (pe_tup (pa_cons (pv 2) (pa_cons (pe_callTy call_tuple_of (by rfl) T.bt.tuple b_tuple (pa_cons (pv 3) pa_nil)) pa_nil))))
      (pss_cons (ps_expr (pe_call (E := E) GP (hr.mono (by decide)) (by rfl) T.CheckPlan.g T.CheckPlan.F.kp T.CheckPlan.b .nil (passes_call (takes_of rfl rfl rfl rfl) fun _ _ _ _ h => h) (pa_cons (pv 4) pa_nil)))
      (pss_one (ps_ret (pv 4))))))), ?_⟩
    obtain ⟨n1, n2, n3⟩ := spl_props 10 a []
    have es : Txt.split (SX.S a) (SX.S [10]) = (TL.spl [10] 0 [] a).map SX.S := SX.split_S (by decide) (by decide)
    unfold planR at q1 q2
    generalize TL.spl [10] 0 [] a = L at n1 n2 n3 es q1 q2
    have k900 : 900 + 2 ≤ sizeLine := Nat.le_of_lt (small1000 (by decide))
    have hal : ∀ b ∈ L, b.length ≤ 900 := fun b hb => by
      have := n3 b hb
      rw [List.length_nil] at this
      omega
    refine ⟨.str (SX.S a), rfl, ⟨_, rfl⟩, SX.S a, SX.S [10], rfl, rfl, rfl, by rw [SX.S_len]; omega, fun p0 hp0 => ?_⟩
    rw [es]
    have s1 := same_upd (o := .lst ((L.map SX.S).map V.str)) hp0
    have k1 : (upd H p0 (.lst ((L.map SX.S).map V.str))) p0 = some (.lst (L.map fun a => V.str (SX.S a))) := by rw [upd_same, List.map_map]; rfl
    generalize upd H p0 (.lst ((L.map SX.S).map V.str)) = H1 at s1 k1 ⊢
    have l0 : L[0]?.bind (lineO szW) = none ∨ ∃ z, L[0]?.bind (lineO szW) = some z := by
      cases L[0]?.bind (lineO szW) with
      | none => exact .inl rfl
      | some z => exact .inr ⟨z, rfl⟩
    have hL0 : 0 < L.length := List.length_pos_iff.mpr n1
    refine ⟨.ref p0, rfl, p0, 0, szW, L, rfl, .inl (.inl k1), Nat.zero_le _, by omega, hal, fun z hz H2 pz s2 kz hzl => ?_, fun hz => (q1 0 (by rw [hz])).imp s1⟩
    rw [hz] at q1 q2
    replace q1 : ∀ i : Nat, (match rowsO rtW L 1 (L.length - 1) with
          | .error j => Except.error j
          | .ok rs => Except.ok (z, rs)) = .error i → TextE T.CTx H (i : Nat) E := q1
    replace q2 : ∀ (zs : List Int) (rs : List Ro), (match rowsO rtW L 1 (L.length - 1) with
          | .error j => Except.error j
          | .ok rs => Except.ok (z, rs)) = .ok (zs.map some, rs) → (bad zs rs = none → ∀ H' p, Same H H' → PlanAt K H' p zs rs → Q (.ref p) H') ∧ (∀ part i, bad zs rs = some (part, i) → PlanE T.C H part i E) := q2
    have k2 : H2 p0 = some (.lst (L.map fun a => V.str (SX.S a))) := s2 _ _ k1
    replace s2 := s1.trans s2
    refine ⟨.ref p0, rfl, p0, _, rfl, .inl (.inl (.inl k2)), 1, _, rfl, ⟨by decide, by decide, by omega, by rw [List.length_map]; omega⟩, fun D hD => ?_⟩
    rw [List.length_map, show (((L.length : Nat) : Int) - 1).toNat = L.length - 1 by omega]
    generalize hN : L.length - 1 = N at q1 q2 ⊢
    refine lc_range (lo := 1) (n := N) (fun k G => Same H2 G ∧ ∃ (qs : List Addr) (rs : List Ro), rowsO rtW L 1 k = .ok rs ∧ G D = some (.lst (qs.map V.ref)) ∧ Paired (fun q r => SqT K G q (rV r)) qs rs ∧ ∀ r ∈ rs, r.length ≤ 1000) ⟨same_upd hD, [], [], rfl, upd_same, .nil, fun r hr => (List.not_mem_nil hr).elim⟩ (fun k G hk ⟨sm, qs, rs, er, kD, hP, hrl⟩ => ?_) (fun G ⟨sm, qs, rs, er, kD, hP, hrl⟩ => ?_)
    · have hrl2 := (rowsO_len er).1
      refine ⟨rfl, yes_go ⟨.ref p0, rfl, .int (1 + (k : Nat)), rfl, p0, 1 + k, rtW, L, ?_, .inl (.inl (sm _ _ k2)), by omega, by omega, hal, fun r hr G2 q sm2 hq hql => ?_, fun hb => (q1 (1 + k) (by rw [rowsO_bad er hb hk])).imp (s2.trans sm)⟩⟩
      · rw [show ((1 + k : Nat) : Int) = 1 + (k : Nat) by omega]
        rfl
      · have pl := paired_len hP
        refine ⟨_, sm2 _ _ kD, by rw [List.length_map]; exact small1000 (by omega), same_of (sm.trans sm2) hD, qs ++ [q], rs ++ [r], rowsO_snoc er hr, by rw [upd_same, List.map_append]; rfl, ?_, fun x hx => ?_⟩
        · exact paired_snoc (sqT_lst (sm2 _ _ kD) hq) (paired_imp (fun a xs h => sqT_lst (sm2 _ _ kD) (sqT_same sm2 h)) hP)
        · rcases List.mem_append.mp hx with hx | hx
          · exact hrl x hx
          · rw [List.mem_singleton.mp hx]
            omega
    · obtain ⟨zs, rfl, _⟩ : ∃ zs : List Int, z = zs.map some ∧ ∀ z ∈ zs, 0 ≤ z := by
        cases e0 : L[0]? with
        | none => rw [e0] at hz; cases hz
        | some l => rw [e0] at hz; exact lineO_ints (by decide) hz
      rw [er] at q2
      obtain ⟨c1, c2⟩ := q2 zs rs rfl
      have hrn := (rowsO_len er).1
      have pl := paired_len hP
      have s3 := s2.trans sm
      refine ⟨.ref pz, rfl, .ref D, rfl, D, _, rfl, .inl ⟨.inl (.inl kD), fun l hl2 => ⟨(by show 2 ≤ sizeLine; decide), fun p4 hp4 => ?_⟩⟩⟩
      have s4 := same_upd (o := .tup (qs.map V.ref)) hl2
      have kl : (upd G l (.tup (qs.map V.ref))) l = some (.tup (qs.map V.ref)) := upd_same
      generalize upd G l (.tup (qs.map V.ref)) = G3 at s4 kl hp4 ⊢
      have s5 := same_upd (o := .tup [.ref pz, .ref l]) hp4
      have k5 : (upd G3 p4 (.tup [.ref pz, .ref l])) p4 = some (.tup [.ref pz, .ref l]) := upd_same
      show _
      generalize upd G3 p4 (.tup [.ref pz, .ref l]) = G4 at s5 k5 ⊢
      have s6 := s4.trans s5
      have PA : PlanAt K G4 p4 zs rs := ⟨pz, l, .inl (.inl k5), by rw [← rV_some]; exact sqT_same (sm.trans s6) kz, ⟨qs, .inl (.inl (s5 _ _ kl)), paired_same s6 hP⟩⟩
      refine ⟨.ref p4, rfl, p4, zs, rs, rfl, PA, ⟨?_, by omega, hrl⟩, fun hb G5 s7 => ⟨.ref p4, rfl, c1 hb G5 p4 (s3.trans (s6.trans s7)) (PA.same s7)⟩, fun part i hb => (c2 part i hb).imp (s3.trans s6)⟩
      rw [List.length_map] at hzl
      omega
end
end Sv
set_option maxHeartbeats 4000000
namespace Sv
open PySem PySem.Spec PyProof.Rows L2
theorem rows_ints : ∀ {rs : List Ro}, (∀ r ∈ rs, ∃ zs : List Int, r = zs.map some) → ∃ ss : List (List Int), rs = ss.map fun s => s.map some
  | [], _ => ⟨[], rfl⟩
  | r :: rs, h => by
    obtain ⟨zs, hz⟩ := h r (List.mem_cons_self ..)
    obtain ⟨ss, hs⟩ := rows_ints fun x hx => h x (List.mem_cons_of_mem _ hx)
    exact ⟨zs :: ss, by rw [hz, hs]; rfl⟩
theorem rowsO_ints {w : List Nat} {L : List (List Nat)} {i k : Nat} {rs : List Ro} (hw : w ≠ rtW) (h : rowsO w L i k = .ok rs) : ∃ ss : List (List Int), rs = ss.map fun s => s.map some := by
  refine rows_ints fun r hr => ?_
  obtain ⟨j, hj⟩ := List.mem_iff_getElem?.mp hr
  have := (rowsO_len h).2 j r hj
  cases e : L[i + j]? with
  | none => rw [e] at this; cases this
  | some l =>
    rw [e] at this
    obtain ⟨zs, hz, _⟩ := lineO_ints hw this
    exact ⟨zs, hz⟩
theorem paired_ints {K : PySem.W.Frag} {H : Hp} : ∀ {qs : List Addr} {ss : List (List Int)}, Paired (fun q r => SqT K H q (rV r)) qs (ss.map fun s => s.map some) → Paired (fun q s => SqT K H q (s.map V.int)) qs ss
  | [], [], _ => .nil
  | q :: qs, s :: ss, .cons h t => .cons (by rw [← rV_some]; exact h) (paired_ints t)
/-- what a text says of a state of a plan with n shelves; or the row that is wrong -/
def stateR (n : Nat) (a : List Nat) : Except Nat (Int × Ro × List Ro) := match (TL.spl [10] 0 [] a)[0]?.bind timeO with
  | none => .error 0
  | some t => match (TL.spl [10] 0 [] a)[1]?.bind (lineO caW) with
    | none => .error 1
    | some c => match rowsO shW (TL.spl [10] 0 [] a) 2 n with
      | .error j => .error j
      | .ok ss => if (TL.spl [10] 0 [] a).length > 2 + n then .error (2 + n) else .ok (t, c, ss)
section
variable {P : Program} {w : World} {K : PySem.W.Frag} {mg : Str → Option Value} {base : Heap}
theorem scPs : FnScope ["plan", "text", "lines", "time", "carried", "behind", "shelves", "state", "row"] ["plan", "text"] (defScope sParseState) := ⟨rfl, rfl, rfl, by decide +kernel, rfl, by decide +kernel, by decide +kernel⟩
def spPs (K : PySem.W.Frag) (CS CT : Addr) : Sp := fun vs H Q E => ∃ (p : Addr) (a : List Nat) (zs : List Int) (rs : List Ro), vs = [.ref p, .str (SX.S a)] ∧ PlanAt K H p zs rs ∧ Val zs rs ∧ a.length ≤ 900 ∧ (∀ i : Nat, stateR zs.length a = .error i → TextE CT H (i : Nat) E) ∧
  (∀ t cs ss, stateR zs.length a = .ok (t, cs.map some, ss.map fun s => s.map some) → (StOk zs rs t (cs, ss) → ∀ H' s, Same H H' → StateAt K H' s t (cs, ss) → Q (.ref s) H') ∧ (¬ StOk zs rs t (cs, ss) → ∀ H', Same H H' → E (.ref CS) none H'))
theorem ok_ps (T : Bd P K mg) : FnOk P w K mg base (L2.CX P w) 5 T.aParseState T.dParseState ["plan", "text"] (spPs K T.CS T.CTx) := by
  have GIL : FnOk P w K mg base (L2.CX P w) 4 T.aItemsOfLine T.dItemsOfLine ["lines", "row", "word"] (spIl K T.CTx) := ok_il T
  have GTM : FnOk P w K mg base (L2.CX P w) 3 T.aTimeOfLine T.dTimeOfLine ["line"] (spTm T.CTx) := ok_tm T
  have GP : FnOk P w K mg base (L2.CX P w) 4 T.aCheckPlan T.dCheckPlan ["plan"] (spCheckPlan K T.C) := ok_checkPlan T
  have GS : FnOk P w K mg base (L2.CX P w) 3 T.aCheckState T.dCheckState ["plan", "state"] (spCheckState K T.CS) := ok_checkState T
  refine T.ParseState.F.okX scPs (fun vs H Q E h => ?_) (fun cdv A outer s H vs Q E hr h => ?_)
  · obtain ⟨p, a, zs, rs, rfl, _⟩ := h
    rfl
  · obtain ⟨p, a, zs, rs, rfl, hp, hv, hl, q1, q2⟩ := h
    refine ⟨_, pss_cons (ps_expr (pe_call (E := E) GP (hr.mono (by decide)) (by rfl) T.CheckPlan.g T.CheckPlan.F.kp T.CheckPlan.b .nil (passes_call (takes_of rfl rfl rfl rfl) fun _ _ _ _ h => h) (pa_cons (pv 0) pa_nil)))
      (pss_cons (ps_set (i := 2) scPs.nd rfl (Or.inr rfl) (pe_split (pv 1) pe_str))
      (pss_cons (ps_set (i := 3) scPs.nd rfl (Or.inl rfl) (pe_call (E := E) GTM (hr.mono (by decide)) (by rfl) T.TimeOfLine.g T.TimeOfLine.F.kp T.TimeOfLine.b .nil (passes_call (takes_of rfl rfl rfl rfl) fun _ _ _ _ h => h) (pa_cons (pe_ix ix_list (pv 2) (pe_int) (fun _ _ => rfl)) pa_nil)))
      (pss_cons (ps_set (i := 4) scPs.nd rfl (Or.inl rfl) (pe_call (E := E) GIL (hr.mono (by decide)) (by rfl) T.ItemsOfLine.g T.ItemsOfLine.F.kp T.ItemsOfLine.b .nil (passes_call (takes_of rfl rfl rfl rfl) fun _ _ _ _ h => h) (pa_cons (pv 2) (pa_cons (pe_int) (pa_cons (pe_str) pa_nil)))))
      (pss_cons (ps_set (i := 5) scPs.nd rfl (Or.inl rfl) (pe_op op_add (pe_int) (pe_callB call_len_seq (by rfl) T.bt.len b_len (pa_cons (pe_ix ix_tup (pv 0) (pe_int) (fun _ _ => rfl)) pa_nil))))
      (pss_cons (ps_setLcX (E := E) (i := 6) (own := [("row", 8)]) (g := gName 8) (te := tCall (spIl K T.CTx) [] E (tCons (tVar 2) (tCons (tVar 8) (tCons (tC (.str "shelf")) tNil)))) rfl rfl rfl (takes_of rfl rfl rfl rfl) scPs.nd rfl rfl (sw_true rfl rfl rfl rfl) (pi_range2 (by rfl) T.bt.range (pa_cons (pe_int) (pa_cons (pv 5) pa_nil))) (blkOk_by (N := ["plan", "text", "lines", "time", "carried", "behind", "shelves", "state", "row"]) (sc := defScope sParseState) (by decide +kernel)) (fun _ _ _ _ _ => pg_name (i := 8) scPs.nd rfl (Or.inl rfl)) (fun _ _ _ _ _ xe px => pe_call (E := E) GIL (hr.mono (by decide)) (by rfl) T.ItemsOfLine.g T.ItemsOfLine.F.kp T.ItemsOfLine.b .nil px (pa_cons (pv 2) (pa_cons (pv 8) (pa_cons (pe_str) pa_nil)))))
      (pss_cons (ps_if (pt_cmpR op_gt (pe_callB call_len_seq (by rfl) T.bt.len b_len (pa_cons (pv 2) pa_nil)) (pv 5) (nomark _)) (pss_one (ps_raise rfl (takes_of rfl rfl rfl rfl) (pmk_text T.tx (hr.mono (by decide)) (by rfl) (pv 5)))) pss_nil)
      (pss_cons (ps_set (i := 7) scPs.nd rfl (Or.inl rfl) (pe_tup (pa_cons (pv 3) (pa_cons (pv 4) (pa_cons (pe_callTy call_tuple_of (by rfl) T.bt.tuple b_tuple (pa_cons (pv 6) pa_nil)) pa_nil)))))
      (pss_cons (ps_expr (pe_call (E := E) GS (hr.mono (by decide)) (by rfl) T.CheckState.g T.CheckState.F.kp T.CheckState.b .nil (passes_call (takes_of rfl rfl rfl rfl) fun _ _ _ _ h => h) (pa_cons (pv 0) (pa_cons (pv 7) pa_nil))))
      (pss_one (ps_ret (pv 7))))))))))), ?_⟩
    have hb := hv.bad
    obtain ⟨n1, n2, n3⟩ := spl_props 10 a []
    have es : Txt.split (SX.S a) (SX.S [10]) = (TL.spl [10] 0 [] a).map SX.S := SX.split_S (by decide) (by decide)
    unfold stateR at q1 q2
    generalize TL.spl [10] 0 [] a = L at n1 n2 n3 es q1 q2
    have k900 : 900 + 2 ≤ sizeLine := Nat.le_of_lt (small1000 (by decide))
    have hal : ∀ b ∈ L, b.length ≤ 900 := fun b hb => by
      have := n3 b hb
      rw [List.length_nil] at this
      omega
    refine ⟨.ref p, rfl, p, zs, rs, rfl, hp, hv.small, fun _ H0 s0 => ?_, (fun part i e => by rw [hb] at e; cases e)⟩
    have hp0' := hp.same s0
    refine ⟨.str (SX.S a), rfl, ⟨_, rfl⟩, SX.S a, SX.S [10], rfl, rfl, rfl, by rw [SX.S_len]; omega, fun p0 hp0 => ?_⟩
    rw [es]
    have s1 := s0.trans (same_upd (o := .lst ((L.map SX.S).map V.str)) hp0)
    have k1 : (upd H0 p0 (.lst ((L.map SX.S).map V.str))) p0 = some (.lst (L.map fun a => V.str (SX.S a))) := by rw [upd_same, List.map_map]; rfl
    generalize upd H0 p0 (.lst ((L.map SX.S).map V.str)) = H1 at s1 k1 ⊢
    have hL0 : 0 < L.length := List.length_pos_iff.mpr n1
    obtain ⟨l0, hl0⟩ : ∃ l0, L[0]? = some l0 := ⟨_, List.getElem?_eq_getElem hL0⟩
    refine ⟨.ref p0, rfl, p0, _, 0, .str (SX.S l0), rfl, rfl, .inl (.inl k1), atI_nat (j := 0) (by rw [List.getElem?_map, hl0]; rfl), l0, rfl, hal l0 (List.mem_of_getElem? hl0), fun t ht H2 s2 => ?_, fun ht => (q1 0 (by rw [hl0]; show (match timeO l0 with | none => _ | some t => _) = _; rw [ht])).imp s1⟩
    have e0 : L[0]?.bind timeO = some t := by rw [hl0]; exact ht
    rw [e0] at q1 q2
    replace q1 : ∀ i : Nat, (match L[1]?.bind (lineO caW) with
      | none => .error 1
      | some c => match rowsO shW L 2 zs.length with
        | .error j => .error j
        | .ok ss => if L.length > 2 + zs.length then .error (2 + zs.length) else .ok (t, c, ss)) = (.error i : Except Nat (Int × Ro × List Ro)) → TextE T.CTx H (i : Nat) E := q1
    replace q2 : ∀ t' cs ss, (match L[1]?.bind (lineO caW) with
      | none => .error 1
      | some c => match rowsO shW L 2 zs.length with
        | .error j => .error j
        | .ok ss => if L.length > 2 + zs.length then .error (2 + zs.length) else .ok (t, c, ss)) = (.ok (t', cs.map some, ss.map fun s => s.map some) : Except Nat (Int × Ro × List Ro)) → (StOk zs rs t' (cs, ss) → ∀ H' s, Same H H' → StateAt K H' s t' (cs, ss) → Q (.ref s) H') ∧ (¬ StOk zs rs t' (cs, ss) → ∀ H', Same H H' → E (.ref T.CS) none H') := q2
    have k2 : H2 p0 = some (.lst (L.map fun a => V.str (SX.S a))) := s2 _ _ k1
    replace s2 := s1.trans s2
    refine ⟨.ref p0, rfl, p0, 1, caW, L, rfl, .inl (.inl k2), by omega, by omega, hal, fun c hc H3 pc s3 kc hcl => ?_, fun hc => (q1 1 (by rw [hc])).imp s2⟩
    rw [hc] at q1 q2
    replace q1 : ∀ i : Nat, (match rowsO shW L 2 zs.length with
        | .error j => .error j
        | .ok ss => if L.length > 2 + zs.length then .error (2 + zs.length) else .ok (t, c, ss)) = (.error i : Except Nat (Int × Ro × List Ro)) → TextE T.CTx H (i : Nat) E := q1
    replace q2 : ∀ t' cs ss, (match rowsO shW L 2 zs.length with
        | .error j => .error j
        | .ok ss => if L.length > 2 + zs.length then .error (2 + zs.length) else .ok (t, c, ss)) = (.ok (t', cs.map some, ss.map fun s => s.map some) : Except Nat (Int × Ro × List Ro)) → (StOk zs rs t' (cs, ss) → ∀ H' s, Same H H' → StateAt K H' s t' (cs, ss) → Q (.ref s) H') ∧ (¬ StOk zs rs t' (cs, ss) → ∀ H', Same H H' → E (.ref T.CS) none H') := q2
    have k3 : H3 p0 = some (.lst (L.map fun a => V.str (SX.S a))) := s3 _ _ k2
    replace s3 := s2.trans s3
    obtain ⟨az, bz, hp1, hpz, _⟩ := (hp.same s3).ex
    have z12 := hv.z1
    refine ⟨.ref p, rfl, p, _, 0, .ref az, rfl, rfl, hp1, rfl, az, _, rfl, .inr hpz, 2, ((zs.map V.int).length : Nat), rfl, rfl, ?_⟩
    rw [List.length_map]
    have L1 : 1 < L.length := by
      cases e1 : L[1]? with
      | none => rw [e1] at hc; cases hc
      | some l => exact (List.getElem?_eq_some_iff.mp e1).1
    refine ⟨.int (2 + (zs.length : Nat)), rfl, 2, _, rfl, ⟨by decide, by decide, by omega, by omega⟩, fun D hD => ?_⟩
    rw [show ((2 + (zs.length : Nat) : Int) - 2).toNat = zs.length by omega]
    refine lc_range (lo := 2) (n := zs.length) (fun k G => Same H3 G ∧ ∃ (qs : List Addr) (ss : List Ro), rowsO shW L 2 k = .ok ss ∧ G D = some (.lst (qs.map V.ref)) ∧ Paired (fun q r => SqT K G q (rV r)) qs ss) ⟨same_upd hD, [], [], rfl, upd_same, .nil⟩ (fun k G hk ⟨sm, qs, ss, er, kD, hP⟩ => ?_) (fun G ⟨sm, qs, ss, er, kD, hP⟩ => ?_)
    · obtain ⟨hrl2, hrow⟩ := rowsO_len er
      have hkL : 2 + k ≤ L.length := by
        cases k with
        | zero => omega
        | succ k =>
          obtain ⟨r, hr⟩ : ∃ r, ss[k]? = some r := ⟨_, List.getElem?_eq_getElem (by omega)⟩
          have := hrow k r hr
          cases e1 : L[2 + k]? with
          | none => rw [e1] at this; cases this
          | some l =>
            have := (List.getElem?_eq_some_iff.mp e1).1
            omega
      refine ⟨rfl, yes_go ⟨.ref p0, rfl, .int (2 + (k : Nat)), rfl, p0, 2 + k, shW, L, ?_, .inl (.inl (sm _ _ k3)), hkL, by omega, hal, fun r hr G2 q sm2 hq hql => ?_, fun hb => (q1 (2 + k) (by rw [rowsO_bad er hb hk])).imp (s3.trans sm)⟩⟩
      · rw [show ((2 + k : Nat) : Int) = 2 + (k : Nat) by omega]
        rfl
      · have pl := paired_len hP
        refine ⟨_, sm2 _ _ kD, by rw [List.length_map]; exact small1000 (by omega), same_of (sm.trans sm2) hD, qs ++ [q], ss ++ [r], rowsO_snoc er hr, by rw [upd_same, List.map_append]; rfl, ?_⟩
        exact paired_snoc (sqT_lst (sm2 _ _ kD) hq) (paired_imp (fun a xs h => sqT_lst (sm2 _ _ kD) (sqT_same sm2 h)) hP)
    · obtain ⟨cs, rfl, _⟩ : ∃ zs : List Int, c = zs.map some ∧ ∀ z ∈ zs, 0 ≤ z := by
        cases e1 : L[1]? with
        | none => rw [e1] at hc; cases hc
        | some l => rw [e1] at hc; exact lineO_ints (by decide) hc
      obtain ⟨ss, rfl⟩ := rowsO_ints (by decide) er
      rw [er] at q1 q2
      have hrn := (rowsO_len er).1
      rw [List.length_map] at hrn
      have pl := paired_len hP
      rw [List.length_map] at pl
      have s4 := s3.trans sm
      refine ⟨.ref p0, rfl, p0, _, rfl, .inl (.inl (.inl (sm _ _ k3))), .int (2 + (zs.length : Nat)), rfl, _, _, rfl, rfl, _, rfl, ?_⟩
      rw [List.length_map]
      by_cases hlong : L.length > 2 + zs.length
      · rw [decide_eq_true (show (2 : Int) + (zs.length : Nat) < (L.length : Nat) by omega)]
        refine iteT ⟨.int (2 + (zs.length : Nat)), rfl, mkT_go ?_ ?_⟩
        · exact Nat.lt_of_le_of_lt (show ((2 : Int) + (zs.length : Nat)).natAbs ≤ 14 by omega) (by decide)
        · have := (q1 (2 + zs.length) (by show (if _ then _ else _) = _; rw [if_pos hlong])).imp s4
          rw [show ((2 + zs.length : Nat) : Int) = 2 + (zs.length : Nat) by omega] at this
          exact this
      · rw [decide_eq_false (show ¬ (2 : Int) + (zs.length : Nat) < (L.length : Nat) by omega)]
        obtain ⟨c1, c2⟩ := q2 t cs ss (by show (if _ then _ else _) = _; rw [if_neg hlong])
        refine iteF ⟨.int t, rfl, .ref pc, rfl, .ref D, rfl, D, _, rfl, .inl ⟨.inl (.inl kD), fun l hl2 => ⟨(by show 3 ≤ sizeLine; decide), fun p4 hp4 => ?_⟩⟩⟩
        have s5 := same_upd (o := .tup (qs.map V.ref)) hl2
        have kl : (upd G l (.tup (qs.map V.ref))) l = some (.tup (qs.map V.ref)) := upd_same
        generalize upd G l (.tup (qs.map V.ref)) = G3 at s5 kl hp4 ⊢
        have s6 := same_upd (o := .tup [.int t, .ref pc, .ref l]) hp4
        have k6 : (upd G3 p4 (.tup [.int t, .ref pc, .ref l])) p4 = some (.tup [.int t, .ref pc, .ref l]) := upd_same
        show _
        generalize upd G3 p4 (.tup [.int t, .ref pc, .ref l]) = G4 at s6 k6 ⊢
        have s56 := s5.trans s6
        have SA : StateAt K G4 p4 t (cs, ss) := ⟨pc, l, .inl (.inl k6), by rw [← rV_some]; exact sqT_same (sm.trans s56) kc, qs, .inl (.inl (s6 _ _ kl)), paired_ints (paired_same s56 hP)⟩
        exact ⟨.ref p, rfl, .ref p4, rfl, p, p4, zs, rs, t, (cs, ss), rfl, hp.same (s4.trans s56), hv, SA, fun ok G5 s7 => ⟨.ref p4, rfl, c1 ok G5 p4 (s4.trans (s56.trans s7)) (SA.same s7)⟩, fun no G5 s7 => c2 no G5 (s4.trans (s56.trans s7))⟩
end
end Sv
set_option maxHeartbeats 4000000
namespace Sv
open PySem PySem.Spec PyProof.Rows L2
def spKV (ks : List Int) (ps : List Addr) : List (Key × V) := (ks.zip ps).map fun x => (Sum.inl x.1, V.ref x.2)
theorem spKV_snoc {ks : List Int} {ps : List Addr} (h : ks.length = ps.length) (k : Int) (p : Addr) : spKV (ks ++ [k]) (ps ++ [p]) = spKV ks ps ++ [(Sum.inl k, V.ref p)] := by
  unfold spKV
  rw [List.zip_append h, List.map_append]
  rfl
theorem spKV_new {ks : List Int} {ps : List Addr} {k : Int} {v : V} (h : k ∉ ks) : putK (spKV ks ps) (Sum.inl k) v = spKV ks ps ++ [(Sum.inl k, v)] := by
  unfold putK
  rw [if_neg]
  intro z
  obtain ⟨kv, hkv, e⟩ := List.any_eq_true.mp z
  unfold spKV at hkv
  obtain ⟨⟨a, b⟩, hab, rfl⟩ := List.mem_map.mp hkv
  have e1 : (Sum.inl a : Key) = Sum.inl k := of_decide_eq_true e
  have e2 : a = k := Sum.inl.inj e1
  exact h (by rw [← e2]; exact (List.of_mem_zip hab).1)
/-- at d the places ts by the parcels ks -/
structure SpotsAt (H : Hp) (d : Addr) (ks : List Int) (ts : List (List V)) : Prop where
  ex : ∃ ps : List Addr, H d = some (.dK (spKV ks ps)) ∧ TupsV H ps ts ∧ ks.length = ps.length
theorem SpotsAt.same {H H' : Hp} {d : Addr} {ks : List Int} {ts : List (List V)} (x : SpotsAt H d ks ts) (e : Same H H') : SpotsAt H' d ks ts := by
  obtain ⟨ps, h1, h2, h3⟩ := x.ex
  exact ⟨ps, e _ _ h1, tupsV_same e h2, h3⟩
theorem SpotsAt.push {H : Hp} {d p : Addr} {ks : List Int} {ts : List (List V)} {k : Int} {t : List V} {kvs : List (Key × V)} (x : SpotsAt H d ks ts) (hd : H d = some (.dK kvs)) (hp : H p = some (.tup t)) (hk : k ∉ ks) :
    SpotsAt (upd H d (.dK (putK kvs (Sum.inl k) (.ref p)))) d (ks ++ [k]) (ts ++ [t]) := by
  obtain ⟨ps, h1, h2, h3⟩ := x.ex
  rw [hd] at h1
  obtain rfl : kvs = spKV ks ps := by injection Option.some.inj h1
  refine ⟨ps ++ [p], by rw [upd_same, spKV_new hk, spKV_snoc h3], tupsV_imp (fun b xs q => ?_) (tupsV_snoc h2 hp), by rw [List.length_append, List.length_append, h3]; rfl⟩
  rw [upd_ne (fun z => by rw [z, hd] at q; cases q)]
  exact q
end Sv
set_option maxHeartbeats 4000000
namespace Sv
open PySem PySem.Spec PyProof.Rows L2
def wKV (t : Int) (hc hs : Addr) : List (Key × V) := [(Sum.inr "time", .int t), (Sum.inr "carried", .ref hc), (Sum.inr "shelves", .ref hs)]
/-- at w time, carried and shelves as they are now -/
structure W3 (H : Hp) (wa hc hs : Addr) (rw : List Addr) (t : Int) (L : Lay Int) : Prop where
  w : H wa = some (.dK (wKV t hc hs))
  c : H hc = some (.lst (L.1.map V.int))
  s : H hs = some (.lst (rw.map V.ref))
  r : RowL H rw L.2
  nd : rw.Nodup
  hcr : hc ∉ rw
  hsr : hs ∉ rw
  hcs : hc ≠ hs
theorem W3.same {H H' : Hp} {wa hc hs : Addr} {rw : List Addr} {t : Int} {L : Lay Int} (x : W3 H wa hc hs rw t L) (e : Same H H') : W3 H' wa hc hs rw t L :=
  ⟨e _ _ x.w, e _ _ x.c, e _ _ x.s, rowL_imp (fun q _ o ho => e _ _ ho) x.r, x.nd, x.hcr, x.hsr, x.hcs⟩
/-- all but F stays -/
def Off (F : List Addr) (H H' : Hp) : Prop := ∀ b o, b ∉ F → H b = some o → H' b = some o
theorem Off.refl (F : List Addr) (H : Hp) : Off F H H := fun _ _ _ h => h
theorem Off.trans {F : List Addr} {H H1 H2 : Hp} (a : Off F H H1) (b : Off F H1 H2) : Off F H H2 := fun c o n h => b c o n (a c o n h)
theorem Off.of {F : List Addr} {H H' : Hp} (e : Same H H') : Off F H H' := fun b o _ h => e b o h
theorem Off.upd {F : List Addr} {H : Hp} {p : Addr} {o : HO} (h : p ∈ F) : Off F H (L2.upd H p o) := fun b u n e => by
  rw [upd_ne (fun z : b = p => n (by rw [z]; exact h))]
  exact e
abbrev foot (wa hc : Addr) (rw : List Addr) : List Addr := wa :: hc :: rw
end Sv
set_option maxHeartbeats 4000000
set_option maxHeartbeats 4000000
namespace Sv
open PySem PySem.Spec PyProof.Rows L2
def dTi (l : List Int) : PyData := .tuple (l.map PyData.int)
def dSt (t : Int) (L : Lay Int) : PyData := .tuple [.int t, dTi L.1, .tuple (L.2.map dTi)]
theorem dpAll_int {K : PySem.W.Frag} {H : Hp} : ∀ l : List Int, DpAll K H (l.map V.int) (l.map PyData.int)
  | [] => .nil
  | i :: l => .cons (.int i) (dpAll_int l)
theorem dp_ti {K : PySem.W.Frag} {H : Hp} {a : Addr} {l : List Int} (h : SqT K H a (l.map V.int)) : Dp K H (.ref a) (dTi l) := .tup h (dpAll_int l)
theorem dpAll_ti {K : PySem.W.Frag} {H : Hp} : ∀ {qs : List Addr} {ss : List (List Int)}, Paired (fun q s => SqT K H q (s.map V.int)) qs ss → DpAll K H (qs.map V.ref) (ss.map dTi)
  | _, _, .nil => .nil
  | _, _, .cons h t => .cons (dp_ti h) (dpAll_ti t)
theorem dp_state {K : PySem.W.Frag} {H : Hp} {s : Addr} {t : Int} {L : Lay Int} (x : StateAt K H s t L) : Dp K H (.ref s) (dSt t L) := by
  obtain ⟨ca, sh, h1, h2⟩ := x.ex
  obtain ⟨qs, h3, h4⟩ := h2.s
  exact .tup h1 (.cons (.int t) (.cons (dp_ti h2.c) (.cons (.tup h3 (dpAll_ti h4)) .nil)))
theorem okD_i (n : Nat) (i : Int) : okD n (.int i) = true := by cases n <;> rfl
theorem okDs_int (n : Nat) : ∀ l : List Int, okDs n (l.map PyData.int) = true
  | [] => by unfold okDs; rfl
  | i :: l => by
    rw [List.map_cons]
    unfold okDs
    rw [okDs_int n l, Bool.and_true]
    exact okD_i n i
theorem okD_ti {n : Nat} {l : List Int} (h : l.length ≤ 1000) : okD (n + 1) (dTi l) = true := by
  unfold dTi okD
  rw [okDs_int, List.length_map, decide_eq_true h]
  rfl
theorem okDs_ti {n : Nat} : ∀ {ss : List (List Int)}, (∀ s ∈ ss, s.length ≤ 1000) → okDs (n + 1) (ss.map dTi) = true
  | [], _ => by unfold okDs; rfl
  | s :: ss, h => by
    rw [List.map_cons]
    unfold okDs
    rw [okD_ti (h s (List.mem_cons_self ..)), okDs_ti fun x hx => h x (List.mem_cons_of_mem _ hx)]
    rfl
theorem okD_st {n : Nat} {t : Int} {L : Lay Int} (h1 : L.1.length ≤ 1000) (h2 : L.2.length ≤ 1000) (h3 : ∀ s ∈ L.2, s.length ≤ 1000) : okD (n + 3) (dSt t L) = true := by
  have e1 : okD (n + 2) (PyData.int t) = true := okD_i _ t
  have e2 : okD (n + 2) (dTi L.1) = true := okD_ti h1
  have e3 : okD (n + 2) (.tuple (L.2.map dTi)) = true := by
    unfold okD
    rw [okDs_ti h3, List.length_map, decide_eq_true h2]
    rfl
  unfold dSt okD
  have : okDs (n + 2) [PyData.int t, dTi L.1, .tuple (L.2.map dTi)] = true := by
    simp only [okDs, e1, e2, e3]
    rfl
  rw [this]
  rfl
end Sv
set_option maxHeartbeats 1000000
set_option maxHeartbeats 4000000
namespace Sv
open PySem PySem.Spec PyProof.Rows L2
/-- a valid plan, one of its states -/
structure PS0 (K : PySem.W.Frag) (H : Hp) (p s : Addr) (zs : List Int) (rs : List Ro) (t : Int) (L : Lay Int) : Prop where
  p : PlanAt K H p zs rs
  v : Val zs rs
  s : StateAt K H s t L
  o : StOk zs rs t L
theorem PS0.imp {K : PySem.W.Frag} {H H' : Hp} {p s : Addr} {zs : List Int} {rs : List Ro} {t : Int} {L : Lay Int} (x : PS0 K H p s zs rs t L) (e : ∀ a xs, SqT K H a xs → SqT K H' a xs) : PS0 K H' p s zs rs t L := by
  obtain ⟨a, b, h1, h2, h3⟩ := x.p.ex
  obtain ⟨qs, h4, h5⟩ := h3.ex
  exact ⟨⟨a, b, e _ _ h1, e _ _ h2, qs, e _ _ h4, paired_imp (K := K) e h5⟩, x.v, x.s.imp e, x.o⟩
end Sv
set_option maxHeartbeats 4000000
namespace Sv
open PySem PySem.Spec PyProof.Rows L2
/-- another list of ours is changed -/
theorem W3.upd {H : Hp} {wa hc hs f : Addr} {rw : List Addr} {t : Int} {L : Lay Int} {o : HO} (x : W3 H wa hc hs rw t L) (h1 : f ∉ foot wa hc rw) (h2 : f ≠ hs) : W3 (L2.upd H f o) wa hc hs rw t L := by
  have n1 : wa ≠ f := fun z => h1 (by rw [← z]; exact List.mem_cons_self ..)
  have n2 : hc ≠ f := fun z => h1 (by rw [← z]; exact List.mem_cons_of_mem _ (List.mem_cons_self ..))
  have n3 : ∀ q ∈ rw, q ≠ f := fun q hq z => h1 (by rw [← z]; exact List.mem_cons_of_mem _ (List.mem_cons_of_mem _ hq))
  exact ⟨by rw [upd_ne n1]; exact x.w, by rw [upd_ne n2]; exact x.c, by rw [upd_ne (Ne.symm h2)]; exact x.s, rowL_imp (fun q hq o ho => by rw [upd_ne (n3 q hq)]; exact ho) x.r, x.nd, x.hcr, x.hsr, x.hcs⟩
theorem okD_l {n : Nat} {ds : List PyData} (h : ds.length ≤ 1000) (o : okDs n ds = true) : okD (n + 1) (.list ds) = true := by
  unfold okD
  rw [o, decide_eq_true h]
  rfl
end Sv
set_option maxHeartbeats 4000000
namespace Sv
open PySem PySem.Spec PyProof.Rows L2
mutual
/-- no bools, no dicts; texts that can lie anywhere -/
def pld : PyData → Bool
  | .none => true
  | .int _ => true
  | .str x => PyData.canLay0 (.str x)
  | .list xs => pldAll xs
  | .tuple xs => pldAll xs
  | _ => false
def pldAll : List PyData → Bool
  | [] => true
  | d :: ds => pld d && pldAll ds
end
mutual
theorem eqv_pld : ∀ a b : PyData, pld a = true → pld b = true → (PyData.eqv a b = true ↔ a = b)
  | .none, .none, _, _ => by simp [PyData.eqv]
  | .none, .int _, _, _ => by simp [PyData.eqv]
  | .none, .str _, _, _ => by simp [PyData.eqv]
  | .none, .list _, _, _ => by simp [PyData.eqv]
  | .none, .tuple _, _, _ => by simp [PyData.eqv]
  | .int i, .none, _, _ => by simp [PyData.eqv]
  | .int i, .int j, _, _ => by simp [PyData.eqv]
  | .int i, .str _, _, _ => by simp [PyData.eqv]
  | .int i, .list _, _, _ => by simp [PyData.eqv]
  | .int i, .tuple _, _, _ => by simp [PyData.eqv]
  | .str x, .none, _, _ => by simp [PyData.eqv]
  | .str x, .int _, _, _ => by simp [PyData.eqv]
  | .str x, .str y, _, _ => by simp [PyData.eqv]
  | .str x, .list _, _, _ => by simp [PyData.eqv]
  | .str x, .tuple _, _, _ => by simp [PyData.eqv]
  | .list x, .none, _, _ => by simp [PyData.eqv]
  | .list x, .int _, _, _ => by simp [PyData.eqv]
  | .list x, .str _, _, _ => by simp [PyData.eqv]
  | .list x, .tuple _, _, _ => by simp [PyData.eqv]
  | .list x, .list y, h1, h2 => by
    unfold pld at h1 h2
    rw [PyData.eqv, eqv_pldAll x y h1 h2]
    exact ⟨fun e => by rw [e], fun e => by injection e⟩
  | .tuple x, .none, _, _ => by simp [PyData.eqv]
  | .tuple x, .int _, _, _ => by simp [PyData.eqv]
  | .tuple x, .str _, _, _ => by simp [PyData.eqv]
  | .tuple x, .list _, _, _ => by simp [PyData.eqv]
  | .tuple x, .tuple y, h1, h2 => by
    unfold pld at h1 h2
    rw [PyData.eqv, eqv_pldAll x y h1 h2]
    exact ⟨fun e => by rw [e], fun e => by injection e⟩
  | .bool _, _, h, _ => by simp [pld] at h
  | .dict _, _, h, _ => by simp [pld] at h
  | .none, .bool _, _, h => by simp [pld] at h
  | .none, .dict _, _, h => by simp [pld] at h
  | .int _, .bool _, _, h => by simp [pld] at h
  | .int _, .dict _, _, h => by simp [pld] at h
  | .str _, .bool _, _, h => by simp [pld] at h
  | .str _, .dict _, _, h => by simp [pld] at h
  | .list _, .bool _, _, h => by simp [pld] at h
  | .list _, .dict _, _, h => by simp [pld] at h
  | .tuple _, .bool _, _, h => by simp [pld] at h
  | .tuple _, .dict _, _, h => by simp [pld] at h
theorem eqv_pldAll : ∀ a b : List PyData, pldAll a = true → pldAll b = true → (PyData.eqvAll a b = true ↔ a = b)
  | [], [], _, _ => by simp [PyData.eqvAll]
  | [], _ :: _, _, _ => by simp [PyData.eqvAll]
  | _ :: _, [], _, _ => by simp [PyData.eqvAll]
  | x :: a, y :: b, h1, h2 => by
    unfold pldAll at h1 h2
    rw [Bool.and_eq_true] at h1 h2
    rw [PyData.eqvAll, Bool.and_eq_true, eqv_pld x y h1.1 h2.1, eqv_pldAll a b h1.2 h2.2, List.cons.injEq]
end
mutual
theorem can_pld : ∀ a : PyData, pld a = true → PyData.canLay0 a = true
  | .none, _ => by simp [PyData.canLay0]
  | .int _, _ => by simp [PyData.canLay0]
  | .str x, h => by unfold pld at h; exact h
  | .list x, h => by
    unfold pld at h
    rw [PyData.canLay0]
    exact can_pldAll x h
  | .tuple x, h => by
    unfold pld at h
    rw [PyData.canLay0]
    exact can_pldAll x h
  | .bool _, h => by simp [pld] at h
  | .dict _, h => by simp [pld] at h
theorem can_pldAll : ∀ a : List PyData, pldAll a = true → PyData.canLayAll0 a = true
  | [], _ => by simp [PyData.canLayAll0]
  | x :: a, h => by
    unfold pldAll at h
    rw [Bool.and_eq_true] at h
    rw [PyData.canLayAll0, can_pld x h.1, can_pldAll a h.2]
    rfl
end
mutual
theorem dep_okD : ∀ (n : Nat) (a : PyData), okD n a = true → PyData.depth a ≤ n
  | _, .none, _ => by simp [PyData.depth]
  | _, .int _, _ => by simp [PyData.depth]
  | _, .str _, _ => by simp [PyData.depth]
  | _, .bool _, _ => by simp [PyData.depth]
  | 0, .list _, h => by simp [okD] at h
  | 0, .tuple _, h => by simp [okD] at h
  | n + 1, .list x, h => by
    unfold okD at h
    rw [Bool.and_eq_true] at h
    rw [PyData.depth]
    have := dep_okDs n x h.2
    omega
  | n + 1, .tuple x, h => by
    unfold okD at h
    rw [Bool.and_eq_true] at h
    rw [PyData.depth]
    have := dep_okDs n x h.2
    omega
  | 0, .dict _, h => by simp [okD] at h
  | n + 1, .dict _, h => by simp [okD] at h
theorem dep_okDs : ∀ (n : Nat) (a : List PyData), okDs n a = true → PyData.depthAll a ≤ n
  | _, [], _ => by simp [PyData.depthAll]
  | n, x :: a, h => by
    unfold okDs at h
    rw [Bool.and_eq_true] at h
    rw [PyData.depthAll]
    have h1 := dep_okD n x h.1
    have h2 := dep_okDs n a h.2
    omega
end
theorem shaped_of {a : PyData} {n : Nat} (h : pld a = true) (o : okD n a = true) (hn : n ≤ 64) : SeqAt.shaped a = true := by
  unfold SeqAt.shaped
  rw [can_pld a h, decide_eq_true (Nat.le_trans (dep_okD n a o) hn)]
  rfl
open Classical in
theorem ne_go {K : PySem.W.Frag} {H : Hp} {x y : V} {a b : PyData} {Q : VK} {n m : Nat} (h1 : Dp K H x a) (h2 : Dp K H y b) (p1 : pld a = true) (p2 : pld b = true) (o1 : okD n a = true) (o2 : okD m b = true) (hn : n ≤ 64) (hm : m ≤ 64) (q : Q (.bl (!decide (a = b))) H) : qNe K x y H Q := by
  unfold qNe
  refine ⟨a, b, h1, h2, shaped_of p1 o1 hn, shaped_of p2 o2 hm, ?_⟩
  have e : PyData.eqv a b = decide (a = b) := by
    rw [Bool.eq_iff_iff, eqv_pld a b p1 p2, decide_eq_true_iff]
  rw [e]
  exact q
open Classical in
theorem eq_go {K : PySem.W.Frag} {H : Hp} {x y : V} {a b : PyData} {Q : VK} {n m : Nat} (h1 : Dp K H x a) (h2 : Dp K H y b) (p1 : pld a = true) (p2 : pld b = true) (o1 : okD n a = true) (o2 : okD m b = true) (hn : n ≤ 64) (hm : m ≤ 64) (q : Q (.bl (decide (a = b))) H) : qEq K x y H Q := by
  unfold qEq
  refine ⟨a, b, h1, h2, shaped_of p1 o1 hn, shaped_of p2 o2 hm, ?_⟩
  have e : PyData.eqv a b = decide (a = b) := by
    rw [Bool.eq_iff_iff, eqv_pld a b p1 p2, decide_eq_true_iff]
  rw [e]
  exact q
section
open Classical
variable {K : PySem.W.Frag} {H : Hp} {x y : V} {a b : PyData} {Q : VK} {n m : Nat}
theorem ne_same (h1 : Dp K H x a) (h2 : Dp K H y a) (p : pld a = true) (o : okD n a = true) (hn : n ≤ 64) (q : Q (.bl false) H) : qNe K x y H Q :=
  ne_go h1 h2 p p o o hn hn (by rw [decide_eq_true rfl]; exact q)
theorem ne_diff (h1 : Dp K H x a) (h2 : Dp K H y b) (p1 : pld a = true) (p2 : pld b = true) (o1 : okD n a = true) (o2 : okD m b = true) (hn : n ≤ 64) (hm : m ≤ 64) (d : a ≠ b) (q : Q (.bl true) H) : qNe K x y H Q :=
  ne_go h1 h2 p1 p2 o1 o2 hn hm (by rw [decide_eq_false d]; exact q)
theorem eq_same (h1 : Dp K H x a) (h2 : Dp K H y a) (p : pld a = true) (o : okD n a = true) (hn : n ≤ 64) (q : Q (.bl true) H) : qEq K x y H Q :=
  eq_go h1 h2 p p o o hn hn (by rw [decide_eq_true rfl]; exact q)
theorem eq_diff (h1 : Dp K H x a) (h2 : Dp K H y b) (p1 : pld a = true) (p2 : pld b = true) (o1 : okD n a = true) (o2 : okD m b = true) (hn : n ≤ 64) (hm : m ≤ 64) (d : a ≠ b) (q : Q (.bl false) H) : qEq K x y H Q :=
  eq_go h1 h2 p1 p2 o1 o2 hn hm (by rw [decide_eq_false d]; exact q)
end
theorem pldAll_int : ∀ l : List Int, pldAll (l.map PyData.int) = true
  | [] => by unfold pldAll; rfl
  | i :: l => by
    rw [List.map_cons]
    unfold pldAll
    rw [pldAll_int l, Bool.and_true]
    unfold pld
    rfl
theorem map_int_inj {a b : List Int} (h : a.map PyData.int = b.map PyData.int) : a = b := by
  have := congrArg (List.map fun d => match d with | .int i => i | _ => (0 : Int)) h
  rwa [List.map_map, List.map_map, show ((fun d => match d with | .int i => i | _ => (0 : Int)) ∘ PyData.int) = id from rfl, List.map_id, List.map_id] at this
end Sv
set_option maxHeartbeats 4000000
namespace Sv
open PySem PySem.Spec PyProof.Rows L2
/-- the digits of a word -/
def digW (m : Bool) (a : List Nat) : List Nat := if m = true ∧ a.take 1 = [45] then a.drop 1 else a
/-- the number of a word, as the law reads it -/
def intO (m : Bool) (a : List Nat) : Option Int := if isNum (digW m a) = true then (if digW m a = a then some ((NumText.digitsVal (digW m a) : Nat) : Int) else if digW m a = [48] then none else some (0 - ((NumText.digitsVal (digW m a) : Nat) : Int))) else none
/-- codes that a text may hold -/
def Cod (a : List Nat) : Prop := ∀ c ∈ a, c < 1114112
theorem Cod.drop {a : List Nat} (h : Cod a) (n : Nat) : Cod (a.drop n) := fun c hc => h c (List.mem_of_mem_drop hc)
theorem digW_cod {m : Bool} {a : List Nat} (h : Cod a) : Cod (digW m a) := by
  unfold digW
  split
  · exact h.drop 1
  · exact h
theorem digW_len {m : Bool} {a : List Nat} : (digW m a).length ≤ a.length := by
  unfold digW
  split
  · rw [List.length_drop]
    omega
  · exact Nat.le_refl _
def dS (a : List Nat) : PyData := .str (SX.S a)
theorem pld_S {a : List Nat} (h : Cod a) : pld (dS a) = true := by
  unfold pld dS
  simp only [PyData.canLay0, PyData.strOk]
  rw [Array.all_eq_true']
  intro c hc
  have : c ∈ a := by simpa using hc
  exact decide_eq_true (h c this)
theorem pldAll_S : ∀ {l : List (List Nat)}, (∀ a ∈ l, Cod a) → pldAll (l.map dS) = true
  | [], _ => by unfold pldAll; rfl
  | a :: l, h => by
    rw [List.map_cons]
    unfold pldAll
    rw [pld_S (h a (List.mem_cons_self ..)), pldAll_S fun x hx => h x (List.mem_cons_of_mem _ hx)]
    rfl
theorem okDs_S (n : Nat) : ∀ l : List (List Nat), okDs n (l.map dS) = true
  | [] => by unfold okDs; rfl
  | a :: l => by
    rw [List.map_cons]
    unfold okDs
    rw [okDs_S n l, Bool.and_true]
    cases n <;> rfl
theorem dpAll_S {K : PySem.W.Frag} {H : Hp} : ∀ l : List (List Nat), DpAll K H (l.map fun a => V.str (SX.S a)) (l.map dS)
  | [] => .nil
  | a :: l => .cons (.str (SX.S a)) (dpAll_S l)
/-- a list of texts is not the empty list -/
theorem neS_go {K : PySem.W.Frag} {H : Hp} {D z : Addr} {l : List (List Nat)} {Q : VK} (h : H D = some (.lst (l.map fun a => V.str (SX.S a)))) (hz : H z = some (.lst [])) (hc : ∀ a ∈ l, Cod a) (hl : l.length ≤ 1000) (q : Q (.bl (!decide (l = []))) H) : qNe K (.ref D) (.ref z) H Q := by
  have d1 : Dp K H (.ref D) (.list (l.map dS)) := .lst (.inl (.inl h)) (dpAll_S l)
  have d2 : Dp K H (.ref z) (.list []) := .lst (.inl (.inl hz)) .nil
  have p1 : pld (.list (l.map dS)) = true := by unfold pld; exact pldAll_S hc
  have o1 : okD 1 (.list (l.map dS)) = true := okD_l (by rw [List.length_map]; exact hl) (okDs_S 0 l)
  cases l with
  | nil => exact ne_same d1 d2 p1 o1 (by decide) q
  | cons a l => exact ne_diff d1 d2 p1 (by unfold pld; rfl) o1 (m := 1) (by unfold okD; rfl) (by decide) (by decide) (fun z => nomatch z) q
theorem lt48 (c d : Nat) : decide (([c] : List Nat) < [d]) = decide (c < d) := by
  have : (([c] : List Nat) < [d]) ↔ c < d := by
    rw [List.cons_lt_cons_iff]
    exact ⟨fun h => h.elim id fun z => absurd z.2 (List.not_lt_nil _), .inl⟩
  exact decide_eq_decide.mpr this
theorem isNum_cases (d : List Nat) : isNum d = (!decide (d = []) && (d.all dig && !(decide (1 < d.length) && decide (d.head? = some 48)))) := by
  unfold isNum
  cases d with
  | nil => rfl
  | cons c t =>
    by_cases hc : c = 48
    · subst hc
      cases t with
      | nil => rfl
      | cons c2 t => simp
    · simp [hc]
theorem seq_ways2 {a b : TS} {D : Ends} {σ : L2.St} {H : Hp} {B : L2.St → Hp → Prop} (tail : ∀ σ' H', B σ' H' → b D σ' H') (main : (∀ σ' H', B σ' H' → b D σ' H') → tSeq a b D σ H) : tSeq a b D σ H := main tail
section
variable {P : Program} {w : World} {K : PySem.W.Frag} {mg : Str → Option Value} {base : Heap}
theorem scLi : FnScope ["_law_word", "_law_negative", "_law_digits", "_law_one"] ["_law_word", "_law_negative"] (defScope sInteger) := ⟨rfl, rfl, rfl, by decide +kernel, rfl, by decide +kernel, by decide +kernel⟩
def spLi : Sp := fun vs H Q _ => ∃ (a : List Nat) (m : Bool), vs = [.str (SX.S a), .bl m] ∧ a.length ≤ 640 ∧ Cod a ∧ ∀ H', Same H H' → Q (eV (intO m a)) H'
theorem ok_li (T : Bd P K mg) : FnOk P w K mg base CX0 1 T.aLInteger T.dLInteger ["_law_word", "_law_negative"] spLi := by
  refine T.LInteger.F.ok scLi (fun vs H Q E h => ?_) (fun cdv A outer s H vs Q E hr h => ?_)
  · obtain ⟨a, m, rfl, _⟩ := h
    rfl
  · obtain ⟨a, m, rfl, hl, hc, q⟩ := h
    refine ⟨_, pss_cons (ps_set (i := 2) scLi.nd rfl (Or.inl rfl) (pe_ifExp ((pw_and (pt_val (pv 1)) (pw_and1 (pt_cmpR op_eq (pe_slice C8.sl_txt (pv 0) po_none (po_some pe_int)) pe_str (nomark _)))).pt) (pe_slice C8.sl_txt (pv 0) (po_some pe_int) po_none) (pv 0)))
      (pss_cons (ps_if ((pw_or (pt_cmpR op_eq (pv 2) pe_str (nomark _)) (pw_or (pt_cmpR (op_neQ hr.units) (pe_lc (own := [("_law_one", 3)]) (g := gName 3) (tt := _) (te := tVar 3) rfl scLi.nd (pi_str (pv 2)) (blkOk_by (N := ["_law_word", "_law_negative", "_law_digits", "_law_one"]) (sc := defScope sInteger) (by decide +kernel)) (fun _ _ _ _ _ => pg_name (i := 3) scLi.nd rfl (Or.inl rfl)) (fun _ _ _ _ _ => pts_one (pt_not (pt_chain op_le_str op_le_str pe_str (pv 3) pe_str))) (fun _ _ _ _ _ => pv 3)) (pe_lst pa_nil) (nomark _)) (pw_or1 ((pw_and (pt_cmpR op_gt (pe_callB call_len_str (by rfl) T.bt.len b_len (pa_cons (pv 2) pa_nil)) (pe_int) (nomark _)) (pw_and1 (pt_cmpR op_eq (pe_ix ix_str (pv 2) pe_int (fun _ _ => rfl)) pe_str (nomark _)))).pt)))).pt) (pss_one (ps_ret (pe_non))) pss_nil)
      (pss_cons (ps_if (pt_cmpR op_ne (pv 2) (pv 0) (nomark _)) (pss_one (ps_ret (pe_ifExp (pt_cmpR op_eq (pv 2) pe_str (nomark _)) (pe_non) (pe_op op_sub (pe_int) (pe_callTy call_int_str (by rfl) T.bt.int b_int (pa_cons (pv 2) pa_nil)))))) pss_nil)
      (pss_one (ps_ret (pe_callTy call_int_str (by rfl) T.bt.int b_int (pa_cons (pv 2) pa_nil)))))), ?_⟩
    have e45 : (V.str (SX.S (a.take 1)) = V.str "-") ↔ a.take 1 = [45] := ⟨fun z => SX.S_inj (b := [45]) (V.str.inj z), fun z => by rw [z]; rfl⟩
    have z640 : 640 < sizeLine := Nat.lt_of_lt_of_le (by decide) (Nat.le_of_lt (small1000 (Nat.le_refl 1000)))
    have za : (SX.S a).length ≤ sizeLine := by rw [SX.S_len]; omega
    have st1 : Txt.slice (SX.S a) none (some 1) = SX.S (a.take 1) := SX.slice_to (by decide)
    have sf1 : Txt.slice (SX.S a) (some 1) none = SX.S (a.drop 1) := SX.slice_from (by decide)
    -- behind the first row
    have hdl : (digW m a).length ≤ 640 := Nat.le_trans digW_len hl
    have hdc := digW_cod (m := m) hc
    refine seq_ways2 (B := fun σ' H' => σ' = [some (.str (SX.S a)), some (.bl m), some (.str (SX.S (digW m a))), none] ∧ H' = H) (fun σ' H' ⟨eσ, eH⟩ => ?_) (fun tail => ?_)
    rotate_left
    · refine ⟨.bl m, rfl, m, rfl, ?_⟩
      cases m with
      | false => exact iteF ⟨.str (SX.S a), rfl, tail _ _ ⟨rfl, rfl⟩⟩
      | true =>
        refine iteT ⟨.str (SX.S a), rfl, 1, rfl, SX.S a, rfl, za, ?_⟩
        rw [st1]
        refine ⟨rfl, _, rfl, ite2 (fun z => ?_) (fun z => ?_)⟩
        · have h45 := e45.mp (of_decide_eq_true z)
          refine ⟨.str (SX.S a), rfl, 1, rfl, SX.S a, rfl, za, tail _ _ ⟨?_, rfl⟩⟩
          rw [sf1, show digW true a = a.drop 1 from if_pos ⟨rfl, h45⟩]
          rfl
        · refine ⟨.str (SX.S a), rfl, tail _ _ ⟨?_, rfl⟩⟩
          rw [show digW true a = a from if_neg fun y => z (decide_eq_true (e45.mpr y.2))]
          rfl
    subst eσ
    subst eH
    rename Hp => H0
    have hi : intO m a = if isNum (digW m a) = true then (if digW m a = a then some ((NumText.digitsVal (digW m a) : Nat) : Int) else if digW m a = [48] then none else some (0 - ((NumText.digitsVal (digW m a) : Nat) : Int))) else none := rfl
    generalize digW m a = d at hdl hdc hi ⊢
    have zd : (SX.S d).length ≤ sizeLine := by rw [SX.S_len]; omega
    have e0 : (V.str (SX.S d) = V.str "") ↔ d = [] := ⟨fun z => SX.S_inj (b := []) (V.str.inj z), fun z => by rw [z]; rfl⟩
    have eda : (V.str (SX.S d) = V.str (SX.S a)) ↔ d = a := ⟨fun z => SX.S_inj (V.str.inj z), fun z => by rw [z]⟩
    have e48 : (V.str (SX.S d) = V.str "0") ↔ d = [48] := ⟨fun z => SX.S_inj (b := [48]) (V.str.inj z), fun z => by rw [z]; rfl⟩
    have hn := isNum_cases d
    -- the rest, where the word is a number
    refine seq_ways2 (B := fun σ' H' => σ' = [some (.str (SX.S a)), some (.bl m), some (.str (SX.S d)), none] ∧ Same H0 H' ∧ isNum d = true) (fun σ' H' ⟨eσ, sm, hnum⟩ => ?_) (fun tail => ?_)
    · subst eσ
      obtain ⟨hd, hne⟩ := isNum_dig hnum
      have hint := SX.int_S hd hne (by omega)
      have z640' : (SX.S d).length ≤ 640 := by rw [SX.S_len]; exact hdl
      refine ⟨.str (SX.S d), rfl, .str (SX.S a), rfl, rfl, _, rfl, ?_⟩
      rw [if_pos hnum] at hi
      by_cases hda : d = a
      · rw [if_pos hda] at hi
        refine ite2 (fun z => by rw [decide_eq_true (eda.mpr hda)] at z; cases z) (fun _ => ⟨.str (SX.S d), rfl, _, _, rfl, hint, z640', ?_⟩)
        have := q _ sm
        rw [hi] at this
        exact this
      · rw [if_neg hda] at hi
        refine ite2 (fun _ => ⟨.str (SX.S d), rfl, rfl, _, rfl, ?_⟩) (fun z => absurd (by rw [decide_eq_false (fun y => hda (eda.mp y))]; rfl) z)
        have := q _ sm
        by_cases h0 : d = [48]
        · rw [if_pos h0] at hi
          rw [hi] at this
          exact ite2 (fun _ => this) (fun z => absurd (decide_eq_true (e48.mpr h0)) z)
        · rw [if_neg h0] at hi
          rw [hi] at this
          exact ite2 (fun z => absurd (e48.mp (of_decide_eq_true z)) h0) (fun _ => ⟨.str (SX.S d), rfl, _, _, rfl, hint, z640', 0, _, rfl, rfl, this⟩)
    · -- the test
      have bad : isNum d = false → ∀ H', Same H0 H' → Q .non H' := fun hb H' sm => by
        have := q H' sm
        rw [hi, if_neg (by rw [hb]; decide)] at this
        exact this
      refine ⟨.str (SX.S d), rfl, rfl, _, rfl, ?_⟩
      by_cases hd0 : d = []
      · refine ite2 (fun _ => bad (by rw [hd0]; rfl) _ (Same.refl _)) (fun z => absurd (decide_eq_true (e0.mpr hd0)) z)
      refine ite2 (fun z => absurd (e0.mp (of_decide_eq_true z)) hd0) (fun _ => ?_)
      refine ⟨.str (SX.S d), rfl, SX.S d, rfl, fun D hD => lc_it (walk_str (z := SX.S d)) (fun i G => Same H0 G ∧ G D = some (.lst ((((d.take i).filter fun c => !dig c).map fun c => [c]).map fun a => V.str (SX.S a)))) ⟨same_upd hD, upd_same⟩ (fun _ _ _ _ => trivial) (fun i x G G2 hi2 ⟨sm, kD⟩ hY => ?_) (fun G ⟨sm, kD⟩ => ?_)⟩
      · obtain ⟨rfl, c, hcc, rfl⟩ := hY
        have hc2 : d[i]? = some c := by simpa using hcc
        refine ⟨rfl, ?_⟩
        refine ⟨.str ⟨#[c]⟩, rfl, "0", ⟨#[c]⟩, rfl, rfl, _, rfl, ?_⟩
        have c1 : (!decide ((([c] : List Nat)) < [48])) = decide (48 ≤ c) := by
          rw [lt48, Bool.eq_iff_iff]
          simp
        have c2 : (!decide ((([57] : List Nat)) < [c])) = decide (c ≤ 57) := by
          rw [lt48, Bool.eq_iff_iff]
          simp
        have ilt := (List.getElem?_eq_some_iff.mp hc2).1
        have dg : dig c = (decide (48 ≤ c) && decide (c ≤ 57)) := rfl
        have keep : dig c = true → Same H0 G2 ∧ G2 D = some (.lst ((((d.take (i + 1)).filter fun c => !dig c).map fun c => [c]).map fun a => V.str (SX.S a))) := fun y => by
          refine ⟨sm, ?_⟩
          rw [List.take_add_one, hc2, List.filter_append]
          show _ = some (HO.lst ((((d.take i).filter fun c => !dig c) ++ ([c].filter fun c => !dig c)).map _ |>.map _))
          rw [show ([c].filter fun c => !dig c) = [] by simp [y], List.append_nil]
          exact kD
        have put : dig c = false → (tVar 3 : TE) [some (.str (SX.S a)), some (.bl m), some (.str (SX.S d)), some (.str ⟨#[c]⟩)] G2 fun y H4 => ∃ acc, H4 D = some (.lst acc) ∧ acc.length < sizeLine ∧ (Same H0 (upd H4 D (.lst (acc ++ [y]))) ∧ (upd H4 D (.lst (acc ++ [y]))) D = some (.lst ((((d.take (i + 1)).filter fun c => !dig c).map fun c => [c]).map fun a => V.str (SX.S a)))) := fun y => by
          refine ⟨.str ⟨#[c]⟩, rfl, _, kD, ?_, same_of sm hD, ?_⟩
          · rw [List.length_map, List.length_map]
            have h1 := List.length_filter_le (fun c => !dig c) (d.take i)
            rw [List.length_take] at h1
            exact small1000 (by omega)
          · rw [upd_same, List.take_add_one, hc2, List.filter_append]
            show _ = some (HO.lst ((((d.take i).filter fun c => !dig c) ++ ([c].filter fun c => !dig c)).map _ |>.map _))
            rw [show ([c].filter fun c => !dig c) = [c] by simp [y], List.map_append, List.map_append]
            rfl
        by_cases h1 : 48 ≤ c
        · refine ite2 (fun _ => ?_) (fun z => absurd (c1.trans (decide_eq_true h1)) z)
          refine ⟨⟨#[c]⟩, "9", rfl, rfl, _, rfl, ?_⟩
          by_cases h2 : c ≤ 57
          · have y : dig c = true := by rw [dg, decide_eq_true h1, decide_eq_true h2]; rfl
            have k1 : (!decide (("9" : Str).cps.toList < (⟨#[c]⟩ : Str).cps.toList)) = true := c2.trans (decide_eq_true h2)
            rw [k1]
            exact keep y
          · have y : dig c = false := by rw [dg, decide_eq_true h1, decide_eq_false h2]; rfl
            have k1 : (!decide (("9" : Str).cps.toList < (⟨#[c]⟩ : Str).cps.toList)) = false := c2.trans (decide_eq_false h2)
            rw [k1]
            exact put y
        · have y : dig c = false := by rw [dg, decide_eq_false h1]; rfl
          refine ite2 (fun z => absurd (of_decide_eq_true (c1.symm.trans z)) h1) (fun z => ⟨false, rfl, put y⟩)
      · have sz : (SX.S d).cps.size = d.length := by simp
        rw [sz, List.take_length] at kD
        refine ⟨Nat.zero_le _, fun z hz => ?_⟩
        have sm2 := same_of (o := .lst []) sm (Same.free sm hz)
        refine neS_go (l := (d.filter fun c => !dig c).map fun c => [c]) (by rw [upd_ne (ne_of_none kD hz)]; exact kD) upd_same (fun b hb => ?_) ?_ ⟨_, rfl, ?_⟩
        · obtain ⟨c, hc3, rfl⟩ := List.mem_map.mp hb
          intro c' hc'
          rw [List.mem_singleton.mp hc']
          exact hdc c (List.mem_filter.mp hc3).1
        · rw [List.length_map]
          have h1 := List.length_filter_le (fun c => !dig c) d
          omega
        · generalize upd G z (.lst []) = G3 at sm2 ⊢
          have ef : ((d.filter fun c => !dig c).map fun c => [c]) = [] ↔ d.all dig = true := by
            rw [List.map_eq_nil_iff, List.filter_eq_nil_iff, List.all_eq_true]
            simp
          by_cases ha : d.all dig = true
          · refine ite2 (fun z => by rw [decide_eq_true (ef.mpr ha)] at z; cases z) (fun _ => ?_)
            refine ⟨.str (SX.S d), rfl, SX.S d, rfl, zd, _, _, rfl, rfl, _, rfl, ?_⟩
            rw [SX.S_len]
            obtain ⟨c, t, rfl⟩ : ∃ c t, d = c :: t := by
              cases d with
              | nil => exact absurd rfl hd0
              | cons c t => exact ⟨c, t, rfl⟩
            by_cases hlen : 1 < (c :: t).length
            · rw [decide_eq_true (show (1 : Int) < ((c :: t).length : Nat) by omega)]
              refine iteT ⟨.str (SX.S (c :: t)), rfl, SX.S (c :: t), 0, c, rfl, rfl, zd, atI_nat (j := 0) (by simp), rfl, _, rfl, ?_⟩
              have ec : (V.str ⟨#[c]⟩ = V.str "0") ↔ c = 48 := ⟨fun z => by have := SX.S_inj (a := [c]) (b := [48]) (V.str.inj z); exact List.head_eq_of_cons_eq this, fun z => by rw [z]; rfl⟩
              by_cases h0 : c = 48
              · refine ite2 (fun _ => bad ?_ _ sm2) (fun z => absurd (decide_eq_true (ec.mpr h0)) z)
                rw [hn, decide_eq_true hlen, h0]
                simp
              · refine ite2 (fun z => absurd (ec.mp (of_decide_eq_true z)) h0) (fun _ => tail _ _ ⟨rfl, sm2, ?_⟩)
                rw [hn, ha]
                simp [h0]
            · rw [decide_eq_false (show ¬ (1 : Int) < ((c :: t).length : Nat) by omega)]
              refine iteF (tail _ _ ⟨rfl, sm2, ?_⟩)
              rw [hn, ha, decide_eq_false hlen]
              simp
          · refine ite2 (fun _ => bad ?_ _ sm2) (fun z => absurd (by rw [decide_eq_false (fun y => ha (ef.mp y))]; rfl) z)
            rw [hn, Bool.eq_false_iff.mpr ha]
            simp
end
end Sv
set_option maxHeartbeats 4000000
namespace Sv
open PySem PySem.Spec PyProof.Rows L2
def rLenS (K : PySem.W.Frag) (xs : List V) (H : Hp) (Q : VK) : Prop := ∃ p ys, xs = [V.ref p] ∧ (SqL K H p ys ∨ SqT K H p ys) ∧ Q (V.int (ys.length : Nat)) H
/-- what a word says in the law's reading -/
def itemF (m : Bool) (a : List Nat) : Option (Option Int) := if m = true ∧ a = restS then some none else (intO false a).map some
def itemsF (m : Bool) : List (List Nat) → Option Ro
  | [] => some []
  | a :: r => match itemF m a, itemsF m r with
    | some e, some es => some (e :: es)
    | _, _ => none
def lineF (w : List Nat) (m : Bool) (a : List Nat) : Option Ro := match TL.spl [32] 0 [] a with
  | [] => none
  | x :: ps => if x = w then itemsF m ps else none
def kwF (k : Nat) : List Nat := if k = 0 then szW else rtW
def rowsF (L : List (List Nat)) : Nat → Except Nat (List Ro)
  | 0 => .ok []
  | n + 1 => match rowsF L n with
    | .error j => .error j
    | .ok rs => match L[n]?.bind (lineF (kwF n) (decide (n ≠ 0))) with
      | none => .error n
      | some r => .ok (rs ++ [r])
def zsOf (z : Ro) : List Int := z.map fun e => e.getD 0
def dText (i : Nat) : PyData := .tuple [.str "InvalidText", .int (i : Nat)]
def dBad (part : Str) (i : Int) : PyData := .tuple [.str "InvalidPlan", .str part, .int i]
def dPlan (z : Ro) (rs : List Ro) : PyData := .tuple [dR z, .tuple (rs.map dR)]
def dOf (z : Ro) (rs : List Ro) : PyData := match bad (zsOf z) rs with
  | some (part, i) => dBad part i
  | none => dPlan z rs
/-- what is to come of a text, in the law's reading -/
def planF (L : List (List Nat)) : PyData := match rowsF L L.length with
  | .error j => dText j
  | .ok [] => .none
  | .ok (z :: rs) => dOf z rs
theorem rowsF_err {L : List (List Nat)} {k j : Nat} (h : rowsF L k = .error j) : ∀ n, k ≤ n → rowsF L n = .error j
  | 0, hn => by
    obtain rfl : k = 0 := by omega
    exact h
  | n + 1, hn => by
    by_cases hk : k = n + 1
    · rw [← hk]
      exact h
    · show (match rowsF L n with
        | .error j => Except.error j
        | .ok rs => match L[n]?.bind (lineF (kwF n) (decide (n ≠ 0))) with
          | none => .error n
          | some r => .ok (rs ++ [r])) = _
      rw [rowsF_err h n (by omega)]
theorem rowsF_bad {L : List (List Nat)} {k n : Nat} {rs : List Ro} {a : List Nat} (h : rowsF L k = .ok rs) (ha : L[k]? = some a) (hb : lineF (kwF k) (decide (k ≠ 0)) a = none) (hk : k < n) : rowsF L n = .error k := by
  refine rowsF_err (k := k + 1) ?_ n hk
  show (match rowsF L k with
    | .error j => Except.error j
    | .ok rs => match L[k]?.bind (lineF (kwF k) (decide (k ≠ 0))) with
      | none => .error k
      | some r => .ok (rs ++ [r])) = _
  rw [h, ha]
  show (match lineF (kwF k) (decide (k ≠ 0)) a with
    | none => Except.error k
    | some r => .ok (rs ++ [r])) = _
  rw [hb]
theorem rowsF_snoc {L : List (List Nat)} {k : Nat} {rs : List Ro} {a : List Nat} {r : Ro} (h : rowsF L k = .ok rs) (ha : L[k]? = some a) (hb : lineF (kwF k) (decide (k ≠ 0)) a = some r) : rowsF L (k + 1) = .ok (rs ++ [r]) := by
  show (match rowsF L k with
    | .error j => Except.error j
    | .ok rs => match L[k]?.bind (lineF (kwF k) (decide (k ≠ 0))) with
      | none => .error k
      | some r => .ok (rs ++ [r])) = _
  rw [h, ha]
  show (match lineF (kwF k) (decide (k ≠ 0)) a with
    | none => Except.error k
    | some r => .ok (rs ++ [r])) = _
  rw [hb]
theorem itemsF_none {m : Bool} : ∀ {l : List (List Nat)}, itemsF m l = none ↔ ∃ a ∈ l, itemF m a = none
  | [] => ⟨fun h => (nomatch h), fun ⟨a, ha, _⟩ => (List.not_mem_nil ha).elim⟩
  | a :: r => by
    have ih := itemsF_none (m := m) (l := r)
    unfold itemsF
    cases e1 : itemF m a with
    | none => exact ⟨fun _ => ⟨a, List.mem_cons_self .., e1⟩, fun _ => rfl⟩
    | some e =>
      cases e2 : itemsF m r with
      | none =>
        obtain ⟨b, hb, hb2⟩ := ih.mp e2
        exact ⟨fun _ => ⟨b, List.mem_cons_of_mem _ hb, hb2⟩, fun _ => rfl⟩
      | some es =>
        refine ⟨fun h => (nomatch h), fun ⟨b, hb, hb2⟩ => ?_⟩
        rcases List.mem_cons.mp hb with rfl | hb
        · rw [e1] at hb2
          cases hb2
        · rw [ih.mpr ⟨b, hb, hb2⟩] at e2
          cases e2
theorem itemsF_map {m : Bool} : ∀ {l : List (List Nat)} {es : Ro}, itemsF m l = some es → l.map (itemF m) = es.map some
  | [], es, h => by
    obtain rfl := Option.some.inj h
    rfl
  | a :: r, es, h => by
    unfold itemsF at h
    cases e1 : itemF m a with
    | none => rw [e1] at h; cases h
    | some e =>
      rw [e1] at h
      cases e2 : itemsF m r with
      | none => rw [e2] at h; cases h
      | some es2 =>
        rw [e2] at h
        obtain rfl := Option.some.inj h
        rw [List.map_cons, List.map_cons, e1, itemsF_map e2]
/-- what the law asks of a word at all -/
def askF (m : Bool) (a : List Nat) : Bool := !(m && decide (a = restS))
def entF (m : Bool) (l : List (List Nat)) : List V := (l.filter (askF m)).map fun a => eV (intO false a)
theorem entF_in {m : Bool} {l : List (List Nat)} : inV .non (entF m l) = decide (itemsF m l = none) := by
  rw [Bool.eq_iff_iff, decide_eq_true_iff, itemsF_none]
  unfold inV entF
  rw [List.any_eq_true]
  have key : ∀ a, (askF m a = true ∧ eqV (eV (intO false a)) .non = true) ↔ itemF m a = none := fun a => by
    unfold askF itemF
    by_cases hr : m = true ∧ a = restS
    · rw [if_pos hr, hr.1, decide_eq_true hr.2]
      exact ⟨fun z => (nomatch z.1), fun z => (nomatch z)⟩
    · rw [if_neg hr]
      have : (!(m && decide (a = restS))) = true := by
        cases m with
        | false => rfl
        | true => rw [decide_eq_false fun z => hr ⟨rfl, z⟩]; rfl
      rw [this]
      cases e : intO false a with
      | none => exact ⟨fun _ => rfl, fun _ => ⟨rfl, rfl⟩⟩
      | some i => exact ⟨fun z => (nomatch z.2), fun z => (nomatch z)⟩
  constructor
  · rintro ⟨v, hv, he⟩
    obtain ⟨a, ha, rfl⟩ := List.mem_map.mp hv
    obtain ⟨h1, h2⟩ := List.mem_filter.mp ha
    exact ⟨a, h1, (key a).mp ⟨h2, he⟩⟩
  · rintro ⟨a, ha, hn⟩
    obtain ⟨h1, h2⟩ := (key a).mpr hn
    exact ⟨_, List.mem_map.mpr ⟨a, List.mem_filter.mpr ⟨ha, h1⟩, rfl⟩, h2⟩
theorem entF_flat {m : Bool} {l : List (List Nat)} : (entF m l).all flatV = true := by
  rw [List.all_eq_true]
  intro v hv
  obtain ⟨a, _, rfl⟩ := List.mem_map.mp hv
  cases intO false a <;> rfl
theorem intO_num {a : List Nat} : intO false a = if isNum a = true then some ((NumText.digitsVal a : Nat) : Int) else none := by
  have e : digW false a = a := if_neg fun z => nomatch z.1
  unfold intO
  rw [e, if_pos rfl]
/-- what a word that is read says -/
theorem itemF_some {m : Bool} {a : List Nat} {e : Option Int} (h : itemF m a = some e) : (a = restS ∧ e = none) ∨ (a ≠ restS ∧ isNum a = true ∧ e = some ((NumText.digitsVal a : Nat) : Int)) := by
  unfold itemF at h
  by_cases hr : m = true ∧ a = restS
  · rw [if_pos hr] at h
    exact .inl ⟨hr.2, (Option.some.inj h).symm⟩
  · rw [if_neg hr, intO_num] at h
    by_cases hn : isNum a = true
    · rw [if_pos hn] at h
      refine .inr ⟨fun z => ?_, hn, (Option.some.inj h).symm⟩
      rw [z] at hn
      cases hn
    · rw [if_neg hn] at h
      cases h
theorem spl_cod (s : Nat) : ∀ (l acc : List Nat), Cod acc → Cod l → ∀ p ∈ TL.spl [s] 0 acc l, Cod p
  | [], acc, ha, _ => by
    rw [TL.spl_nil]
    intro p hp
    rw [List.mem_singleton.mp hp]
    exact ha
  | c :: r, acc, ha, hl => by
    have hr : Cod r := fun x hx => hl x (List.mem_cons_of_mem _ hx)
    cases h : TL.pre [s] (c :: r) with
    | true =>
      rw [TL.spl_hit h]
      intro p hp
      rcases List.mem_cons.mp hp with rfl | hp
      · exact ha
      · exact spl_cod s r [] (fun x hx => (List.not_mem_nil hx).elim) hr p hp
    | false =>
      rw [TL.spl_miss h]
      refine spl_cod s r (acc ++ [c]) (fun x hx => ?_) hr
      rcases List.mem_append.mp hx with hx | hx
      · exact ha x hx
      · rw [List.mem_singleton.mp hx]
        exact hl c (List.mem_cons_self ..)
theorem rowsF_at {L : List (List Nat)} : ∀ {k : Nat} {rs : List Ro}, rowsF L k = .ok rs → rs.length = k ∧ ∀ j r, rs[j]? = some r → L[j]?.bind (lineF (kwF j) (decide (j ≠ 0))) = some r
  | 0, rs, h => by
    have h2 : Except.ok [] = (Except.ok rs : Except Nat (List Ro)) := h
    injection h2 with h3
    rw [← h3]
    exact ⟨rfl, fun j r e => by simp at e⟩
  | k + 1, rs, h => by
    cases e1 : rowsF L k with
    | error j =>
      rw [rowsF_err e1 (k + 1) (Nat.le_succ k)] at h
      cases h
    | ok rs1 =>
      obtain ⟨i1, i2⟩ := rowsF_at e1
      have h2 : (match rowsF L k with
        | .error j => Except.error j
        | .ok rs => match L[k]?.bind (lineF (kwF k) (decide (k ≠ 0))) with
          | none => .error k
          | some r => .ok (rs ++ [r])) = Except.ok rs := h
      rw [e1] at h2
      replace h2 : (match L[k]?.bind (lineF (kwF k) (decide (k ≠ 0))) with
          | none => Except.error k
          | some r => .ok (rs1 ++ [r])) = Except.ok rs := h2
      cases e2 : L[k]?.bind (lineF (kwF k) (decide (k ≠ 0))) with
      | none => rw [e2] at h2; cases h2
      | some r =>
        rw [e2] at h2
        replace h2 : (Except.ok (rs1 ++ [r]) : Except Nat (List Ro)) = Except.ok rs := h2
        injection h2 with h3
        rw [← h3]
        refine ⟨by rw [List.length_append, i1]; rfl, fun j r' e => ?_⟩
        by_cases hj : j < k
        · rw [List.getElem?_append_left (by omega)] at e
          exact i2 j r' e
        · rw [List.getElem?_append_right (by omega), i1] at e
          have hjk : j = k := by
            have := (List.getElem?_eq_some_iff.mp e).1
            rw [List.length_singleton] at this
            omega
          rw [hjk, Nat.sub_self] at e
          rw [hjk, e2]
          exact e
/-- no entry below nought; on the first row none is missing -/
def PosR (r : Ro) : Prop := ∀ i, some i ∈ r → 0 ≤ i
theorem itemsF_pos {m : Bool} {l : List (List Nat)} {es : Ro} (h : itemsF m l = some es) : PosR es ∧ (m = false → ∀ e ∈ es, e ≠ none) := by
  have hm := itemsF_map h
  have key : ∀ e ∈ es, ∃ a, itemF m a = some e := fun e he => by
    have : some e ∈ l.map (itemF m) := by rw [hm]; exact List.mem_map.mpr ⟨e, he, rfl⟩
    obtain ⟨a, _, ha⟩ := List.mem_map.mp this
    exact ⟨a, ha⟩
  refine ⟨fun i hi => ?_, fun m0 e he z => ?_⟩
  · obtain ⟨a, ha⟩ := key _ hi
    rcases itemF_some ha with ⟨_, h2⟩ | ⟨_, _, h3⟩
    · cases h2
    · have := Option.some.inj h3
      omega
  · obtain ⟨a, ha⟩ := key e he
    subst z
    rcases itemF_some ha with ⟨h1, _⟩ | ⟨_, _, h3⟩
    · subst m0
      unfold itemF at ha
      rw [if_neg (fun z => nomatch z.1), h1] at ha
      cases ha
    · cases h3
theorem rowsF_pos {L : List (List Nat)} {k j : Nat} {rs : List Ro} {r : Ro} (h : rowsF L k = .ok rs) (hj : rs[j]? = some r) : PosR r ∧ (j = 0 → ∀ e ∈ r, e ≠ none) := by
  have := (rowsF_at h).2 j r hj
  cases e : L[j]? with
  | none => rw [e] at this; cases this
  | some l =>
    rw [e] at this
    replace this : lineF (kwF j) (decide (j ≠ 0)) l = some r := this
    unfold lineF at this
    cases e1 : TL.spl [32] 0 [] l with
    | nil => rw [e1] at this; cases this
    | cons x ps =>
      rw [e1] at this
      replace this : (if x = kwF j then itemsF (decide (j ≠ 0)) ps else none) = some r := this
      by_cases hx : x = kwF j
      · rw [if_pos hx] at this
        obtain ⟨h1, h2⟩ := itemsF_pos this
        exact ⟨h1, fun j0 => h2 (by rw [j0]; rfl)⟩
      · rw [if_neg hx] at this
        cases this
theorem ints_of : ∀ {r : Ro}, (∀ e ∈ r, e ≠ none) → ∃ zs : List Int, r = zs.map some
  | [], _ => ⟨[], rfl⟩
  | none :: r, h => absurd rfl (h none (List.mem_cons_self ..))
  | some i :: r, h => by
    obtain ⟨zs, hz⟩ := ints_of (r := r) fun e he => h e (List.mem_cons_of_mem _ he)
    exact ⟨i :: zs, by rw [hz]; rfl⟩
theorem zsOf_map (zs : List Int) : zsOf (zs.map some) = zs := by
  unfold zsOf
  rw [List.map_map]
  exact List.map_id zs
/-- the sizes that are too large -/
def wrN (zs : List Int) (n : Nat) : List Nat := (List.range n).filter fun j => decide (9 < zs.getD j 0)
theorem wrN_snoc {zs : List Int} {n : Nat} {z : Int} (h : zs[n]? = some z) : wrN zs (n + 1) = wrN zs n ++ if 9 < z then [n] else [] := by
  unfold wrN
  rw [List.range_succ, List.filter_append]
  have e : zs.getD n 0 = z := by simp [h]
  congr 1
  by_cases hz : 9 < z
  · rw [if_pos hz]
    simp [h, hz]
  · rw [if_neg hz]
    simp [h, hz]
theorem wr_fst {zs : List Int} (h : ∀ z ∈ zs, 0 ≤ z) : fst okZ zs 0 = (wrN zs zs.length).head? := by
  unfold wrN
  rw [List.head?_filter]
  have ok : ∀ j z, zs[j]? = some z → okZ z = !decide (9 < zs.getD j 0) := fun j z hj => by
    have e : zs.getD j 0 = z := by simp [hj]
    have h0 := h z (List.mem_of_getElem? hj)
    rw [e]
    unfold okZ
    rw [Bool.eq_iff_iff]
    simp only [decide_eq_true_iff, Bool.not_eq_true', decide_eq_false_iff_not]
    omega
  cases e : (List.range zs.length).find? fun j => decide (9 < zs.getD j 0) with
  | none =>
    refine fst_none fun j z hj => ?_
    rw [ok j z hj]
    have := List.find?_eq_none.mp e j (List.mem_range.mpr (List.getElem?_eq_some_iff.mp hj).1)
    simpa using this
  | some k =>
    obtain ⟨p1, p2, p3⟩ := List.find?_range_eq_some.mp e
    have hk := List.mem_range.mp p2
    obtain ⟨z, hz⟩ : ∃ z, zs[k]? = some z := ⟨_, List.getElem?_eq_getElem hk⟩
    have := fst_some (p := okZ) (l := zs) (i := k) (k := 0) (x := z) (fun j y hj hy => by rw [ok j y hy]; exact p3 j hj) hz (by rw [ok k z hz, p1]; rfl)
    rw [this, Nat.add_zero]
/-- the entries that lie too far -/
def farE (n : Int) : Option Int → Option Int
  | some i => if n ≤ i then some i else none
  | none => none
def farN (n : Int) (r : Ro) : List Int := r.filterMap (farE n)
theorem okE_pos {n i : Int} (h : 0 ≤ i) : okE n (some i) = !decide (n ≤ i) := by
  show decide (0 ≤ i ∧ i ≤ n - 1) = _
  rw [Bool.eq_iff_iff]
  simp only [decide_eq_true_iff, Bool.not_eq_true', decide_eq_false_iff_not]
  omega
theorem far_okR {n : Int} {r : Ro} (h : PosR r) : okR n r = (decide (1 ≤ r.length ∧ r.length ≤ 6) && decide (farN n r = [])) := by
  unfold okR
  congr 1
  rw [Bool.eq_iff_iff, List.all_eq_true, decide_eq_true_iff]
  unfold farN
  rw [List.filterMap_eq_nil_iff]
  constructor
  · intro k e he
    cases e with
    | none => rfl
    | some i =>
      have := k _ he
      rw [okE_pos (h i he)] at this
      show (if n ≤ i then some i else none) = none
      rw [if_neg (by simpa using this)]
  · intro k e he
    cases e with
    | none => rfl
    | some i =>
      have : (if n ≤ i then some i else none) = none := k _ he
      rw [okE_pos (h i he)]
      by_cases hi : n ≤ i
      · rw [if_pos hi] at this
        cases this
      · rw [decide_eq_false hi]
        rfl
theorem farN_snoc {n : Int} {r : Ro} {j : Nat} {e : Option Int} (h : r[j]? = some e) : farN n (r.take (j + 1)) = farN n (r.take j) ++ (farE n e).toList := by
  unfold farN
  rw [List.take_add_one, h, List.filterMap_append]
  congr 1
/-- a list of numbers is not the empty list -/
theorem neI_go {K : PySem.W.Frag} {H : Hp} {D z : Addr} {l : List Int} {Q : VK} (h : H D = some (.lst (l.map V.int))) (hz : H z = some (.lst [])) (hl : l.length ≤ 1000) (q : Q (.bl (!decide (l = []))) H) : qNe K (.ref D) (.ref z) H Q := by
  have d1 : Dp K H (.ref D) (.list (l.map PyData.int)) := .lst (.inl (.inl h)) (dpAll_int l)
  have d2 : Dp K H (.ref z) (.list []) := .lst (.inl (.inl hz)) .nil
  have p1 : pld (.list (l.map PyData.int)) = true := by unfold pld; exact pldAll_int l
  have o1 : okD 1 (.list (l.map PyData.int)) = true := okD_l (by rw [List.length_map]; exact hl) (okDs_int 0 l)
  cases l with
  | nil => exact ne_same d1 d2 p1 o1 (by decide) q
  | cons a l => exact ne_diff d1 d2 p1 (by unfold pld; rfl) o1 (m := 1) (by unfold okD; rfl) (by decide) (by decide) (fun z => nomatch z) q
theorem dpAll_rows {K : PySem.W.Frag} {H : Hp} : ∀ {qs : List Addr} {rs : List Ro}, Paired (fun q r => SqT K H q (rV r)) qs rs → DpAll K H (qs.map V.ref) (rs.map dR)
  | [], [], .nil => .nil
  | q :: qs, r :: rs, .cons h t => .cons (dp_rV h) (dpAll_rows t)
theorem notChain {σ : L2.St} {H : Hp} {P : Bool → Hp → Prop} {tm : TE} {n m : Int} (hm : ∀ Q : VK, Q (.int n) H → tm σ H Q) (h3 : P (!decide (1 ≤ n ∧ n ≤ m)) H) :
    tNot (tTest (tChain (rI0 fun i j => V.bl (decide (i ≤ j))) (rI0 fun i j => V.bl (decide (i ≤ j))) (tC (.int 1)) tm (tC (.int m)))) σ H P := by
  refine hm _ ⟨1, n, rfl, rfl, _, rfl, ?_⟩
  by_cases h1 : 1 ≤ n
  · rw [decide_eq_true h1]
    refine iteT ⟨n, m, rfl, rfl, _, rfl, ?_⟩
    by_cases h2 : n ≤ m
    · rw [decide_eq_true h2]
      rw [decide_eq_true (⟨h1, h2⟩ : 1 ≤ n ∧ n ≤ m)] at h3
      exact h3
    · rw [decide_eq_false h2]
      rw [decide_eq_false fun z => h2 z.2] at h3
      exact h3
  · rw [decide_eq_false h1]
    rw [decide_eq_false fun z => h1 z.1] at h3
    exact iteF ⟨false, rfl, h3⟩
theorem gName_nx {i : Nat} {x : V} {σ : L2.St} {H : Hp} {f b c : L2.St → Hp → Prop} {r : VK} (h : f (σ.set i (some x)) H) : gName i x σ H (Ends.nx ⟨f, r, b, c⟩) := h
theorem seq_if {t : TT} {ts u b : TS} {D : Ends} {σ : L2.St} {H : Hp} (h : t σ H fun c H1 => if c = true then ts { D with nx := fun σ' H' => b D σ' H' } σ H1 else u { D with nx := fun σ' H' => b D σ' H' } σ H1) : tSeq (tIfS t ts u) b D σ H := h
theorem if_go {t : TT} {ts u : TS} {D : Ends} {σ : L2.St} {H : Hp} (h : t σ H fun c H1 => if c = true then ts D σ H1 else u D σ H1) : tIfS t ts u D σ H := h
theorem or_go {A B : TT} {P : Bool → Hp → Prop} {σ : L2.St} {H : Hp} (h : A σ H fun c H1 => if c = true then P true H1 else B σ H1 P) : tOr A B σ H P := h
theorem tif_go {t : TT} {a b : TE} {σ : L2.St} {H : Hp} {Q : VK} (h : t σ H fun c H1 => if c = true then a σ H1 Q else b σ H1 Q) : tIf t a b σ H Q := h
theorem ret3 {x y : V} {te : TE} {D : Ends} {σ : L2.St} {H : Hp} (h : te σ H fun v H1 => 3 ≤ sizeLine ∧ ∀ p, H1 p = none → D.rt (.ref p) (upd H1 p (.tup [x, y, v]))) : tRet (tTup (tCons (tC x) (tCons (tC y) (tCons te tNil)))) D σ H := h
theorem cut1 {xs : List V} : cutV xs (some 1) none = xs.drop 1 := cut_from (k := 1)
section
variable {P : Program} {w : World} {K : PySem.W.Frag} {mg : Str → Option Value} {base : Heap}
theorem scPo : FnScope ["_law_text", "_law_lines", "_law_rows", "_law_row", "_law_words", "_law_entries", "_law_sizes", "_law_routes", "_law_k", "_law_wrong", "_law_far", "_law_word", "_law_entry"] ["_law_text"] (defScope sPlanOf) := ⟨rfl, rfl, rfl, by decide +kernel, rfl, by decide +kernel, by decide +kernel⟩
def spPo (K : PySem.W.Frag) : Sp := fun vs H Q _ => ∃ (a : List Nat), vs = [.str (SX.S a)] ∧ a.length ≤ 900 ∧ (∀ l ∈ TL.spl [10] 0 [] a, l.length ≤ 640) ∧ Cod a ∧ ∀ H' p, Same H H' → Dp K H' (.ref p) (planF (TL.spl [10] 0 [] a)) → Q (.ref p) H'
theorem ok_po (T : Bd P K mg) : FnOk P w K mg base CX0 2 T.aLPlanOf T.dLPlanOf ["_law_text"] (spPo K) := by
  have GLI : FnOk P w K mg base CX0 1 T.aLInteger T.dLInteger ["_law_word", "_law_negative"] spLi := ok_li T
  refine T.LPlanOf.F.ok scPo (fun vs H Q E h => ?_) (fun cdv A outer s H vs Q E hr h => ?_)
  · obtain ⟨a, rfl, _⟩ := h
    rfl
  · obtain ⟨a, rfl, hl, hll, hc, q⟩ := h
    refine ⟨_, pss_cons (ps_par (i := 1) (j := 2) rfl scPo.nd rfl rfl (by decide) rfl rfl (pa_cons (pe_split (pv 0) pe_str) (pa_cons (pe_lst pa_nil) pa_nil)) (by rfl))
      (pss_cons (ps_for PassesOwn.never rfl (pi_range1 (by rfl) T.bt.range (pa_cons (pe_callB call_len_seq (by rfl) T.bt.len b_len (pa_cons (pv 1) pa_nil)) pa_nil)) (pg_name (i := 3) scPo.nd rfl (Or.inr rfl))
        (pss_cons (ps_set (i := 4) scPo.nd rfl (Or.inl rfl) (pe_split (pe_ix ix_list (pv 1) (pv 3) (fun _ _ => rfl)) pe_str))
      (pss_cons (ps_setLc (i := 5) (own := [("_law_word", 11)]) (g := gName 11) (tt := _) (te := tCall spLi [] E0 (tCons (tVar 11) (tCons (tC (.bl false)) tNil))) rfl scPo.nd rfl rfl (sw_true rfl rfl rfl (by decide +kernel)) (pi_list (pe_slice sl_list (pv 4) (po_some pe_int) po_none)) (blkOk_by (N := ["_law_text", "_law_lines", "_law_rows", "_law_row", "_law_words", "_law_entries", "_law_sizes", "_law_routes", "_law_k", "_law_wrong", "_law_far", "_law_word", "_law_entry"]) (sc := defScope sPlanOf) (by decide +kernel)) (fun _ _ _ _ _ => pg_name (i := 11) scPo.nd rfl (Or.inl rfl)) (fun _ _ _ _ _ => pts_one (PW.pt (pw_or (pt_cmpR op_eq (pv 3) pe_int (nomark _)) (pw_or1 (pt_cmpR op_ne (pv 11) (pe_str) (nomark _)))))) (fun _ _ _ _ _ => pe_call (E := E0) GLI (hr.mono (by decide)) (by rfl) T.LInteger.g T.LInteger.F.kp T.LInteger.b .nil pass0 (pa_cons (pv 11) (pa_cons (pe_bl) pa_nil))))
      (pss_cons (ps_if ((pw_or (pt_cmpR op_ne (pe_ix ix_list (pv 4) (pe_int) (fun _ _ => rfl)) (pe_ix ix_list (pe_lst (pa_cons (pe_str) (pa_cons (pe_str) pa_nil))) (pe_callTy call_int1 (by rfl) T.bt.int b_int (pa_cons (pe_cmpR op_eq (pv 3) pe_int (nomark _)) pa_nil)) (fun _ _ => rfl)) (nomark _)) (pw_or1 (pt_cmpR op_in_seq pe_non (pv 5) (by rfl)))).pt) (pss_one (ps_ret (pe_tup (pa_cons (pe_str) (pa_cons (pv 3) pa_nil))))) pss_nil)
      (pss_one (ps_expr (pe_bm PySem.F.plainAttrs_list PySem.F.slot_list_append PySem.F.type_list_append mt_append (pv 2) (pa_cons (pe_callTy call_tuple_of (by rfl) T.bt.tuple b_tuple (pa_cons (pe_lc (own := [("_law_word", 11)]) (g := gName 11) (tt := tYes) (te := _) rfl scPo.nd (pi_list (pe_slice sl_list (pv 4) (po_some pe_int) po_none)) (blkOk_by (N := ["_law_text", "_law_lines", "_law_rows", "_law_row", "_law_words", "_law_entries", "_law_sizes", "_law_routes", "_law_k", "_law_wrong", "_law_far", "_law_word", "_law_entry"]) (sc := defScope sPlanOf) (by decide +kernel)) (fun _ _ _ _ _ => pg_name (i := 11) scPo.nd rfl (Or.inl rfl)) (fun _ _ _ _ _ => pts_nil) (fun _ _ _ _ _ => pe_ifExp (pt_cmpR op_eq (pv 11) pe_str (nomark _)) (pe_non) (pe_callTy call_int_str (by rfl) T.bt.int b_int (pa_cons (pv 11) pa_nil)))) pa_nil)) pa_nil))))))))
      (pss_cons (ps_asg (pe_tup (pa_cons (pe_ix ix_list (pv 2) (pe_int) (fun _ _ => rfl)) (pa_cons (pe_callTy call_tuple_of (by rfl) T.bt.tuple b_tuple (pa_cons (pe_slice sl_list (pv 2) (po_some pe_int) po_none) pa_nil)) pa_nil))) (pg_tup rfl (pgs_cons (pg_name (i := 6) scPo.nd rfl (.inr rfl)) (pgs_cons (pg_name (i := 7) scPo.nd rfl (.inl rfl)) pgs_nil))))
      (pss_cons (ps_setLc (i := 9) (own := [("_law_k", 8)]) (g := gName 8) (tt := _) (te := tVar 8) rfl scPo.nd rfl rfl (sw_true rfl rfl rfl (by decide +kernel)) (pi_range1 (by rfl) T.bt.range (pa_cons (pe_callB call_len_seq (by rfl) T.bt.len b_len (pa_cons (pv 6) pa_nil)) pa_nil)) (blkOk_by (N := ["_law_text", "_law_lines", "_law_rows", "_law_row", "_law_words", "_law_entries", "_law_sizes", "_law_routes", "_law_k", "_law_wrong", "_law_far", "_law_word", "_law_entry"]) (sc := defScope sPlanOf) (by decide +kernel)) (fun _ _ _ _ _ => pg_name (i := 8) scPo.nd rfl (Or.inl rfl)) (fun _ _ _ _ _ => pts_one (pt_cmpR op_gt (pe_ix (r := rIxT K) ix_tup (pv 6) (pv 8) (fun _ _ => rfl)) (pe_int) (nomark _))) (fun _ _ _ _ _ => pv 8))
      (pss_cons (ps_if ((pw_or (pt_not (pt_chain op_le op_le pe_int (pe_callB call_len_seq (by rfl) T.bt.len b_len (pa_cons (pv 6) pa_nil)) pe_int)) (pw_or1 (pt_cmpR (op_neQ hr.units) (pv 9) (pe_lst pa_nil) (nomark _)))).pt) (pss_one (ps_ret (pe_tup (pa_cons (pe_str) (pa_cons (pe_str) (pa_cons (pe_ifExp (pt_not (pt_chain op_le op_le pe_int (pe_callB call_len_seq (by rfl) T.bt.len b_len (pa_cons (pv 6) pa_nil)) pe_int)) (pe_op op_sub (pe_int) (pe_int)) (pe_ix ix_list (pv 9) (pe_int) (fun _ _ => rfl))) pa_nil)))))) pss_nil)
      (pss_cons (ps_if (pt_not (pt_chain op_le op_le pe_int (pe_callB call_len_seq (by rfl) T.bt.len b_len (pa_cons (pv 7) pa_nil)) pe_int)) (pss_one (ps_ret (pe_tup (pa_cons (pe_str) (pa_cons (pe_str) (pa_cons (pe_op op_sub (pe_int) (pe_int)) pa_nil)))))) pss_nil)
      (pss_cons (ps_for PassesOwn.never rfl (pi_range1 (by rfl) T.bt.range (pa_cons (pe_callB call_len_seq (by rfl) T.bt.len b_len (pa_cons (pv 7) pa_nil)) pa_nil)) (pg_name (i := 8) scPo.nd rfl (Or.inl rfl))
        (pss_cons (ps_setLc (i := 10) (own := [("_law_entry", 12)]) (g := gName 12) (tt := _) (te := tVar 12) rfl scPo.nd rfl rfl (sw_true rfl rfl rfl (by decide +kernel)) (pi_tup (pe_ix ix_tup (pv 7) (pv 8) (fun _ _ => rfl))) (blkOk_by (N := ["_law_text", "_law_lines", "_law_rows", "_law_row", "_law_words", "_law_entries", "_law_sizes", "_law_routes", "_law_k", "_law_wrong", "_law_far", "_law_word", "_law_entry"]) (sc := defScope sPlanOf) (by decide +kernel)) (fun _ _ _ _ _ => pg_name (i := 12) scPo.nd rfl (Or.inl rfl)) (fun _ _ _ _ _ => pts_one (PW.pt (pw_and (pt_cmpR op_notN (pv 12) pe_non (nomark _)) (pw_and1 (pt_cmpR op_ge (pv 12) (pe_callB (r := rLenS K) call_len_seq (by rfl) T.bt.len b_len (pa_cons (pv 6) pa_nil)) (nomark _)))))) (fun _ _ _ _ _ => pv 12))
      (pss_one (ps_if ((pw_or (pt_not (pt_chain op_le op_le pe_int (pe_callB call_len_seq (by rfl) T.bt.len b_len (pa_cons (pe_ix ix_tup (pv 7) (pv 8) (fun _ _ => rfl)) pa_nil)) pe_int)) (pw_or1 (pt_cmpR (op_neQ hr.units) (pv 10) (pe_lst pa_nil) (nomark _)))).pt) (pss_one (ps_ret (pe_tup (pa_cons (pe_str) (pa_cons (pe_str) (pa_cons (pv 8) pa_nil)))))) pss_nil))))
      (pss_one (ps_ret (pe_tup (pa_cons (pv 6) (pa_cons (pv 7) pa_nil))))))))))), ?_⟩
    obtain ⟨n1, n2, n3⟩ := spl_props 10 a []
    have es : Txt.split (SX.S a) (SX.S [10]) = (TL.spl [10] 0 [] a).map SX.S := SX.split_S (by decide) (by decide)
    have cod : ∀ l ∈ TL.spl [10] 0 [] a, Cod l := spl_cod 10 a [] (fun x hx => (List.not_mem_nil hx).elim) hc
    generalize TL.spl [10] 0 [] a = L at n1 n2 n3 es hll cod q
    have k900 : 900 + 2 ≤ sizeLine := Nat.le_of_lt (small1000 (by decide))
    have hL0 : 0 < L.length := List.length_pos_iff.mpr n1
    refine ⟨.str (SX.S a), rfl, ⟨_, rfl⟩, SX.S a, SX.S [10], rfl, rfl, rfl, by rw [SX.S_len]; omega, fun p0 hp0 => ?_⟩
    rw [es]
    have s1 := same_upd (o := .lst ((L.map SX.S).map V.str)) hp0
    have k1 : (upd H p0 (.lst ((L.map SX.S).map V.str))) p0 = some (.lst (L.map fun a => V.str (SX.S a))) := by rw [upd_same, List.map_map]; rfl
    generalize upd H p0 (.lst ((L.map SX.S).map V.str)) = H1 at s1 k1 ⊢
    refine ⟨Nat.zero_le _, fun pr hpr => ⟨_, _, rfl, ?_⟩⟩
    have prp : p0 ≠ pr := ne_of_none k1 hpr
    refine ⟨.ref p0, rfl, p0, _, rfl, .inl (.inl (.inl (by rw [upd_ne prp]; exact k1))), _, rfl, ?_, ?_, ?_⟩
    · omega
    · rw [List.length_map]; omega
    rw [List.length_map, Int.toNat_natCast]
    refine for_range (lo := 0) (n := L.length) (fun k σ G => (∃ y3 y4 y5, σ = [some (.str (SX.S a)), some (.ref p0), some (.ref pr), y3, y4, y5, none, none, none, none, none, none, none]) ∧ Same H1 G ∧ ∃ (qs : List Addr) (rs : List Ro), rowsF L k = .ok rs ∧ G pr = some (.lst (qs.map V.ref)) ∧ Paired (fun q r => SqT K G q (rV r)) qs rs ∧ rs.length = k ∧ ∀ r ∈ rs, r.length ≤ 1000)
      ⟨⟨none, none, none, rfl⟩, same_upd hpr, [], [], rfl, upd_same, .nil, rfl, fun r hr => (List.not_mem_nil hr).elim⟩ (fun k σ G hk ⟨⟨y3, y4, y5, eσ⟩, sm, qs, rs, er, kr, hP, hrk, hrl⟩ => ?_) (fun σ G ⟨⟨y3, y4, y5, eσ⟩, sm, qs, rs, er, kr, hP, hrk, hrl⟩ => ?_)
    · subst eσ
      obtain ⟨l, hlk⟩ : ∃ l, L[k]? = some l := ⟨_, List.getElem?_eq_getElem hk⟩
      have hlm := List.mem_of_getElem? hlk
      have l640 := hll l hlm
      have lcod := cod l hlm
      obtain ⟨m1, m2, m3⟩ := spl_props 32 l []
      have es2 : Txt.split (SX.S l) (SX.S [32]) = (TL.spl [32] 0 [] l).map SX.S := SX.split_S (by decide) (by decide)
      have wcod := spl_cod 32 l [] (fun x hx => (List.not_mem_nil hx).elim) lcod
      have hf : ∀ kw m, lineF kw m l = match TL.spl [32] 0 [] l with
        | [] => none
        | x :: ps => if x = kw then itemsF m ps else none := fun _ _ => rfl
      generalize TL.spl [32] 0 [] l = ws at m1 m2 m3 es2 wcod hf
      cases ws with
      | nil => exact absurd rfl m1
      | cons x ws =>
      rw [show (0 : Int) + (k : Nat) = (k : Nat) by omega]
      have wl : ws.length ≤ 640 := by rw [List.length_cons] at m2; omega
      refine ⟨.ref p0, rfl, .int (k : Nat), rfl, p0, _, _, .str (SX.S l), rfl, rfl, .inl (.inl (sm _ _ k1)), atI_nat (by rw [List.getElem?_map, hlk]; rfl), ⟨_, rfl⟩, SX.S l, SX.S [32], rfl, rfl, rfl, by rw [SX.S_len]; omega, fun p1 hp1 => ?_⟩
      rw [es2]
      have t1 := same_upd (o := .lst (((x :: ws).map SX.S).map V.str)) hp1
      have g1 : (upd G p1 (.lst (((x :: ws).map SX.S).map V.str))) p1 = some (.lst (.str (SX.S x) :: ws.map fun a => V.str (SX.S a))) := by rw [upd_same, List.map_map]; rfl
      generalize upd G p1 (.lst (((x :: ws).map SX.S).map V.str)) = G1 at t1 g1 ⊢
      refine ⟨.ref p1, rfl, 1, rfl, p1, _, rfl, .inl (.inl g1), fun p2 hp2 => ?_⟩
      rw [cut1]
      have t2 := t1.trans (same_upd (o := .lst (List.drop 1 (V.str (SX.S x) :: ws.map fun a => V.str (SX.S a)))) hp2)
      have g2 : (upd G1 p2 (.lst (List.drop 1 (V.str (SX.S x) :: ws.map fun a => V.str (SX.S a))))) p2 = some (.lst (ws.map fun a => V.str (SX.S a))) := upd_same
      have g12 := (same_upd (o := .lst (List.drop 1 (V.str (SX.S x) :: ws.map fun a => V.str (SX.S a)))) hp2) _ _ g1
      generalize upd G1 p2 (.lst (List.drop 1 (V.str (SX.S x) :: ws.map fun a => V.str (SX.S a)))) = G2 at t2 g2 g12 ⊢
      generalize hm : decide (k ≠ 0) = m
      refine ⟨p2, rfl, ⟨_, .inl (.inl g2)⟩, fun D hD => lc_list (xs := ws.map fun a => V.str (SX.S a)) (fun i F => Same G2 F ∧ F D = some (.lst (entF m (ws.take i)))) ⟨same_upd hD, upd_same⟩ (fun _ F _ g => .inl (.inl (g.1 _ _ g2))) (fun j v F hv ⟨smF, kD⟩ => ?_) (fun F ⟨smF, kD⟩ => ?_)⟩
      · rw [List.getElem?_map] at hv
        cases hj : ws[j]? with
        | none => rw [hj] at hv; cases hv
        | some b =>
        rw [hj] at hv
        obtain rfl : V.str (SX.S b) = v := Option.some.inj hv
        have jlt := (List.getElem?_eq_some_iff.mp hj).1
        have er : (V.str (SX.S b) = V.str "rest") ↔ b = restS := ⟨fun z => SX.S_inj (b := restS) (V.str.inj z), fun z => by rw [z]; rfl⟩
        have ent_yes : askF m b = true → entF m (ws.take (j + 1)) = entF m (ws.take j) ++ [eV (intO false b)] := fun y => by
          unfold entF
          rw [List.take_add_one, hj, List.filter_append, List.map_append]
          show _ ++ (List.filter (askF m) [b]).map _ = _
          rw [show List.filter (askF m) [b] = [b] by simp [y]]
          rfl
        have ent_no : askF m b = false → entF m (ws.take (j + 1)) = entF m (ws.take j) := fun y => by
          unfold entF
          rw [List.take_add_one, hj, List.filter_append, List.map_append]
          show _ ++ (List.filter (askF m) [b]).map _ = _
          rw [show List.filter (askF m) [b] = [] by simp [y], List.map_nil, List.append_nil]
        have hbl : b.length ≤ 640 := by
          have := m3 b (List.mem_cons_of_mem _ (List.mem_of_getElem? hj))
          rw [List.length_nil] at this
          omega
        have el : (entF m (ws.take j)).length ≤ 1000 := by
          unfold entF
          rw [List.length_map]
          have h1 := List.length_filter_le (askF m) (ws.take j)
          rw [List.length_take] at h1
          omega
        have put : askF m b = true → spLi [.str (SX.S b), .bl false] F (fun y H4 => ∃ acc, H4 D = some (.lst acc) ∧ acc.length < sizeLine ∧ (Same G2 (upd H4 D (.lst (acc ++ [y]))) ∧ (upd H4 D (.lst (acc ++ [y]))) D = some (.lst (entF m (ws.take (j + 1)))))) E0 := fun y =>
          ⟨b, false, rfl, hbl, wcod b (List.mem_cons_of_mem _ (List.mem_of_getElem? hj)), fun F2 smF2 => ⟨_, smF2 _ _ kD, small1000 el, same_of (smF.trans smF2) hD, by rw [upd_same, ent_yes y]⟩⟩
        refine ⟨rfl, .int (k : Nat), rfl, rfl, _, rfl, ?_⟩
        by_cases hk0 : k = 0
        · have hm0 : m = false := by rw [← hm, hk0]; rfl
          refine ite2 (fun _ => ?_) (fun z => absurd (decide_eq_true (by rw [hk0]; rfl)) z)
          exact iteT ⟨.str (SX.S b), rfl, put (by rw [hm0]; rfl)⟩
        · have hm1 : m = true := by rw [← hm]; exact decide_eq_true hk0
          refine ite2 (fun z => absurd (by have := V.int.inj (of_decide_eq_true z); omega) hk0) (fun _ => ⟨.str (SX.S b), rfl, rfl, _, rfl, ?_⟩)
          by_cases hbr : b = restS
          · rw [decide_eq_true (er.mpr hbr)]
            exact ⟨smF, by rw [ent_no (by unfold askF; rw [hm1, decide_eq_true hbr]; rfl)]; exact kD⟩
          · rw [decide_eq_false fun z => hbr (er.mp z)]
            exact iteT ⟨.str (SX.S b), rfl, put (by unfold askF; rw [hm1, decide_eq_false hbr]; rfl)⟩
      · rw [List.length_map, List.take_length] at kD
        have hw1 : (V.str (SX.S x) = V.str (SX.S (kwF k))) ↔ x = kwF k := ⟨fun z => SX.S_inj (V.str.inj z), fun z => by rw [z]⟩
        have s12 : Same H1 F := sm.trans (t2.trans smF)
        have bad : lineF (kwF k) (decide (k ≠ 0)) l = none → ∀ F2, Same F F2 → (tTup (tCons (tC (V.str "InvalidText")) (tCons (tVar 3) tNil)) : TE) [some (.str (SX.S a)), some (.ref p0), some (.ref pr), some (.int (k : Nat)), some (.ref p1), some (.ref D), none, none, none, none, none, none, none] F2 Q := fun hb F2 smF2 => by
          refine ⟨.int (k : Nat), rfl, (by show 2 ≤ sizeLine; decide), fun t ht => q _ t ((s1.trans (s12.trans smF2)).trans (same_upd ht)) ?_⟩
          unfold planF
          rw [rowsF_bad er hlk hb hk]
          exact .tup (.inl (.inl upd_same)) (.cons (.str _) (.cons (.int _) .nil))
        refine ⟨.ref p1, rfl, p1, _, 0, .str (SX.S x), rfl, rfl, .inl (.inl (smF _ _ g12)), atI_nat (j := 0) rfl, (by show 2 ≤ sizeLine; decide), fun z hz => ⟨.int (k : Nat), rfl, rfl, .inr ⟨_, rfl, z, _, _, .str (SX.S (kwF k)), rfl, rfl, .inl (.inl upd_same), ?_, rfl, _, rfl, ?_⟩⟩⟩
        · by_cases hk0 : k = 0
          · rw [hk0]; rfl
          · rw [decide_eq_false (fun y => hk0 (by have := V.int.inj y; omega))]
            unfold kwF
            rw [if_neg hk0]
            rfl
        have t3 := same_upd (o := .lst [V.str "route", V.str "sizes"]) hz
        have kD3 := t3 _ _ kD
        have g3 : (upd F z (.lst [V.str "route", V.str "sizes"])) p1 = some (.lst (.str (SX.S x) :: ws.map fun a => V.str (SX.S a))) := t3 _ _ (smF _ _ g12)
        generalize upd F z (.lst [V.str "route", V.str "sizes"]) = F2 at t3 kD3 g3 ⊢
        replace hf := hf (kwF k) (decide (k ≠ 0))
        rw [hm] at hf bad
        by_cases hx : x = kwF k
        · replace hf := hf.trans (if_pos hx)
          refine ite2 (fun z => by rw [decide_eq_true (hw1.mpr hx)] at z; cases z) (fun _ => ?_)
          refine ⟨.ref D, rfl, D, _, rfl, .inl (.inl (.inl kD3)), rfl, entF_flat, _, rfl, ?_⟩
          by_cases hi : itemsF m ws = none
          · exact ite2 (fun _ => bad (hf.trans hi) _ t3) (fun z => absurd (entF_in.trans (decide_eq_true hi)) z)
          refine ite2 (fun z => absurd (of_decide_eq_true (entF_in.symm.trans z)) hi) (fun _ => ?_)
          obtain ⟨es, hes⟩ : ∃ es, itemsF m ws = some es := by
            cases e : itemsF m ws with
            | none => exact absurd e hi
            | some es => exact ⟨es, rfl⟩
          have hmap := itemsF_map hes
          have esl : es.length = ws.length := by
            have := congrArg List.length hmap
            rw [List.length_map, List.length_map] at this
            exact this.symm
          have s13 : Same G F2 := t2.trans (smF.trans t3)
          have kr2 : F2 pr = some (.lst (qs.map V.ref)) := s13 _ _ kr
          refine ⟨.ref pr, rfl, .inl ⟨rfl, _, .inl (.inl kr2)⟩, .ref p1, rfl, 1, rfl, p1, _, rfl, .inl (.inl g3), fun p4 hp4 => ?_⟩
          rw [cut1]
          have t4 := same_upd (o := .lst (List.drop 1 (V.str (SX.S x) :: ws.map fun a => V.str (SX.S a)))) hp4
          have g4 : (upd F2 p4 (.lst (List.drop 1 (V.str (SX.S x) :: ws.map fun a => V.str (SX.S a))))) p4 = some (.lst (ws.map fun a => V.str (SX.S a))) := upd_same
          generalize upd F2 p4 (.lst (List.drop 1 (V.str (SX.S x) :: ws.map fun a => V.str (SX.S a)))) = F4 at t4 g4 ⊢
          refine ⟨p4, rfl, ⟨_, .inl (.inl g4)⟩, fun D2 hD2 => lc_list (xs := ws.map fun a => V.str (SX.S a)) (fun i F => Same F4 F ∧ F D2 = some (.lst (rV (es.take i)))) ⟨same_upd hD2, upd_same⟩ (fun _ F _ g => .inl (.inl (g.1 _ _ g4))) (fun j v F hv ⟨smF, kD⟩ => ?_) (fun F ⟨smF, kD⟩ => ?_)⟩
          · rw [List.getElem?_map] at hv
            cases hj : ws[j]? with
            | none => rw [hj] at hv; cases hv
            | some b =>
            rw [hj] at hv
            obtain rfl : V.str (SX.S b) = v := Option.some.inj hv
            have jlt := (List.getElem?_eq_some_iff.mp hj).1
            obtain ⟨e, hej⟩ : ∃ e, es[j]? = some e := ⟨_, List.getElem?_eq_getElem (by omega)⟩
            have hie : itemF m b = some e := by
              have := congrArg (fun l => l[j]?) hmap
              simp only [List.getElem?_map, hj, hej, Option.map_some] at this
              exact Option.some.inj this
            have er : (V.str (SX.S b) = V.str "rest") ↔ b = restS := ⟨fun z => SX.S_inj (b := restS) (V.str.inj z), fun z => by rw [z]; rfl⟩
            have hbl : b.length ≤ 640 := by
              have := m3 b (List.mem_cons_of_mem _ (List.mem_of_getElem? hj))
              rw [List.length_nil] at this
              omega
            have put : ∃ acc, F D2 = some (.lst acc) ∧ acc.length < sizeLine ∧ (Same F4 (upd F D2 (.lst (acc ++ [eV e]))) ∧ (upd F D2 (.lst (acc ++ [eV e]))) D2 = some (.lst (rV (es.take (j + 1))))) := by
              refine ⟨_, kD, ?_, same_of smF hD2, ?_⟩
              · rw [rV_len, List.length_take]
                exact small1000 (by omega)
              · rw [upd_same, List.take_add_one, hej]
                unfold rV
                rw [List.map_append]
                rfl
            refine ⟨rfl, yes_go ⟨.str (SX.S b), rfl, rfl, _, rfl, ?_⟩⟩
            rcases itemF_some hie with ⟨h1, h2⟩ | ⟨h1, h2, h3⟩
            · rw [h2] at put
              exact ite2 (fun _ => put) (fun z => absurd (decide_eq_true (er.mpr h1)) z)
            · rw [h3] at put
              obtain ⟨hd, hne⟩ := isNum_dig h2
              exact ite2 (fun z => absurd (er.mp (of_decide_eq_true z)) h1) (fun _ => ⟨.str (SX.S b), rfl, _, _, rfl, SX.int_S hd hne (by omega), by rw [SX.S_len]; exact hbl, put⟩)
          · rw [List.length_map, ← esl, List.take_length] at kD
            refine ⟨D2, _, rfl, .inl ⟨.inl (.inl kD), fun u hu => ?_⟩⟩
            have t5 := same_upd (o := .tup (rV es)) hu
            have ku : (upd F u (.tup (rV es))) u = some (.tup (rV es)) := upd_same
            generalize upd F u (.tup (rV es)) = F5 at t5 ku ⊢
            have s14 : Same F2 F5 := t4.trans (smF.trans t5)
            have kr5 := s14 _ _ kr2
            have pl := paired_len hP
            have hkL : k ≤ 901 := by omega
            refine ⟨pr, _, _, rfl, rfl, kr5, by rw [List.length_map]; exact small1000 (by omega), ⟨_, _, _, rfl⟩, same_of (sm.trans (s13.trans s14)) hpr, qs ++ [u], rs ++ [es], rowsF_snoc er hlk (by rw [hm]; exact hf.trans hes), by rw [upd_same, List.map_append]; rfl, ?_, by rw [List.length_append, hrk]; rfl, fun r hr => ?_⟩
            · exact paired_snoc (sqT_lst kr5 (.inl (.inl ku))) (paired_imp (fun a xs h => sqT_lst kr5 (sqT_same (s13.trans s14) h)) hP)
            · rcases List.mem_append.mp hr with hr | hr
              · exact hrl r hr
              · rw [List.mem_singleton.mp hr]
                omega
        · exact ite2 (fun _ => bad (hf.trans (if_neg hx)) _ t3) (fun z => absurd (by rw [decide_eq_false (fun y => hx (hw1.mp y))]; rfl) z)
    · subst eσ
      have hrs0 : rs ≠ [] := fun z => by rw [z] at hrk; rw [← hrk] at hL0; exact absurd hL0 (Nat.lt_irrefl _)
      obtain ⟨zr, rt, rfl⟩ : ∃ z rt, rs = z :: rt := by
        cases rs with
        | nil => exact absurd rfl hrs0
        | cons z rt => exact ⟨z, rt, rfl⟩
      obtain ⟨zp, zi⟩ := rowsF_pos (j := 0) er rfl
      obtain ⟨zs, rfl⟩ := ints_of (zi rfl)
      have zpos : ∀ z ∈ zs, 0 ≤ z := fun z hz => zp z (List.mem_map.mpr ⟨z, hz, rfl⟩)
      have rpos : ∀ r ∈ rt, PosR r := fun r hr => by
        obtain ⟨j, hj⟩ := List.mem_iff_getElem?.mp hr
        exact (rowsF_pos (j := j + 1) er (by simpa using hj)).1
      cases hP with
      | @cons qz _ qt _ hz hP =>
      have zl : zs.length ≤ 1000 := by have := hrl _ (List.mem_cons_self ..); rw [List.length_map] at this; exact this
      have e1 : planF L = dOf (zs.map some) rt := by
        unfold planF
        rw [er]
      rw [e1] at q
      have e2 : dOf (zs.map some) rt = match bad zs rt with
        | some (part, i) => dBad part i
        | none => dPlan (zs.map some) rt := by
        unfold dOf
        rw [zsOf_map]
      rw [e2] at q
      rw [rV_some] at hz
      have s2 := s1.trans sm
      refine ⟨.ref pr, rfl, pr, _, 0, .ref qz, rfl, rfl, .inl (.inl kr), atI_nat (j := 0) rfl, .ref pr, rfl, 1, rfl, pr, _, rfl, .inl (.inl kr), fun p6 hp6 => ?_⟩
      rw [cut1]
      have t1 := same_upd (o := .lst (List.drop 1 (List.map V.ref (qz :: qt)))) hp6
      have g1 : (upd G p6 (.lst (List.drop 1 (List.map V.ref (qz :: qt))))) p6 = some (.lst (qt.map V.ref)) := upd_same
      generalize upd G p6 (.lst (List.drop 1 (List.map V.ref (qz :: qt)))) = G1 at t1 g1 ⊢
      refine ⟨p6, _, rfl, .inl ⟨.inl (.inl g1), fun p7 hp7 => ⟨(by show 2 ≤ sizeLine; decide), fun p8 hp8 => ?_⟩⟩⟩
      have t2 := same_upd (o := .tup (qt.map V.ref)) hp7
      have g2 : (upd G1 p7 (.tup (qt.map V.ref))) p7 = some (.tup (qt.map V.ref)) := upd_same
      generalize upd G1 p7 (.tup (qt.map V.ref)) = G2 at t2 g2 hp8 ⊢
      have t3 := same_upd (o := .tup [.ref qz, .ref p7]) hp8
      have g3 : (upd G2 p8 (.tup [.ref qz, .ref p7])) p8 = some (.tup [.ref qz, .ref p7]) := upd_same
      show _
      generalize upd G2 p8 (.tup [.ref qz, .ref p7]) = G3 at t3 g3 ⊢
      refine ⟨p8, [.ref qz, .ref p7], rfl, .inl (.inl g3), rfl, _, _, rfl, _, _, rfl, rfl, ?_⟩
      have t03 := t1.trans (t2.trans t3)
      have s3 := s2.trans t03
      have hz3 := sqT_same t03 hz
      have hP3 := paired_same t03 hP
      have k7 := t3 _ _ g2
      have pl := paired_len hP3
      rw [List.length_cons] at hrk
      refine ⟨.ref qz, rfl, qz, _, rfl, .inr hz3, _, rfl, ?_, ?_, fun D hD => ?_⟩
      · omega
      · rw [List.length_map]; omega
      rw [List.length_map, Int.toNat_natCast]
      refine lc_range (lo := 0) (n := zs.length) (fun k F => Same G3 F ∧ F D = some (.lst ((wrN zs k).map fun (j : Nat) => V.int (j : Nat)))) ⟨same_upd hD, upd_same⟩ (fun k F hk ⟨smF, kD⟩ => ?_) (fun F ⟨smF, kD⟩ => ?_)
      · obtain ⟨z, hzk⟩ : ∃ z, zs[k]? = some z := ⟨_, List.getElem?_eq_getElem hk⟩
        rw [show (0 : Int) + (k : Nat) = (k : Nat) by omega]
        refine ⟨rfl, .ref qz, rfl, .int (k : Nat), rfl, qz, _, _, .int z, rfl, rfl, sqT_same smF hz3, atI_nat (by rw [List.getElem?_map, hzk]; rfl), _, _, rfl, rfl, _, rfl, ?_⟩
        by_cases h9 : 9 < z
        · rw [decide_eq_true h9]
          refine iteT ⟨.int (k : Nat), rfl, _, kD, ?_, same_of smF hD, ?_⟩
          · rw [List.length_map]
            have h1 : (wrN zs k).length ≤ k := by
              have := List.length_filter_le (fun j => decide (9 < zs.getD j 0)) (List.range k)
              rw [List.length_range] at this
              exact this
            exact small1000 (by omega)
          · rw [upd_same, wrN_snoc hzk, if_pos h9, List.map_append]
            rfl
        · rw [decide_eq_false h9]
          refine iteF ⟨smF, ?_⟩
          rw [wrN_snoc hzk, if_neg h9, List.append_nil]
          exact kD
      · have s4 := s3.trans smF
        have hzF := sqT_same smF hz3
        have k7F := smF _ _ k7
        have hPF := paired_same smF hP3
        have fin : ∀ (part : Str) (i : Int) (F2 : Hp), Same H F2 → bad zs rt = some (part, i) → ∀ t, F2 t = none → Q (.ref t) (upd F2 t (.tup [.str "InvalidPlan", .str part, .int i])) := fun part i F2 sm2 hb t ht => by
          refine q _ t (sm2.trans (same_upd ht)) ?_
          rw [hb]
          exact .tup (.inl (.inl upd_same)) (.cons (.str _) (.cons (.str _) (.cons (.int _) .nil)))
        have wl : (wrN zs zs.length).length ≤ 1000 := by
          have := List.length_filter_le (fun j => decide (9 < zs.getD j 0)) (List.range zs.length)
          rw [List.length_range] at this
          unfold wrN
          omega
        refine gName_nx ?_
        refine seq_ways2 (B := fun σ' H' => σ' = [some (.str (SX.S a)), some (.ref p0), some (.ref pr), y3, y4, y5, some (.ref qz), some (.ref p7), none, some (.ref D), none, none, none] ∧ Same F H' ∧ badS zs = none) (fun σ' F2 ⟨eσ, smF2, hbz⟩ => ?_) (fun tail => ?_)
        rotate_left
        · refine seq_if (or_go (notChain (n := (zs.length : Nat)) (fun Q h => ⟨.ref qz, rfl, qz, _, rfl, .inr hzF, by rw [List.length_map]; exact h⟩) ?_))
          by_cases hl12 : 1 ≤ zs.length ∧ zs.length ≤ 12
          · rw [decide_eq_true (show 1 ≤ ((zs.length : Nat) : Int) ∧ ((zs.length : Nat) : Int) ≤ 12 by omega)]
            refine iteF ⟨.ref D, rfl, Nat.zero_le _, fun z hz0 => ?_⟩
            have t5 := same_upd (o := .lst []) hz0
            refine neI_go (l := (wrN zs zs.length).map fun j => ((j : Nat) : Int)) (by rw [upd_ne (ne_of_none kD hz0), List.map_map]; exact kD) upd_same (by rw [List.length_map]; exact wl) ⟨_, rfl, ?_⟩
            have kD5 := t5 _ _ kD
            generalize upd F z (.lst []) = F5 at t5 kD5 ⊢
            have hb0 : badS zs = ((wrN zs zs.length).head?).map fun (k : Nat) => (k : Int) := by
              unfold badS
              rw [if_pos hl12, wr_fst zpos]
            cases hw : wrN zs zs.length with
            | nil =>
              rw [hw] at hb0
              exact ite2 (fun z => by cases z) (fun _ => tail _ _ ⟨rfl, t5, hb0⟩)
            | cons j0 js =>
              rw [hw] at hb0 kD5
              refine ite2 (fun _ => ?_) (fun z => by exact absurd rfl z)
              refine ret3 (tif_go (notChain (n := (zs.length : Nat)) (fun Q h => ⟨.ref qz, rfl, qz, _, rfl, .inr (sqT_same t5 hzF), by rw [List.length_map]; exact h⟩) ?_))
              rw [decide_eq_true (show 1 ≤ ((zs.length : Nat) : Int) ∧ ((zs.length : Nat) : Int) ≤ 12 by omega)]
              refine iteF ⟨.ref D, rfl, D, _, 0, .int (j0 : Nat), rfl, rfl, .inl (.inl kD5), atI_nat (j := 0) rfl, (by show 3 ≤ sizeLine; decide), fun t ht => fin "sizes" (j0 : Nat) F5 (s4.trans t5) ?_ t ht⟩
              unfold bad
              rw [hb0]
              rfl
          · rw [decide_eq_false (show ¬ (1 ≤ ((zs.length : Nat) : Int) ∧ ((zs.length : Nat) : Int) ≤ 12) by omega)]
            refine iteT ?_
            refine ret3 (tif_go (notChain (n := (zs.length : Nat)) (fun Q h => ⟨.ref qz, rfl, qz, _, rfl, .inr hzF, by rw [List.length_map]; exact h⟩) ?_))
            rw [decide_eq_false (show ¬ (1 ≤ ((zs.length : Nat) : Int) ∧ ((zs.length : Nat) : Int) ≤ 12) by omega)]
            refine iteT ⟨0, 1, rfl, rfl, (by show 3 ≤ sizeLine; decide), fun t ht => fin "sizes" (0 - 1) F s4 ?_ t ht⟩
            unfold bad badS
            rw [if_neg hl12]
            rfl
        subst eσ
        have s5 := s4.trans smF2
        have hbr : bad zs rt = (badR zs.length rt).map fun i => (("routes" : Str), i) := by
          unfold bad
          rw [hbz]
        refine seq_if (notChain (n := (rt.length : Nat)) (fun Q h => ⟨.ref p7, rfl, p7, _, rfl, .inr (.inl (.inl (smF2 _ _ k7F))), by rw [List.length_map, pl]; exact h⟩) ?_)
        by_cases hl6 : 1 ≤ rt.length ∧ rt.length ≤ 6
        · rw [decide_eq_true (show 1 ≤ ((rt.length : Nat) : Int) ∧ ((rt.length : Nat) : Int) ≤ 6 by omega)]
          have hbr2 : badR zs.length rt = (fst (okR zs.length) rt 0).map fun (k : Nat) => (k : Int) := by
            unfold badR
            rw [if_pos hl6]
          have hz2 := sqT_same smF2 hzF
          have k72 := smF2 _ _ k7F
          have hP2 := paired_same smF2 hPF
          refine iteF ⟨.ref p7, rfl, p7, _, rfl, .inr (.inl (.inl k72)), _, rfl, ?_, ?_, ?_⟩
          · omega
          · rw [List.length_map]; omega
          rw [List.length_map, Int.toNat_natCast, pl]
          refine for_range (lo := 0) (n := rt.length) (fun k σ G4 => (∃ y8 y10, σ = [some (.str (SX.S a)), some (.ref p0), some (.ref pr), y3, y4, y5, some (.ref qz), some (.ref p7), y8, some (.ref D), y10, none, none]) ∧ Same F2 G4 ∧ ∀ (j : Nat) (r : Ro), j < k → rt[j]? = some r → okR zs.length r = true)
            ⟨⟨none, none, rfl⟩, Same.refl _, fun j r hj => by omega⟩ (fun k σ G4 hk ⟨⟨y8, y10, eσ⟩, sm4, hok⟩ => ?_) (fun σ G4 ⟨⟨y8, y10, eσ⟩, sm4, hok⟩ => ?_)
          · subst eσ
            rw [show (0 : Int) + (k : Nat) = (k : Nat) by omega]
            obtain ⟨qk, hqk⟩ : ∃ q, qt[k]? = some q := ⟨_, List.getElem?_eq_getElem (by omega)⟩
            obtain ⟨r, hrk2, hqr⟩ := paired_at hP2 hqk
            have hrm := List.mem_of_getElem? hrk2
            have rl : r.length ≤ 1000 := hrl r (List.mem_cons_of_mem _ hrm)
            have hqr4 := sqT_same sm4 hqr
            refine ⟨.ref p7, rfl, .int (k : Nat), rfl, p7, _, _, .ref qk, rfl, rfl, .inl (.inl (sm4 _ _ k72)), atI_nat (by rw [List.getElem?_map, hqk]; rfl), qk, rfl, ⟨_, hqr4⟩, fun D2 hD2 => lc_tup (xs := rV r) (fun i F3 => Same G4 F3 ∧ F3 D2 = some (.lst ((farN zs.length (r.take i)).map V.int))) ⟨same_upd hD2, upd_same⟩ (fun _ F3 _ g => sqT_same g.1 hqr4) (fun j v F3 hv ⟨smF, kD⟩ => ?_) (fun F3 ⟨smF, kD⟩ => ?_)⟩
            · obtain ⟨e, hej, rfl⟩ := rV_lt hv
              have keep : farE zs.length e = none → Same G4 F3 ∧ F3 D2 = some (.lst ((farN zs.length (r.take (j + 1))).map V.int)) := fun y => by
                refine ⟨smF, ?_⟩
                rw [farN_snoc hej, y]
                show _ = some (HO.lst ((farN _ _ ++ []).map _))
                rw [List.append_nil]
                exact kD
              cases e with
              | none => exact ⟨rfl, .non, rfl, rfl, false, rfl, iteF (keep rfl)⟩
              | some i =>
                refine ⟨rfl, .int i, rfl, rfl, true, rfl, iteT ⟨.int i, rfl, .ref qz, rfl, qz, _, rfl, .inr (sqT_same (sm4.trans smF) hz2), _, _, rfl, rfl, _, rfl, ?_⟩⟩
                rw [List.length_map]
                by_cases hi : ((zs.length : Nat) : Int) ≤ i
                · have y : farE zs.length (some i) = some i := if_pos hi
                  rw [decide_eq_true hi]
                  refine iteT ⟨.int i, rfl, _, kD, ?_, same_of smF hD2, ?_⟩
                  · rw [List.length_map]
                    have h1 := List.length_filterMap_le (farE zs.length) (r.take j)
                    rw [List.length_take] at h1
                    unfold farN
                    exact small1000 (by omega)
                  · rw [upd_same, farN_snoc hej, y, List.map_append]
                    rfl
                · rw [decide_eq_false hi]
                  exact iteF (keep (if_neg hi))
            · rw [rV_len, List.take_length] at kD
              have sm5 := s5.trans (sm4.trans smF)
              have bad2 : okR zs.length r = false → ∀ F5, Same F3 F5 → (tTup (tCons (tC (V.str "InvalidPlan")) (tCons (tC (V.str "routes")) (tCons (tVar 8) tNil))) : TE) [some (.str (SX.S a)), some (.ref p0), some (.ref pr), y3, y4, y5, some (.ref qz), some (.ref p7), some (.int (k : Nat)), some (.ref D), some (.ref D2), none, none] F5 Q := fun hb5 F5 sm6 => by
                refine ⟨.int (k : Nat), rfl, (by show 3 ≤ sizeLine; decide), fun t ht => fin "routes" (k : Nat) F5 (sm5.trans sm6) ?_ t ht⟩
                rw [hbr, hbr2, fst_some (i := k) (x := r) hok hrk2 hb5]
                rfl
              refine gName_nx ?_
              refine if_go (or_go (notChain (n := (r.length : Nat)) (fun Q h => ⟨.ref p7, rfl, .int (k : Nat), rfl, p7, _, _, .ref qk, rfl, rfl, .inl (.inl (smF _ _ (sm4 _ _ k72))), atI_nat (by rw [List.getElem?_map, hqk]; rfl), qk, _, rfl, .inr (sqT_same smF hqr4), by rw [rV_len]; exact h⟩) ?_))
              have hokr := far_okR (n := zs.length) (rpos r hrm)
              by_cases h16 : 1 ≤ r.length ∧ r.length ≤ 6
              · rw [decide_eq_true (show 1 ≤ ((r.length : Nat) : Int) ∧ ((r.length : Nat) : Int) ≤ 6 by omega)]
                refine iteF ⟨.ref D2, rfl, Nat.zero_le _, fun z hz0 => ?_⟩
                have t5 := same_upd (o := .lst []) hz0
                refine neI_go (l := farN zs.length r) (by rw [upd_ne (ne_of_none kD hz0)]; exact kD) upd_same ?_ ⟨_, rfl, ?_⟩
                · have h1 := List.length_filterMap_le (farE zs.length) r
                  unfold farN
                  omega
                · generalize upd F3 z (.lst []) = F5 at t5 ⊢
                  by_cases hfn : farN zs.length r = []
                  · refine ite2 (fun z => by rw [decide_eq_true hfn] at z; cases z) (fun _ => ⟨⟨_, _, rfl⟩, sm4.trans (smF.trans t5), fun j r' hj hr' => ?_⟩)
                    by_cases hjk : j = k
                    · rw [hjk, hrk2] at hr'
                      rw [← Option.some.inj hr', hokr, decide_eq_true h16, decide_eq_true hfn]
                      rfl
                    · exact hok j r' (by omega) hr'
                  · exact ite2 (fun _ => bad2 (by rw [hokr, decide_eq_false hfn, Bool.and_false]) _ t5) (fun z => absurd (by rw [decide_eq_false hfn]; rfl) z)
              · rw [decide_eq_false (show ¬ (1 ≤ ((r.length : Nat) : Int) ∧ ((r.length : Nat) : Int) ≤ 6) by omega)]
                exact iteT (bad2 (by rw [hokr, decide_eq_false h16, Bool.false_and]) _ (Same.refl _))
          · subst eσ
            have hbn : bad zs rt = none := by
              rw [hbr, hbr2, fst_none fun j r hr => hok j r (List.getElem?_eq_some_iff.mp hr).1 hr]
              rfl
            rw [hbn] at q
            refine ⟨.ref qz, rfl, .ref p7, rfl, (by show 2 ≤ sizeLine; decide), fun t ht => q _ t ((s5.trans sm4).trans (same_upd ht)) ?_⟩
            have t6 := same_upd (o := .tup [.ref qz, .ref p7]) ht
            exact .tup (.inl (.inl upd_same)) (.cons (dp_rV (by rw [rV_some]; exact sqT_same (sm4.trans t6) hz2)) (.cons (.tup (.inl (.inl (t6 _ _ (sm4 _ _ k72)))) (dpAll_rows (paired_same (sm4.trans t6) hP2))) .nil))
        · rw [decide_eq_false (show ¬ (1 ≤ ((rt.length : Nat) : Int) ∧ ((rt.length : Nat) : Int) ≤ 6) by omega)]
          refine iteT ⟨0, 1, rfl, rfl, (by show 3 ≤ sizeLine; decide), fun t ht => fin "routes" (0 - 1) F2 s5 ?_ t ht⟩
          rw [hbr]
          unfold badR
          rw [if_neg hl6]
          rfl
end
end Sv
set_option maxHeartbeats 4000000
namespace Sv
open PySem PySem.Spec PyProof.Rows L2
def kwG (k : Nat) : List Nat := if k = 0 then tmW else if k = 1 then caW else shW
def numG (k : Nat) (ps : List (List Nat)) : Ro := ps.map (intO (decide (k = 0)))
def wordsO (L : List (List Nat)) (k : Nat) : List (List Nat) := match L[k]? with
  | none => [[]]
  | some l => TL.spl [32] 0 [] l
def rowG (n : Nat) (L : List (List Nat)) (k : Nat) : Option (List Int) := if n + 2 ≤ k then none else match wordsO L k with
  | [] => none
  | x :: ps => if x = kwG k ∧ none ∉ numG k ps ∧ (k = 0 → ps.length = 1) then some (zsOf (numG k ps)) else none
def rowsG (n : Nat) (L : List (List Nat)) : Nat → Except Nat (List (List Int))
  | 0 => .ok []
  | k + 1 => match rowsG n L k with
    | .error j => .error j
    | .ok rs => match rowG n L k with
      | none => .error k
      | some r => .ok (rs ++ [r])
def dNoSt : PyData := .tuple [.str "InvalidState"]
/-- what is to come of a text, in the law's reading -/
def stF (zs : List Int) (rs : List Ro) (L : List (List Nat)) : PyData := match rowsG zs.length L (max L.length (zs.length + 2)) with
  | .error j => dText j
  | .ok ([t] :: cs :: ss) => if StOk zs rs t (cs, ss) then dSt t (cs, ss) else dNoSt
  | .ok _ => .none
theorem tNext_nx {σ : L2.St} {H : Hp} {f b c : L2.St → Hp → Prop} {r : VK} (h : f σ H) : tNext ⟨f, r, b, c⟩ σ H := h
theorem segT_snoc2 {K : PySem.W.Frag} {H : Hp} {q : Addr} {s : List Int} (h : SqT K H q (s.map V.int)) : ∀ {qs : List Addr} {ss : List (List Int)}, Paired (fun q s => SqT K H q (s.map V.int)) qs ss → Paired (fun q s => SqT K H q (s.map V.int)) (qs ++ [q]) (ss ++ [s])
  | _, _, .nil => .cons h .nil
  | _, _, .cons a t => .cons a (segT_snoc2 h t)
theorem rowsG_err {n : Nat} {L : List (List Nat)} {k j : Nat} (h : rowsG n L k = .error j) : ∀ m, k ≤ m → rowsG n L m = .error j
  | 0, hn => by
    obtain rfl : k = 0 := by omega
    exact h
  | m + 1, hn => by
    by_cases hk : k = m + 1
    · rw [← hk]
      exact h
    · show (match rowsG n L m with
        | .error j => Except.error j
        | .ok rs => match rowG n L m with
          | none => .error m
          | some r => .ok (rs ++ [r])) = _
      rw [rowsG_err h m (by omega)]
theorem rowsG_bad {n : Nat} {L : List (List Nat)} {k m : Nat} {rs : List (List Int)} (h : rowsG n L k = .ok rs) (hb : rowG n L k = none) (hk : k < m) : rowsG n L m = .error k := by
  refine rowsG_err (k := k + 1) ?_ m hk
  show (match rowsG n L k with
    | .error j => Except.error j
    | .ok rs => match rowG n L k with
      | none => .error k
      | some r => .ok (rs ++ [r])) = _
  rw [h, hb]
theorem rowsG_snoc {n : Nat} {L : List (List Nat)} {k : Nat} {rs : List (List Int)} {r : List Int} (h : rowsG n L k = .ok rs) (hb : rowG n L k = some r) : rowsG n L (k + 1) = .ok (rs ++ [r]) := by
  show (match rowsG n L k with
    | .error j => Except.error j
    | .ok rs => match rowG n L k with
      | none => .error k
      | some r => .ok (rs ++ [r])) = _
  rw [h, hb]
theorem numG_in {r : Ro} : inV .non (rV r) = decide (none ∈ r) := by
  rw [Bool.eq_iff_iff, decide_eq_true_iff]
  unfold inV rV
  rw [List.any_eq_true]
  constructor
  · rintro ⟨v, hv, he⟩
    obtain ⟨e, h1, rfl⟩ := List.mem_map.mp hv
    cases e with
    | none => exact h1
    | some i => cases he
  · intro h
    exact ⟨.non, List.mem_map.mpr ⟨none, h, rfl⟩, rfl⟩
theorem rV_flat {r : Ro} : (rV r).all flatV = true := by
  rw [List.all_eq_true]
  intro v hv
  obtain ⟨e, _, rfl⟩ := List.mem_map.mp hv
  cases e <;> rfl
def kwL (n : Nat) : List V := [.str (SX.S tmW), .str (SX.S caW)] ++ (List.replicate n [V.str (SX.S shW)]).flatten
theorem kwL_len (n : Nat) : (kwL n).length = n + 2 := by
  unfold kwL
  rw [List.length_append, List.length_flatten, List.map_replicate, List.sum_replicate_nat]
  show 2 + n * 1 = _
  omega
theorem kwL_at {n k : Nat} (h : k < n + 2) : (kwL n)[k]? = some (.str (SX.S (kwG k))) := by
  have e : (List.replicate n [V.str (SX.S shW)]).flatten = List.replicate n (V.str (SX.S shW)) := by
    simp
  unfold kwL
  rw [e]
  match k with
  | 0 => rfl
  | 1 => rfl
  | k + 2 =>
    show (List.replicate n (V.str (SX.S shW)))[k]? = _
    rw [List.getElem?_replicate, if_pos (by omega)]
    rfl
theorem wordsO_ne {L : List (List Nat)} {k : Nat} : wordsO L k ≠ [] := by
  unfold wordsO
  cases L[k]? with
  | none => exact fun z => (nomatch z)
  | some l => exact (spl_props 32 l []).1
theorem rowsG_at {n : Nat} {L : List (List Nat)} : ∀ {k : Nat} {rs : List (List Int)}, rowsG n L k = .ok rs → rs.length = k ∧ ∀ j r, rs[j]? = some r → rowG n L j = some r
  | 0, rs, h => by
    have h2 : Except.ok [] = (Except.ok rs : Except Nat (List (List Int))) := h
    injection h2 with h3
    rw [← h3]
    exact ⟨rfl, fun j r e => by simp at e⟩
  | k + 1, rs, h => by
    cases e1 : rowsG n L k with
    | error j =>
      rw [rowsG_err e1 (k + 1) (Nat.le_succ k)] at h
      cases h
    | ok rs1 =>
      obtain ⟨i1, i2⟩ := rowsG_at e1
      cases e2 : rowG n L k with
      | none => rw [rowsG_bad e1 e2 (Nat.lt_succ_self k)] at h; cases h
      | some r =>
        rw [rowsG_snoc e1 e2] at h
        injection h with h3
        rw [← h3]
        refine ⟨by rw [List.length_append, i1]; rfl, fun j r' e => ?_⟩
        by_cases hj : j < k
        · rw [List.getElem?_append_left (by omega)] at e
          exact i2 j r' e
        · rw [List.getElem?_append_right (by omega), i1] at e
          have hjk : j = k := by
            have := (List.getElem?_eq_some_iff.mp e).1
            rw [List.length_singleton] at this
            omega
          rw [hjk, Nat.sub_self] at e
          rw [hjk, e2]
          exact e
theorem rowG_len {n : Nat} {L : List (List Nat)} {k : Nat} {r : List Int} (h : rowG n L k = some r) : (k = 0 → r.length = 1) ∧ r.length ≤ ((L[k]?).getD []).length := by
  have hl : (wordsO L k).length ≤ ((L[k]?).getD []).length + 1 := by
    unfold wordsO
    cases L[k]? with
    | none => exact Nat.le_refl _
    | some l => exact (spl_props 32 l []).2.1
  unfold rowG at h
  by_cases hk : n + 2 ≤ k
  · rw [if_pos hk] at h
    cases h
  · rw [if_neg hk] at h
    cases e : wordsO L k with
    | nil => rw [e] at h; cases h
    | cons x ps =>
      rw [e] at h hl
      replace h : (if x = kwG k ∧ none ∉ numG k ps ∧ (k = 0 → ps.length = 1) then some (zsOf (numG k ps)) else none) = some r := h
      by_cases hc : x = kwG k ∧ none ∉ numG k ps ∧ (k = 0 → ps.length = 1)
      · rw [if_pos hc] at h
        have e2 := Option.some.inj h
        have e3 : r.length = ps.length := by
          rw [← e2]
          unfold zsOf numG
          rw [List.length_map, List.length_map]
        rw [List.length_cons] at hl
        exact ⟨fun z => by rw [e3]; exact hc.2.2 z, by omega⟩
      · rw [if_neg hc] at h
        cases h
theorem rowsG_flat {n : Nat} {L : List (List Nat)} : ∀ {k : Nat} {rs : List (List Int)}, rowsG n L k = .ok rs → rs.flatten.length ≤ ((L.take k).map List.length).sum
  | 0, rs, h => by
    have h2 : Except.ok [] = (Except.ok rs : Except Nat (List (List Int))) := h
    injection h2 with h3
    rw [← h3]
    exact Nat.le_refl _
  | k + 1, rs, h => by
    cases e1 : rowsG n L k with
    | error j =>
      rw [rowsG_err e1 (k + 1) (Nat.le_succ k)] at h
      cases h
    | ok rs1 =>
      have ih := rowsG_flat e1
      cases e2 : rowG n L k with
      | none => rw [rowsG_bad e1 e2 (Nat.lt_succ_self k)] at h; cases h
      | some r =>
        rw [rowsG_snoc e1 e2] at h
        injection h with h3
        have hr := (rowG_len e2).2
        rw [← h3, List.take_add_one, List.map_append, List.sum_append, List.flatten_append, List.length_append]
        have : ((L[k]?.toList).map List.length).sum = ((L[k]?).getD []).length := by
          cases L[k]? with
          | none => rfl
          | some l => simp
        rw [this, show [r].flatten = r by simp]
        omega
theorem spl_sum (s : Nat) : ∀ (l acc : List Nat), ((TL.spl [s] 0 acc l).map List.length).sum ≤ acc.length + l.length
  | [], acc => by
    rw [TL.spl_nil]
    simp
  | c :: r, acc => by
    cases h : TL.pre [s] (c :: r) with
    | true =>
      rw [TL.spl_hit h]
      have h1 := spl_sum s r []
      rw [List.length_nil, Nat.zero_add] at h1
      rw [List.map_cons, List.sum_cons, List.length_cons]
      exact Nat.add_le_add_left (Nat.le_succ_of_le h1) _
    | false =>
      rw [TL.spl_miss h]
      have := spl_sum s r (acc ++ [c])
      rw [List.length_append, List.length_singleton] at this
      rw [List.length_cons]
      omega
theorem eqI_go {K : PySem.W.Frag} {H : Hp} {D z : Addr} {l l2 : List Int} {Q : VK} (h : H D = some (.lst (l.map V.int))) (hz : H z = some (.lst (l2.map V.int))) (hl : l.length ≤ 1000) (hl2 : l2.length ≤ 1000) (q : Q (.bl (decide (l = l2))) H) : qEq K (.ref D) (.ref z) H Q := by
  have d1 : Dp K H (.ref D) (.list (l.map PyData.int)) := .lst (.inl (.inl h)) (dpAll_int l)
  have d2 : Dp K H (.ref z) (.list (l2.map PyData.int)) := .lst (.inl (.inl hz)) (dpAll_int l2)
  have p1 : pld (.list (l.map PyData.int)) = true := by unfold pld; exact pldAll_int l
  have p2 : pld (.list (l2.map PyData.int)) = true := by unfold pld; exact pldAll_int l2
  have o1 : okD 1 (.list (l.map PyData.int)) = true := okD_l (by rw [List.length_map]; exact hl) (okDs_int 0 l)
  have o2 : okD 1 (.list (l2.map PyData.int)) = true := okD_l (by rw [List.length_map]; exact hl2) (okDs_int 0 l2)
  by_cases e : l = l2
  · rw [decide_eq_true e] at q
    subst e
    exact eq_same d1 d2 p1 o1 (by decide) q
  · rw [decide_eq_false e] at q
    exact eq_diff d1 d2 p1 p2 o1 o2 (by decide) (by decide) (fun z => e (map_int_inj (by injection z))) q
theorem lens_fits {n : Nat} {zs cs : List Int} {ss : List (List Int)} (h : ∀ z ∈ zs, 0 ≤ z) : ((cs :: ss).map fun s => ((s.length : Nat) : Int)) = ((n : Nat) : Int) :: zs ↔ Fits n zs (cs, ss) := by
  unfold Fits
  rw [List.map_cons]
  constructor
  · intro e
    obtain ⟨e1, e2⟩ := List.cons.inj e
    refine ⟨by show cs.length = n; omega, ?_⟩
    show ss.map List.length = zs.map Int.toNat
    rw [← e2, List.map_map]
    rfl
  · rintro ⟨e1, e2⟩
    have e1 : cs.length = n := e1
    have e2 : ss.map List.length = zs.map Int.toNat := e2
    rw [e1]
    congr 1
    have : (ss.map fun s => ((s.length : Nat) : Int)) = (ss.map List.length).map fun n : Nat => (n : Int) := by rw [List.map_map]; rfl
    rw [this, e2, List.map_map]
    conv => rhs; rw [← List.map_id zs]
    refine List.map_congr_left fun z hz => ?_
    exact Int.toNat_of_nonneg (h z hz)
section
variable {P : Program} {w : World} {K : PySem.W.Frag} {mg : Str → Option Value} {base : Heap}
theorem scSo : FnScope ["_law_plan", "_law_text", "_law_lines", "_law_rows", "_law_keywords", "_law_row", "_law_words", "_law_numbers", "_law_parcels", "_law_good", "_law_word", "_law_parcel"] ["_law_plan", "_law_text"] (defScope sStOf) := ⟨rfl, rfl, rfl, by decide +kernel, rfl, by decide +kernel, by decide +kernel⟩
def spSo (K : PySem.W.Frag) : Sp := fun vs H Q _ => ∃ (p : Addr) (a : List Nat) (zs : List Int) (rs : List Ro), vs = [.ref p, .str (SX.S a)] ∧ PlanAt K H p zs rs ∧ Val zs rs ∧ a.length ≤ 900 ∧ (∀ l ∈ TL.spl [10] 0 [] a, l.length ≤ 640) ∧ Cod a ∧ ∀ H' p, Same H H' → Dp K H' (.ref p) (stF zs rs (TL.spl [10] 0 [] a)) → Q (.ref p) H'
theorem ok_so (T : Bd P K mg) : FnOk P w K mg base CX0 2 T.aLStOf T.dLStOf ["_law_plan", "_law_text"] (spSo K) := by
  have GLI : FnOk P w K mg base CX0 1 T.aLInteger T.dLInteger ["_law_word", "_law_negative"] spLi := ok_li T
  refine T.LStOf.F.ok scSo (fun vs H Q E h => ?_) (fun cdv A outer s H vs Q E hr h => ?_)
  · obtain ⟨p, a, zs, rs, rfl, _⟩ := h
    rfl
  · obtain ⟨p, a, zs, rs, rfl, hp, hv, hl, hll, hc, q⟩ := h
    refine ⟨_, pss_cons (ps_par (i := 2) (j := 3) rfl scSo.nd rfl rfl (by decide) rfl rfl (pa_cons (pe_split (pv 1) pe_str) (pa_cons (pe_lst pa_nil) pa_nil)) (by rfl))
      (pss_cons (ps_set (i := 4) scSo.nd rfl (Or.inl rfl) (pe_op op_cat (pe_lst (pa_cons (pe_str) (pa_cons (pe_str) pa_nil))) (pe_op op_rep (pe_lst (pa_cons (pe_str) pa_nil)) (pe_callB call_len_seq (by rfl) T.bt.len b_len (pa_cons (pe_ix ix_tup (pv 0) (pe_int) (fun _ _ => rfl)) pa_nil)))))
      (pss_cons (ps_for PassesOwn.never rfl (pi_range1 (by rfl) T.bt.range (pa_cons (pe_callB (call_max2 rfl) (by rfl) T.bt.max (by decide +kernel) (pa_cons (pe_callB call_len_seq (by rfl) T.bt.len b_len (pa_cons (pv 2) pa_nil)) (pa_cons (pe_callB call_len_seq (by rfl) T.bt.len b_len (pa_cons (pv 4) pa_nil)) pa_nil))) pa_nil)) (pg_name (i := 5) scSo.nd rfl (Or.inr rfl))
        (pss_cons (ps_set (i := 6) scSo.nd rfl (Or.inl rfl) (pe_ifExp (pt_cmpR op_lt (pv 5) (pe_callB call_len_seq (by rfl) T.bt.len b_len (pa_cons (pv 2) pa_nil)) (nomark _)) (pe_split (pe_ix ix_list (pv 2) (pv 5) (fun _ _ => rfl)) pe_str) (pe_lst (pa_cons (pe_str) pa_nil))))
      (pss_cons (ps_setLc (i := 7) (own := [("_law_word", 10)]) (g := gName 10) (tt := tYes) (te := tCall spLi [] E0 (tCons (tVar 10) (tCons (tOp rEq (tVar 5) (tC (.int 0))) tNil))) rfl scSo.nd rfl rfl (sw_true rfl rfl rfl (by decide +kernel)) (pi_list (pe_slice sl_list (pv 6) (po_some pe_int) po_none)) (blkOk_by (N := ["_law_plan", "_law_text", "_law_lines", "_law_rows", "_law_keywords", "_law_row", "_law_words", "_law_numbers", "_law_parcels", "_law_good", "_law_word", "_law_parcel"]) (sc := defScope sStOf) (by decide +kernel)) (fun _ _ _ _ _ => pg_name (i := 10) scSo.nd rfl (Or.inl rfl)) (fun _ _ _ _ _ => pts_nil) (fun _ _ _ _ _ => pe_call (E := E0) GLI (hr.mono (by decide)) (by rfl) T.LInteger.g T.LInteger.F.kp T.LInteger.b .nil pass0 (pa_cons (pv 10) (pa_cons (pe_cmpR op_eq (pv 5) pe_int (nomark _)) pa_nil))))
      (pss_cons (ps_if ((pw_or (pt_cmpR op_ge (pv 5) (pe_callB call_len_seq (by rfl) T.bt.len b_len (pa_cons (pv 4) pa_nil)) (nomark _)) (pw_or (pt_cmpR op_ne (pe_ix ix_list (pv 6) (pe_int) (fun _ _ => rfl)) (pe_ix ix_list (pv 4) (pv 5) (fun _ _ => rfl)) (nomark _)) (pw_or1 (pt_cmpR op_in_seq pe_non (pv 7) (by rfl))))).pt) (pss_one (ps_ret (pe_tup (pa_cons (pe_str) (pa_cons (pv 5) pa_nil))))) pss_nil)
      (pss_cons (ps_if ((pw_and (pt_cmpR op_eq (pv 5) pe_int (nomark _)) (pw_and1 (pt_cmpR op_ne (pe_callB call_len_seq (by rfl) T.bt.len b_len (pa_cons (pv 7) pa_nil)) pe_int (nomark _)))).pt) (pss_one (ps_ret (pe_tup (pa_cons (pe_str) (pa_cons (pe_int) pa_nil))))) pss_nil)
      (pss_one (ps_expr (pe_bm PySem.F.plainAttrs_list PySem.F.slot_list_append PySem.F.type_list_append mt_append (pv 3) (pa_cons (pe_callTy call_tuple_of (by rfl) T.bt.tuple b_tuple (pa_cons (pv 7) pa_nil)) pa_nil)))))))))
      (pss_cons (ps_set (i := 8) scSo.nd rfl (Or.inl rfl) (pe_ix ix_list (pv 3) (pe_int) (fun _ _ => rfl)))
      (pss_cons (ps_for PassesOwn.never rfl (pi_list (pe_slice sl_list (pv 3) (po_some pe_int) po_none)) (pg_name (i := 5) scSo.nd rfl (Or.inr rfl))
        (pss_one (ps_set (i := 8) scSo.nd rfl (Or.inl rfl) (pe_op op_catQ (pv 8) (pv 5)))))
      (pss_cons (ps_set (i := 9) scSo.nd rfl (Or.inl rfl) (pe_and (pe_cmpR op_le (pe_callB call_abs (by rfl) T.bt.abs (by decide +kernel) (pa_cons (pe_ix ix_tup (pe_ix ix_list (pv 3) (pe_int) (fun _ _ => rfl)) (pe_int) (fun _ _ => rfl)) pa_nil)) (pe_op op_pow pe_int pe_int) (nomark _)) (pe_one (pe_cmpR (op_eqQ hr.units) (pe_lc (own := [("_law_row", 5)]) (g := gName 5) (tt := tYes) (te := tCB (rLenS K) (tCons (tVar 5) tNil)) rfl scSo.nd (pi_list (pe_slice sl_list (pv 3) (po_some pe_int) po_none)) (blkOk_by (N := ["_law_plan", "_law_text", "_law_lines", "_law_rows", "_law_keywords", "_law_row", "_law_words", "_law_numbers", "_law_parcels", "_law_good", "_law_word", "_law_parcel"]) (sc := defScope sStOf) (by decide +kernel)) (fun _ _ _ _ _ => pg_name (i := 5) scSo.nd rfl (Or.inl rfl)) (fun _ _ _ _ _ => pts_nil) (fun _ _ _ _ _ => pe_callB (r := rLenS K) call_len_seq (by rfl) T.bt.len b_len (pa_cons (pv 5) pa_nil))) (pe_op op_cat (pe_lst (pa_cons (pe_callB call_len_seq (by rfl) T.bt.len b_len (pa_cons (pe_ix ix_tup (pv 0) (pe_int) (fun _ _ => rfl)) pa_nil)) pa_nil)) (pe_callTy call_list_of (by rfl) T.bt.list b_list (pa_cons (pe_ix ix_tup (pv 0) (pe_int) (fun _ _ => rfl)) pa_nil))) (nomark _)))))
      (pss_cons (ps_set (i := 9) scSo.nd rfl (Or.inl rfl) (pe_and (pv 9) (pe_one (pe_cmpR op_eq (pe_lenSetT (by rfl) T.bt.len (by rfl) T.bt.set (pv 8)) (pe_callB call_len_seq (by rfl) T.bt.len b_len (pa_cons (pv 8) pa_nil)) (nomark _)))))
      (pss_cons (ps_set (i := 9) scSo.nd rfl (Or.inl rfl) (pe_and (pv 9) (pe_one (pe_cmpR (op_eqQ hr.units) (pe_lc (own := [("_law_parcel", 11)]) (g := gName 11) (tt := _) (te := tVar 11) rfl scSo.nd (pi_tup (pv 8)) (blkOk_by (N := ["_law_plan", "_law_text", "_law_lines", "_law_rows", "_law_keywords", "_law_row", "_law_words", "_law_numbers", "_law_parcels", "_law_good", "_law_word", "_law_parcel"]) (sc := defScope sStOf) (by decide +kernel)) (fun _ _ _ _ _ => pg_name (i := 11) scSo.nd rfl (Or.inl rfl)) (fun _ _ _ _ _ => pts_one (pt_not (pt_chain op_le op_le pe_int (pv 11) pe_int))) (fun _ _ _ _ _ => pv 11)) (pe_lst pa_nil) (nomark _)))))
      (pss_one (ps_ret (pe_ifExp (pt_val (pv 9)) (pe_tup (pa_cons (pe_ix ix_tup (pe_ix ix_list (pv 3) (pe_int) (fun _ _ => rfl)) (pe_int) (fun _ _ => rfl)) (pa_cons (pe_ix ix_list (pv 3) (pe_int) (fun _ _ => rfl)) (pa_cons (pe_callTy call_tuple_of (by rfl) T.bt.tuple b_tuple (pa_cons (pe_slice sl_list (pv 3) (po_some pe_int) po_none) pa_nil)) pa_nil)))) (pe_tup (pa_cons (pe_str) pa_nil)))))))))))), ?_⟩
    obtain ⟨n1, n2, n3⟩ := spl_props 10 a []
    have es : Txt.split (SX.S a) (SX.S [10]) = (TL.spl [10] 0 [] a).map SX.S := SX.split_S (by decide) (by decide)
    have cod : ∀ l ∈ TL.spl [10] 0 [] a, Cod l := spl_cod 10 a [] (fun x hx => (List.not_mem_nil hx).elim) hc
    have nsum := spl_sum 10 a []
    generalize TL.spl [10] 0 [] a = L at n1 n2 n3 es hll cod q nsum
    rw [List.length_nil] at nsum
    have k900 : 900 + 2 ≤ sizeLine := Nat.le_of_lt (small1000 (by decide))
    have hL0 : 0 < L.length := List.length_pos_iff.mpr n1
    have z12 := hv.z1
    refine ⟨.str (SX.S a), rfl, ⟨_, rfl⟩, SX.S a, SX.S [10], rfl, rfl, rfl, by rw [SX.S_len]; omega, fun p0 hp0 => ?_⟩
    rw [es]
    have s1 := same_upd (o := .lst ((L.map SX.S).map V.str)) hp0
    have k1 : (upd H p0 (.lst ((L.map SX.S).map V.str))) p0 = some (.lst (L.map fun a => V.str (SX.S a))) := by rw [upd_same, List.map_map]; rfl
    generalize upd H p0 (.lst ((L.map SX.S).map V.str)) = H1 at s1 k1 ⊢
    refine ⟨Nat.zero_le _, fun pr hpr => ⟨_, _, rfl, ?_⟩⟩
    have s2 := same_upd (o := .lst []) hpr
    have kr0 : (upd H1 pr (.lst [])) pr = some (.lst []) := upd_same
    have hpr1 := hpr
    show _
    -- the rows' list apart
    generalize eH2 : upd H1 pr (.lst []) = H2 at s2 kr0 ⊢
    obtain ⟨az, bz, hp1, hpz, hpb⟩ := (hp.same (s1.trans s2)).ex
    refine ⟨(by show 2 ≤ sizeLine; decide), fun z1 hz1 => ⟨(by show 1 ≤ sizeLine; decide), fun z2 hz2 => ?_⟩⟩
    have s3 := same_upd (o := .lst [.str "time", .str "carried"]) hz1
    have g1 : (upd H2 z1 (.lst [.str "time", .str "carried"])) z1 = some (.lst [.str (SX.S tmW), .str (SX.S caW)]) := upd_same
    generalize upd H2 z1 (.lst [.str "time", .str "carried"]) = H3 at s3 g1 hz2 ⊢
    have s4 := same_upd (o := .lst [.str "shelf"]) hz2
    have g2 : (upd H3 z2 (.lst [.str "shelf"])) z2 = some (.lst [.str (SX.S shW)]) := upd_same
    show _
    generalize upd H3 z2 (.lst [.str "shelf"]) = H4 at s4 g2 ⊢
    have s34 := s3.trans s4
    have hzl : (zs.length : Nat) ≤ 12 := z12.2
    refine ⟨.ref p, rfl, p, _, 0, .ref az, rfl, rfl, sqT_same s34 hp1, rfl, az, _, rfl, .inr (sqT_same s34 hpz), z2, ((zs.map V.int).length : Nat), _, rfl, rfl, g2, by omega, by rw [List.length_map]; omega, ?_, fun z3 hz3 => ?_⟩
    · rw [List.length_map, Int.toNat_natCast]
      show 1 * zs.length ≤ sizeLine
      exact Nat.le_of_lt (small1000 (by omega))
    rw [List.length_map, Int.toNat_natCast]
    have s5 := same_upd (o := .lst (List.replicate zs.length [V.str (SX.S shW)]).flatten) hz3
    have g3 : (upd H4 z3 (.lst (List.replicate zs.length [V.str (SX.S shW)]).flatten)) z3 = some (.lst (List.replicate zs.length [V.str (SX.S shW)]).flatten) := upd_same
    generalize upd H4 z3 (.lst (List.replicate zs.length [V.str (SX.S shW)]).flatten) = H5 at s5 g3 ⊢
    have e5 : (List.replicate zs.length [V.str (SX.S shW)]).flatten.length = zs.length := by simp
    refine ⟨z1, z3, _, _, rfl, rfl, s5 _ _ (s4 _ _ g1), g3, ?_, fun pk hpk => ?_⟩
    · rw [e5]
      show 2 + zs.length ≤ sizeLine
      exact Nat.le_of_lt (small1000 (by omega))
    have s6 := same_upd (o := .lst (kwL zs.length)) hpk
    have kk : (upd H5 pk (.lst (kwL zs.length))) pk = some (.lst (kwL zs.length)) := upd_same
    show _
    have eK : ([V.str (SX.S tmW), V.str (SX.S caW)] ++ (List.replicate zs.length [V.str (SX.S shW)]).flatten) = kwL zs.length := rfl
    rw [eK]
    generalize upd H5 pk (.lst (kwL zs.length)) = H6 at s6 kk ⊢
    have s26 : Same H2 H6 := s34.trans (s5.trans s6)
    have hpk6 : H5 pk = none := hpk
    have k16 := s26 _ _ (s2 _ _ k1)
    have kr6 := s26 _ _ kr0
    have eN : (if (((kwL zs.length).length : Nat) : Int) > ((L.map fun a => V.str (SX.S a)).length : Nat) then (((kwL zs.length).length : Nat) : Int) else ((L.map fun a => V.str (SX.S a)).length : Nat)).toNat = max L.length (zs.length + 2) := by
      rw [List.length_map, kwL_len]
      by_cases h : ((zs.length + 2 : Nat) : Int) > (L.length : Nat)
      · rw [if_pos h]
        omega
      · rw [if_neg h]
        omega
    have eB : (if (((kwL zs.length).length : Nat) : Int) > ((L.map fun a => V.str (SX.S a)).length : Nat) then (((kwL zs.length).length : Nat) : Int) else ((L.map fun a => V.str (SX.S a)).length : Nat)) ≤ 1000 := by
      rw [List.length_map, kwL_len]
      split <;> omega
    have b62 : (1000 : Int) < 2 ^ 62 := by decide
    have hN1000 : max L.length (zs.length + 2) ≤ 1000 := by omega
    refine ⟨.ref p0, rfl, p0, _, rfl, .inl (.inl (.inl k16)), .ref pk, rfl, pk, _, rfl, .inl (.inl (.inl kk)), _, _, rfl, _, rfl, ?_, ?_, ?_⟩
    · have : (0 : Int) ≤ (if (((kwL zs.length).length : Nat) : Int) > ((L.map fun a => V.str (SX.S a)).length : Nat) then (((kwL zs.length).length : Nat) : Int) else ((L.map fun a => V.str (SX.S a)).length : Nat)) := by split <;> omega
      omega
    · omega
    rw [eN]
    generalize hN : max L.length (zs.length + 2) = N at hN1000 ⊢
    have eq1 : stF zs rs L = match rowsG zs.length L N with
      | .error j => dText j
      | .ok ([t] :: cs :: ss) => if StOk zs rs t (cs, ss) then dSt t (cs, ss) else dNoSt
      | .ok _ => .none := by rw [← hN]; rfl
    rw [eq1] at q
    have prk : pk ≠ pr := fun z => by rw [z, (s34.trans s5) _ _ kr0] at hpk6; cases hpk6
    have pp0 : p0 ≠ pr := ne_of_none k1 hpr
    have s16 : Same H1 H6 := s2.trans s26
    have same1 : ∀ {G : Hp}, SameD pr H6 G → Same H G := fun g => s1.trans fun b o e => g b o (ne_of_none e hpr) (s16 _ _ e)
    refine for_range (lo := 0) (n := N) (fun k σ G => (∃ y5 y6 y7, σ = [some (.ref p), some (.str (SX.S a)), some (.ref p0), some (.ref pr), some (.ref pk), y5, y6, y7, none, none, none, none]) ∧ SameD pr H6 G ∧ ∃ (qs : List Addr) (rw : List (List Int)), rowsG zs.length L k = .ok rw ∧ G pr = some (.lst (qs.map V.ref)) ∧ Paired (fun q s => SqT K G q (s.map V.int)) qs rw ∧ rw.length = k)
      ⟨⟨none, none, none, rfl⟩, fun b o _ e => e, [], [], rfl, kr6, .nil, rfl⟩ (fun k σ G hk ⟨⟨y5, y6, y7, eσ⟩, sd, qs, rw', er, kr, hP, hrk⟩ => ?_) (fun σ G ⟨⟨y5, y6, y7, eσ⟩, sd, qs, rw', er, kr, hP, hrk⟩ => ?_)
    · subst eσ
      rw [show (0 : Int) + (k : Nat) = (k : Nat) by omega]
      have g0 := sd _ _ pp0 k16
      have gk := sd _ _ prk kk
      have bad : rowG zs.length L k = none → ∀ F, Same G F → ∀ t, F t = none → Q (.ref t) (upd F t (.tup [.str "InvalidText", .int (k : Nat)])) := fun hb F smF t ht => by
        refine q _ t (((same1 sd).trans smF).trans (same_upd ht)) ?_
        rw [rowsG_bad er hb hk]
        exact .tup (.inl (.inl upd_same)) (.cons (.str _) (.cons (.int _) .nil))
      have wlen : ∀ w ∈ wordsO L k, w.length ≤ 640 ∧ Cod w := fun w hw => by
        unfold wordsO at hw
        cases e : L[k]? with
        | none =>
          rw [e] at hw
          rw [List.mem_singleton.mp hw]
          exact ⟨Nat.zero_le _, fun c hc => (List.not_mem_nil hc).elim⟩
        | some l =>
          rw [e] at hw
          have hlm := List.mem_of_getElem? e
          have h1 := (spl_props 32 l []).2.2 w hw
          rw [List.length_nil] at h1
          have h2 := hll l hlm
          exact ⟨by omega, spl_cod 32 l [] (fun x hx => (List.not_mem_nil hx).elim) (cod l hlm) w hw⟩
      have wcount : (wordsO L k).length ≤ 641 := by
        unfold wordsO
        cases e : L[k]? with
        | none => show 1 ≤ 641; decide
        | some l =>
          have h1 := (spl_props 32 l []).2.1
          have h2 := hll l (List.mem_of_getElem? e)
          show (TL.spl [32] 0 [] l).length ≤ 641
          omega
      refine seq_ways2 (B := fun σ' H' => ∃ p1, σ' = [some (.ref p), some (.str (SX.S a)), some (.ref p0), some (.ref pr), some (.ref pk), some (.int (k : Nat)), some (.ref p1), y7, none, none, none, none] ∧ Same G H' ∧ H' p1 = some (.lst ((wordsO L k).map fun a => V.str (SX.S a)))) (fun σ' G1 ⟨p1, eσ, t1, g1⟩ => ?_) (fun tail => ?_)
      rotate_left
      · refine ⟨.int (k : Nat), rfl, .ref p0, rfl, p0, _, rfl, .inl (.inl (.inl g0)), _, _, rfl, rfl, _, rfl, ?_⟩
        rw [List.length_map]
        by_cases hkL : k < L.length
        · rw [decide_eq_true (show (k : Int) < (L.length : Nat) by omega)]
          obtain ⟨l, hlk⟩ : ∃ l, L[k]? = some l := ⟨_, List.getElem?_eq_getElem hkL⟩
          have l640 := hll l (List.mem_of_getElem? hlk)
          have es2 : Txt.split (SX.S l) (SX.S [32]) = (TL.spl [32] 0 [] l).map SX.S := SX.split_S (by decide) (by decide)
          have ew : wordsO L k = TL.spl [32] 0 [] l := by unfold wordsO; rw [hlk]
          refine iteT ⟨.ref p0, rfl, .int (k : Nat), rfl, p0, _, _, .str (SX.S l), rfl, rfl, .inl (.inl g0), atI_nat (by rw [List.getElem?_map, hlk]; rfl), ⟨_, rfl⟩, SX.S l, SX.S [32], rfl, rfl, rfl, by rw [SX.S_len]; omega, fun p1 hp1 => tail _ _ ⟨p1, rfl, same_upd hp1, ?_⟩⟩
          rw [es2, upd_same, ew, List.map_map]
          rfl
        · rw [decide_eq_false (show ¬ (k : Int) < (L.length : Nat) by omega)]
          have ew : wordsO L k = [[]] := by unfold wordsO; rw [List.getElem?_eq_none (by omega)]
          refine iteF ⟨(by show 1 ≤ sizeLine; decide), fun p1 hp1 => tail _ _ ⟨p1, rfl, same_upd hp1, ?_⟩⟩
          rw [upd_same, ew]
          rfl
      subst eσ
      have hf : rowG zs.length L k = if zs.length + 2 ≤ k then none else match wordsO L k with
        | [] => none
        | x :: ps => if x = kwG k ∧ none ∉ numG k ps ∧ (k = 0 → ps.length = 1) then some (zsOf (numG k ps)) else none := rfl
      have hne := wordsO_ne (L := L) (k := k)
      generalize wordsO L k = ws at g1 hf wlen wcount hne
      cases ws with
      | nil => exact absurd rfl hne
      | cons x ws =>
      refine ⟨.ref p1, rfl, 1, rfl, p1, _, rfl, .inl (.inl g1), fun p2 hp2 => ?_⟩
      rw [cut1]
      have t2 := t1.trans (same_upd (o := .lst (List.drop 1 ((x :: ws).map fun a => V.str (SX.S a)))) hp2)
      have g2 : (upd G1 p2 (.lst (List.drop 1 ((x :: ws).map fun a => V.str (SX.S a))))) p2 = some (.lst (ws.map fun a => V.str (SX.S a))) := upd_same
      have g12 := (same_upd (o := .lst (List.drop 1 ((x :: ws).map fun a => V.str (SX.S a)))) hp2) _ _ g1
      generalize upd G1 p2 (.lst (List.drop 1 ((x :: ws).map fun a => V.str (SX.S a)))) = G2 at t2 g2 g12 ⊢
      have ws640 : ws.length ≤ 640 := by rw [List.length_cons] at wcount; omega
      refine ⟨p2, rfl, ⟨_, .inl (.inl g2)⟩, fun D hD => lc_list (xs := ws.map fun a => V.str (SX.S a)) (fun i F => Same G2 F ∧ F D = some (.lst (rV (numG k (ws.take i))))) ⟨same_upd hD, upd_same⟩ (fun _ F _ g => .inl (.inl (g.1 _ _ g2))) (fun j v F hv2 ⟨smF, kD⟩ => ?_) (fun F ⟨smF, kD⟩ => ?_)⟩
      · rw [List.getElem?_map] at hv2
        cases hj : ws[j]? with
        | none => rw [hj] at hv2; cases hv2
        | some b =>
        rw [hj] at hv2
        obtain rfl : V.str (SX.S b) = v := Option.some.inj hv2
        obtain ⟨b1, b2⟩ := wlen b (List.mem_cons_of_mem _ (List.mem_of_getElem? hj))
        have jlt := (List.getElem?_eq_some_iff.mp hj).1
        refine ⟨rfl, yes_go ⟨.str (SX.S b), rfl, .int (k : Nat), rfl, rfl, b, decide (V.int (k : Nat) = V.int 0), rfl, b1, b2, fun F2 smF2 => ⟨_, smF2 _ _ kD, ?_, same_of (smF.trans smF2) hD, ?_⟩⟩⟩
        · rw [rV_len]
          unfold numG
          rw [List.length_map, List.length_take]
          exact small1000 (by omega)
        · rw [upd_same]
          have ed : decide (V.int (k : Nat) = V.int 0) = decide (k = 0) := decide_eq_decide.mpr ⟨fun z => by have := V.int.inj z; omega, fun z => by rw [z]; rfl⟩
          unfold numG rV
          rw [List.take_add_one, hj, ed, List.map_append, List.map_append]
          rfl
      · rw [List.length_map, List.take_length] at kD
        have gkF := smF _ _ (t2 _ _ gk)
        have g1F := smF _ _ g12
        have kr5 : F pr = some (.lst (qs.map V.ref)) := smF _ _ (t2 _ _ kr)
        have t3 : Same G F := t2.trans smF
        have retB : rowG zs.length L k = none → (tTup (tCons (tC (V.str "InvalidText")) (tCons (tVar 5) tNil)) : TE) [some (.ref p), some (.str (SX.S a)), some (.ref p0), some (.ref pr), some (.ref pk), some (.int (k : Nat)), some (.ref p1), some (.ref D), none, none, none, none] F Q := fun hb => ⟨.int (k : Nat), rfl, (by show 2 ≤ sizeLine; decide), fun t ht => bad hb F t3 t ht⟩
        refine ⟨.int (k : Nat), rfl, .ref pk, rfl, pk, _, rfl, .inl (.inl (.inl gkF)), _, _, rfl, rfl, _, rfl, ?_⟩
        rw [kwL_len]
        by_cases hkn : zs.length + 2 ≤ k
        · rw [decide_eq_true (show ((zs.length + 2 : Nat) : Int) ≤ (k : Nat) by omega)]
          exact iteT (retB (hf.trans (if_pos hkn)))
        rw [decide_eq_false (show ¬ ((zs.length + 2 : Nat) : Int) ≤ (k : Nat) by omega)]
        replace hf : rowG zs.length L k = if x = kwG k ∧ none ∉ numG k ws ∧ (k = 0 → ws.length = 1) then some (zsOf (numG k ws)) else none := hf.trans (if_neg hkn)
        have hw1 : (V.str (SX.S x) = V.str (SX.S (kwG k))) ↔ x = kwG k := ⟨fun z => SX.S_inj (V.str.inj z), fun z => by rw [z]⟩
        refine iteF ⟨.ref p1, rfl, p1, _, 0, .str (SX.S x), rfl, rfl, .inl (.inl g1F), atI_nat (j := 0) rfl, .ref pk, rfl, .int (k : Nat), rfl, pk, _, _, .str (SX.S (kwG k)), rfl, rfl, .inl (.inl gkF), atI_nat (kwL_at (by omega)), rfl, _, rfl, ?_⟩
        by_cases hx : x = kwG k
        · refine ite2 (fun z => by rw [decide_eq_true (hw1.mpr hx)] at z; cases z) (fun _ => ?_)
          refine ⟨.ref D, rfl, D, _, rfl, .inl (.inl (.inl kD)), rfl, rV_flat, _, rfl, ?_⟩
          by_cases hnn : none ∈ numG k ws
          · exact ite2 (fun _ => retB (hf.trans (if_neg fun z => z.2.1 hnn))) (fun z => absurd (numG_in.trans (decide_eq_true hnn)) z)
          refine ite2 (fun z => absurd (of_decide_eq_true (numG_in.symm.trans z)) hnn) (fun _ => ?_)
          have nl : (rV (numG k ws)).length = ws.length := by rw [rV_len]; unfold numG; rw [List.length_map]
          refine tNext_nx ?_
          refine seq_ways2 (B := fun σ' H' => σ' = [some (.ref p), some (.str (SX.S a)), some (.ref p0), some (.ref pr), some (.ref pk), some (.int (k : Nat)), some (.ref p1), some (.ref D), none, none, none, none] ∧ H' = F ∧ (k = 0 → ws.length = 1)) (fun σ' H' ⟨eσ, eH, hone⟩ => ?_) (fun tail => ?_)
          rotate_left
          · refine ⟨.int (k : Nat), rfl, rfl, _, rfl, ?_⟩
            by_cases hk0 : k = 0
            · refine ite2 (fun _ => ⟨.ref D, rfl, D, _, rfl, .inl (.inl (.inl kD)), rfl, _, rfl, ?_⟩) (fun z => absurd (decide_eq_true (by rw [hk0]; rfl)) z)
              rw [nl]
              by_cases h1 : ws.length = 1
              · rw [h1]
                exact tail _ _ ⟨rfl, rfl, fun _ => h1⟩
              · have hb : rowG zs.length L k = none := hf.trans (if_neg fun z => h1 (z.2.2 hk0))
                refine ite2 (fun _ => ⟨(by show 2 ≤ sizeLine; decide), fun t ht => ?_⟩) (fun z => absurd (by rw [decide_eq_false (fun y => h1 (by have := V.int.inj y; omega))]; rfl) z)
                have := bad hb F t3 t ht
                rw [hk0] at this
                exact this
            · exact ite2 (fun z => absurd (by have := V.int.inj (of_decide_eq_true z); omega) hk0) (fun _ => tail _ _ ⟨rfl, rfl, fun z => absurd z hk0⟩)
          subst eσ
          subst eH
          have hrow : rowG zs.length L k = some (zsOf (numG k ws)) := hf.trans (if_pos ⟨hx, hnn, hone⟩)
          obtain ⟨vs, hvs⟩ := ints_of (r := numG k ws) fun e he z => hnn (by rw [z] at he; exact he)
          rw [hvs, zsOf_map] at hrow
          rw [hvs, rV_some] at kD
          refine ⟨.ref pr, rfl, .inl ⟨rfl, _, .inl (.inl kr5)⟩, .ref D, rfl, D, _, rfl, .inl ⟨.inl (.inl kD), fun u hu => ?_⟩⟩
          have t5 := same_upd (o := .tup (vs.map V.int)) hu
          have kr7 := t5 _ _ kr5
          have pl := segT_len hP
          refine ⟨pr, _, _, rfl, rfl, kr7, by rw [List.length_map]; exact small1000 (by omega), ⟨_, _, _, rfl⟩, (sd.trans (.of (t3.trans t5))).trans (fun b o hb e => by rw [upd_ne hb]; exact e), qs ++ [u], rw' ++ [vs], rowsG_snoc er hrow, by rw [upd_same, List.map_append]; rfl, ?_, by rw [List.length_append, hrk]; rfl⟩
          exact segT_snoc2 (sqT_lst kr7 (.inl (.inl upd_same))) (segT_imp (fun a xs h => sqT_lst kr7 (sqT_same (t3.trans t5) h)) hP)
        · exact ite2 (fun _ => retB (hf.trans (if_neg fun z => hx z.1))) (fun z => absurd (by rw [decide_eq_false (fun y => hx (hw1.mp y))]; rfl) z)
    · subst eσ
      have hN2 : 2 ≤ N := by omega
      obtain ⟨r0, cs, ss, rfl⟩ : ∃ r0 cs ss, rw' = r0 :: cs :: ss := by
        match rw', hrk with
        | [], h => exact absurd h.symm (by show N ≠ 0; omega)
        | [_], h => exact absurd h.symm (by show N ≠ 1; omega)
        | r0 :: cs :: ss, _ => exact ⟨r0, cs, ss, rfl⟩
      obtain ⟨t, rfl⟩ : ∃ t, r0 = [t] := by
        have h1 := (rowG_len ((rowsG_at er).2 0 r0 rfl)).1 rfl
        match r0, h1 with
        | [t], _ => exact ⟨t, rfl⟩
      cases hP with
      | @cons qt _ qr _ hqt hP =>
      cases hP with
      | @cons qc _ qss _ hqc hP =>
      rw [er] at q
      replace q : ∀ H' p, Same H H' → Dp K H' (.ref p) (if StOk zs rs t (cs, ss) then dSt t (cs, ss) else dNoSt) → Q (.ref p) H' := q
      have s7 := same1 sd
      have hlen : cs.length + ss.flatten.length ≤ 900 := by
        have h1 := rowsG_flat er
        have h2 : ((L.take N).map List.length).sum ≤ (L.map List.length).sum := by
          conv => rhs; rw [← List.take_append_drop N L, List.map_append, List.sum_append]
          omega
        rw [List.flatten_cons, List.flatten_cons, List.length_append, List.length_append] at h1
        omega
      refine ⟨.ref pr, rfl, pr, _, 1, .ref qc, rfl, rfl, .inl (.inl kr), atI_nat (j := 1) rfl, ?_⟩
      refine ⟨.ref pr, rfl, 2, rfl, pr, _, rfl, .inl (.inl kr), fun p2 hp2 => ?_⟩
      have c2 : cutV (List.map V.ref (qt :: qc :: qss)) (some 2) none = qss.map V.ref := cut_from (k := 2)
      rw [c2]
      have t1 := same_upd (o := .lst (qss.map V.ref)) hp2
      have g2 : (upd G p2 (.lst (qss.map V.ref))) p2 = some (.lst (qss.map V.ref)) := upd_same
      generalize upd G p2 (.lst (qss.map V.ref)) = G1 at t1 g2 ⊢
      have pl := segT_len hP
      refine ⟨p2, rfl, ⟨_, .inl (.inl g2)⟩, for_list (xs := qss.map V.ref) (fun i σ G2 => (∃ y5 pc, σ = [some (.ref p), some (.str (SX.S a)), some (.ref p0), some (.ref pr), some (.ref pk), y5, y6, y7, some (.ref pc), none, none, none] ∧ SqT K G2 pc ((cs ++ (ss.take i).flatten).map V.int)) ∧ Same G1 G2) ⟨⟨_, qc, rfl, ?_⟩, Same.refl _⟩ (fun i σ G2 _ h => .inl (.inl (h.2 _ _ g2))) (fun i v σ G2 hvi ⟨⟨y5', pc, eσ, hpc⟩, sm2⟩ => ?_) (fun σ G2 ⟨⟨y5', pc, eσ, hpc⟩, sm2⟩ => ?_)⟩
      · rw [List.take_zero, List.flatten_nil, List.append_nil]
        exact sqT_same t1 hqc
      · subst eσ
        obtain ⟨qk, hqk, rfl⟩ := refs_lt hvi
        obtain ⟨r, hr2, hqr⟩ := segT_at hP hqk
        refine ⟨.ref pc, rfl, .ref qk, rfl, ?_⟩
        refine cat_go hpc (sqT_same (t1.trans sm2) hqr) ?_ fun G3 p3 sm3 h3 => ⟨⟨_, p3, rfl, ?_⟩, sm2.trans sm3⟩
        · rw [List.length_map, List.length_map, List.length_append]
          have h1 : (ss.take (i + 1)).flatten.length ≤ ss.flatten.length := by
            conv => rhs; rw [← List.take_append_drop (i + 1) ss, List.flatten_append, List.length_append]
            omega
          rw [List.take_add_one, hr2, List.flatten_append, List.length_append] at h1
          have h2 : ((some r).toList).flatten.length = r.length := by simp
          rw [h2] at h1
          omega
        · rw [List.take_add_one, hr2, List.flatten_append, ← List.append_assoc, List.map_append]
          show SqT K G3 p3 (_ ++ ([r].flatten).map V.int)
          rw [show [r].flatten = r by simp]
          exact h3
      · subst eσ
        rw [List.length_map, pl, List.take_length] at hpc
        have s8 := s7.trans (t1.trans sm2)
        have tG := t1.trans sm2
        have kr2 := tG _ _ kr
        have hqt2 := sqT_same tG hqt
        have hqc2 := sqT_same tG hqc
        have hP2 := segT_imp (fun a xs => sqT_same tG) hP
        obtain ⟨az2, bz2, hp2', hpz2, hpb2⟩ := (hp.same s8).ex
        have z0 : ∀ z ∈ zs, 0 ≤ z := fun z hz => (hv.z2 z hz).1
        have fitsI := lens_fits (n := rs.length) (cs := cs) (ss := ss) z0
        have rl6 := hv.r1
        obtain ⟨qb, hqb, hPb⟩ := hpb2.ex
        have ql := paired_len hPb
        have ssl : ss.length ≤ 998 := by
          have := (rowsG_at er).1
          rw [List.length_cons, List.length_cons] at this
          omega
        -- the first word on it
        refine tNext_nx ?_
        refine seq_ways2 (B := fun σ' H' => ∃ g : Bool, σ' = [some (.ref p), some (.str (SX.S a)), some (.ref p0), some (.ref pr), some (.ref pk), y5', y6, y7, some (.ref pc), some (.bl g), none, none] ∧ Same G2 H' ∧ (g = true ↔ TimeOk t ∧ Fits rs.length zs (cs, ss))) (fun σ' G3 ⟨g1, eσ, t3, hg1⟩ => ?_) (fun tail => ?_)
        rotate_left
        · refine ⟨.ref pr, rfl, pr, _, 0, .ref qt, rfl, rfl, .inl (.inl kr2), atI_nat (j := 0) rfl, qt, _, 0, .int t, rfl, rfl, hqt2, rfl, t, rfl, 10, 30, rfl, rfl, ⟨by decide, by decide, by decide⟩, _, _, rfl, rfl, _, rfl, ?_⟩
          have e30 : (10 : Int) ^ (30 : Int).toNat = 1000000000000000000000000000000 := by decide +kernel
          have hT : ((if t < 0 then -t else t) ≤ (10 : Int) ^ (30 : Int).toNat) ↔ TimeOk t := by
            rw [e30]
            unfold TimeOk
            split <;> omega
          by_cases hTO : TimeOk t
          · refine ite2 (fun _ => ?_) (fun z => absurd (decide_eq_true (hT.mpr hTO)) z)
            refine ⟨.ref pr, rfl, 1, rfl, pr, _, rfl, .inl (.inl kr2), fun p5 hp5 => ?_⟩
            rw [cut1]
            have t5 := same_upd (o := .lst (List.drop 1 (List.map V.ref (qt :: qc :: qss)))) hp5
            have g5 : (upd G2 p5 (.lst (List.drop 1 (List.map V.ref (qt :: qc :: qss))))) p5 = some (.lst ((qc :: qss).map V.ref)) := upd_same
            generalize upd G2 p5 (.lst (List.drop 1 (List.map V.ref (qt :: qc :: qss)))) = G5 at t5 g5 ⊢
            have hPc : Paired (fun q s => SqT K G5 q (s.map V.int)) (qc :: qss) (cs :: ss) := .cons (sqT_same t5 hqc2) (segT_imp (fun a xs => sqT_same t5) hP2)
            refine ⟨p5, rfl, ⟨_, .inl (.inl g5)⟩, fun D hD => lc_list (xs := (qc :: qss).map V.ref) (fun i F => Same G5 F ∧ F D = some (.lst ((((cs :: ss).take i).map fun s => ((s.length : Nat) : Int)).map V.int))) ⟨same_upd hD, upd_same⟩ (fun _ F _ g => .inl (.inl (g.1 _ _ g5))) (fun j v F hvj ⟨smF, kD⟩ => ?_) (fun F ⟨smF, kD⟩ => ?_)⟩
            · obtain ⟨qk, hqk, rfl⟩ := refs_lt hvj
              obtain ⟨r, hr2, hqr⟩ := segT_at hPc hqk
              have jl := (List.getElem?_eq_some_iff.mp hr2).1
              rw [List.length_cons] at jl
              refine ⟨rfl, yes_go ⟨.ref qk, rfl, qk, _, rfl, .inr (sqT_same smF hqr), _, kD, ?_, same_of smF hD, ?_⟩⟩
              · rw [List.length_map, List.length_map, List.length_take]
                exact small1000 (by omega)
              · rw [upd_same, List.take_add_one, hr2, List.map_append, List.map_append, List.length_map]
                rfl
            · have el : ((qc :: qss).map V.ref).length = (cs :: ss).length := by rw [List.length_map, List.length_cons, List.length_cons, pl]
              rw [el, List.take_length] at kD
              have tF := t5.trans smF
              refine ⟨.ref p, rfl, p, _, 1, .ref bz2, rfl, rfl, sqT_same tF hp2', rfl, bz2, _, rfl, .inr (sqT_same tF hqb), (by show 1 ≤ sizeLine; decide), fun u1 hu1 => ?_⟩
              have t6 := same_upd (o := .lst [.int ((qb.map V.ref).length : Nat)]) hu1
              have g6 : (upd F u1 (.lst [.int ((qb.map V.ref).length : Nat)])) u1 = some (.lst [.int ((qb.map V.ref).length : Nat)]) := upd_same
              generalize upd F u1 (.lst [.int ((qb.map V.ref).length : Nat)]) = F6 at t6 g6 ⊢
              refine ⟨.ref p, rfl, p, _, 0, .ref az2, rfl, rfl, sqT_same (tF.trans t6) hp2', rfl, az2, _, rfl, .inr (sqT_same (tF.trans t6) hpz2), fun u2 hu2 => ?_⟩
              have t7 := same_upd (o := .lst (zs.map V.int)) hu2
              have g7 : (upd F6 u2 (.lst (zs.map V.int))) u2 = some (.lst (zs.map V.int)) := upd_same
              generalize upd F6 u2 (.lst (zs.map V.int)) = F7 at t7 g7 ⊢
              refine ⟨u1, u2, _, _, rfl, rfl, t7 _ _ g6, g7, ?_, fun u3 hu3 => ?_⟩
              · have e : (zs.map V.int).length = zs.length := List.length_map _
                show 1 + (zs.map V.int).length ≤ sizeLine
                rw [e]
                exact Nat.le_of_lt (small1000 (by omega))
              have t8 := same_upd (o := .lst ([V.int ((qb.map V.ref).length : Nat)] ++ zs.map V.int)) hu3
              have g8 : (upd F7 u3 (.lst ([V.int ((qb.map V.ref).length : Nat)] ++ zs.map V.int))) u3 = some (.lst ((((rs.length : Nat) : Int) :: zs).map V.int)) := by
                rw [upd_same, List.length_map, ql]
                rfl
              refine eqI_go (l := (cs :: ss).map fun s => ((s.length : Nat) : Int)) (l2 := ((rs.length : Nat) : Int) :: zs) (t8 _ _ (t7 _ _ (t6 _ _ kD))) g8 (by rw [List.length_map, List.length_cons]; omega) (by rw [List.length_cons]; omega) (tail _ _ ⟨_, rfl, tF.trans (t6.trans (t7.trans t8)), ?_⟩)
              rw [decide_eq_true_iff, fitsI]
              exact ⟨fun h => ⟨hTO, h⟩, fun h => h.2⟩
          · exact ite2 (fun z => absurd (hT.mp (of_decide_eq_true z)) hTO) (fun _ => tail _ _ ⟨false, rfl, Same.refl _, ⟨fun z => (nomatch z), fun z => absurd z.1 hTO⟩⟩)
        subst eσ
        have hpc3 := sqT_same t3 hpc
        -- the second
        refine seq_ways2 (B := fun σ' H' => ∃ g : Bool, σ' = [some (.ref p), some (.str (SX.S a)), some (.ref p0), some (.ref pr), some (.ref pk), y5', y6, y7, some (.ref pc), some (.bl g), none, none] ∧ H' = G3 ∧ (g = true ↔ g1 = true ∧ (cs ++ ss.flatten).Nodup)) (fun σ' G4 ⟨g2, eσ, eG, hg2⟩ => ?_) (fun tail => ?_)
        rotate_left
        · refine ⟨.bl g1, rfl, g1, rfl, ?_⟩
          cases g1 with
          | false => exact iteF (tail _ _ ⟨false, rfl, rfl, ⟨fun z => (nomatch z), fun z => (nomatch z.1)⟩⟩)
          | true =>
            refine iteT ⟨.ref pc, rfl, pc, cs ++ ss.flatten, rfl, hpc3, by rw [List.length_append]; omega, fun c hc1 hc2 => ⟨.ref pc, rfl, pc, _, rfl, .inr hpc3, rfl, ?_⟩⟩
            refine tail _ _ ⟨_, rfl, rfl, ?_⟩
            rw [List.length_map, decide_eq_true_iff, ← hc2]
            exact ⟨fun z => ⟨rfl, by have := V.int.inj z; omega⟩, fun z => by rw [z.2]⟩
        subst eσ
        subst eG
        have hpc4 := hpc3
        generalize hps : cs ++ ss.flatten = ps at hpc4 hg2
        have psl : ps.length ≤ 900 := by rw [← hps, List.length_append]; exact hlen
        -- the third
        refine seq_ways2 (B := fun σ' H' => ∃ g : Bool, σ' = [some (.ref p), some (.str (SX.S a)), some (.ref p0), some (.ref pr), some (.ref pk), y5', y6, y7, some (.ref pc), some (.bl g), none, none] ∧ Same G4 H' ∧ (g = true ↔ g2 = true ∧ ∀ x ∈ ps, 1 ≤ x ∧ x ≤ 999)) (fun σ' G5 ⟨g3, eσ, t5, hg3⟩ => ?_) (fun tail => ?_)
        rotate_left
        · refine ⟨.bl g2, rfl, g2, rfl, ?_⟩
          cases g2 with
          | false => exact iteF (tail _ _ ⟨false, rfl, Same.refl _, ⟨fun z => (nomatch z), fun z => (nomatch z.1)⟩⟩)
          | true =>
            refine iteT ⟨.ref pc, rfl, pc, rfl, ⟨_, hpc4⟩, fun D hD => lc_tup (xs := ps.map V.int) (fun i F => Same G4 F ∧ F D = some (.lst (((ps.take i).filter fun x => !decide (1 ≤ x ∧ x ≤ 999)).map V.int))) ⟨same_upd hD, upd_same⟩ (fun _ F _ g => sqT_same g.1 hpc4) (fun j v F hvj ⟨smF, kD⟩ => ?_) (fun F ⟨smF, kD⟩ => ?_)⟩
            · obtain ⟨x, hx, rfl⟩ := iV_lt hvj
              have jl := (List.getElem?_eq_some_iff.mp hx).1
              refine ⟨rfl, notChain (n := x) (fun Q h => ⟨.int x, rfl, h⟩) ?_⟩
              by_cases hok : 1 ≤ x ∧ x ≤ 999
              · rw [decide_eq_true hok]
                refine iteF ⟨smF, ?_⟩
                rw [List.take_add_one, hx, List.filter_append]
                show _ = some (HO.lst ((_ ++ List.filter _ [x]).map _))
                rw [show List.filter (fun x : Int => !decide (1 ≤ x ∧ x ≤ 999)) [x] = [] by simp [hok], List.append_nil]
                exact kD
              · rw [decide_eq_false hok]
                refine iteT ⟨.int x, rfl, _, kD, ?_, same_of smF hD, ?_⟩
                · rw [List.length_map]
                  have h1 := List.length_filter_le (fun x : Int => !decide (1 ≤ x ∧ x ≤ 999)) (ps.take j)
                  rw [List.length_take] at h1
                  exact small1000 (by omega)
                · rw [upd_same, List.take_add_one, hx, List.filter_append]
                  show _ = some (HO.lst ((_ ++ List.filter _ [x]).map _))
                  rw [show List.filter (fun x : Int => !decide (1 ≤ x ∧ x ≤ 999)) [x] = [x] by simp only [List.filter_cons, List.filter_nil, decide_eq_false hok]; rfl, List.map_append]
                  rfl
            · rw [List.length_map, List.take_length] at kD
              refine ⟨Nat.zero_le _, fun z hz0 => ?_⟩
              have t6 := same_upd (o := .lst []) hz0
              refine eqI_go (l := ps.filter fun x => !decide (1 ≤ x ∧ x ≤ 999)) (l2 := []) (t6 _ _ kD) upd_same ?_ (Nat.zero_le _) (tail _ _ ⟨_, rfl, smF.trans t6, ?_⟩)
              · have h1 := List.length_filter_le (fun x : Int => !decide (1 ≤ x ∧ x ≤ 999)) ps
                omega
              · rw [decide_eq_true_iff, List.filter_eq_nil_iff]
                constructor
                · intro h
                  refine ⟨rfl, fun x hx => ?_⟩
                  have := h x hx
                  simpa using this
                · rintro ⟨_, h⟩ x hx
                  rw [decide_eq_true (h x hx)]
                  decide
        subst eσ
        have hgood : g3 = true ↔ StOk zs rs t (cs, ss) := by
          rw [hg3, hg2, hg1]
          constructor
          · rintro ⟨⟨⟨h1, h2⟩, h3⟩, h4⟩
            exact ⟨h1, h2, by unfold join; rw [show (cs, ss).1 ++ (cs, ss).2.flatten = ps from hps]; exact ⟨h4, h3⟩⟩
          · intro h
            have hp5 := h.p
            unfold join at hp5
            rw [show (cs, ss).1 ++ (cs, ss).2.flatten = ps from hps] at hp5
            exact ⟨⟨⟨h.t, h.f⟩, hp5.2⟩, hp5.1⟩
        have s9 := s8.trans (t3.trans t5)
        have t35 := t3.trans t5
        refine ⟨.bl g3, rfl, g3, rfl, ?_⟩
        cases g3 with
        | true =>
          rw [if_pos (hgood.mp rfl)] at q
          refine iteT ⟨.ref pr, rfl, pr, _, 0, .ref qt, rfl, rfl, .inl (.inl (t35 _ _ kr2)), atI_nat (j := 0) rfl, qt, _, 0, .int t, rfl, rfl, sqT_same t35 hqt2, rfl, .ref pr, rfl, pr, _, 1, .ref qc, rfl, rfl, .inl (.inl (t35 _ _ kr2)), atI_nat (j := 1) rfl, .ref pr, rfl, 2, rfl, pr, _, rfl, .inl (.inl (t35 _ _ kr2)), fun p5 hp5 => ?_⟩
          rw [c2]
          have t6 := same_upd (o := .lst (qss.map V.ref)) hp5
          have g6 : (upd G5 p5 (.lst (qss.map V.ref))) p5 = some (.lst (qss.map V.ref)) := upd_same
          generalize upd G5 p5 (.lst (qss.map V.ref)) = G6 at t6 g6 ⊢
          refine ⟨p5, _, rfl, .inl ⟨.inl (.inl g6), fun p6 hp6 => ⟨(by show 3 ≤ sizeLine; decide), fun p7 hp7 => ?_⟩⟩⟩
          have t7 := same_upd (o := .tup (qss.map V.ref)) hp6
          have g7 : (upd G6 p6 (.tup (qss.map V.ref))) p6 = some (.tup (qss.map V.ref)) := upd_same
          have t8 := same_upd (o := .tup [.int t, .ref qc, .ref p6]) hp7
          have t68 := t6.trans (t7.trans t8)
          refine q _ p7 (s9.trans t68) (.tup (.inl (.inl upd_same)) (.cons (.int t) (.cons (dp_ti (sqT_same (t35.trans t68) hqc2)) (.cons (.tup (.inl (.inl (t8 _ _ g7))) (dpAll_ti (segT_imp (fun a xs => sqT_same (t35.trans t68)) hP2))) .nil))))
        | false =>
          rw [if_neg (fun z => nomatch hgood.mpr z)] at q
          exact iteF ⟨(by show 1 ≤ sizeLine; decide), fun u hu => q _ u (s9.trans (same_upd hu)) (.tup (.inl (.inl upd_same)) (.cons (.str _) .nil))⟩
end
end Sv
set_option maxHeartbeats 4000000
namespace Sv
open PySem PySem.Spec PyProof.Rows L2
theorem spl_acc (s : Nat) : ∀ (l acc : List Nat), ∃ h t, TL.spl [s] 0 [] l = h :: t ∧ TL.spl [s] 0 acc l = (acc ++ h) :: t
  | [], acc => ⟨[], [], by rw [TL.spl_nil], by rw [TL.spl_nil, List.append_nil]⟩
  | c :: r, acc => by
    cases e : TL.pre [s] (c :: r) with
    | true => exact ⟨[], _, TL.spl_hit e, by rw [TL.spl_hit e, List.append_nil]⟩
    | false =>
      obtain ⟨h, t, e1, e2⟩ := spl_acc s r (acc ++ [c])
      obtain ⟨h', t', e1', e2'⟩ := spl_acc s r ([] ++ [c])
      rw [e1] at e1'
      obtain ⟨rfl, rfl⟩ := List.cons.inj e1'
      exact ⟨c :: h, t, by rw [TL.spl_miss e, e2']; rfl, by rw [TL.spl_miss e, e2, List.append_assoc]; rfl⟩
def LnB (m : Nat) (l : List Nat) : Prop := ∀ p ∈ TL.spl [10] 0 [] l, p.length ≤ m
theorem LnB.of_acc {m : Nat} {l acc : List Nat} (h : ∀ p ∈ TL.spl [10] 0 acc l, p.length ≤ m) : LnB m l := by
  obtain ⟨x, t, e1, e2⟩ := spl_acc 10 l acc
  rw [e2] at h
  intro p hp
  rw [e1] at hp
  rcases List.mem_cons.mp hp with rfl | hp
  · have := h _ (List.mem_cons_self ..)
    rw [List.length_append] at this
    omega
  · exact h p (List.mem_cons_of_mem _ hp)
theorem LnB.drop {m : Nat} : ∀ {l : List Nat} (i : Nat), LnB m l → LnB m (l.drop i)
  | l, 0, h => h
  | [], i + 1, h => h
  | c :: r, i + 1, h => by
    refine LnB.drop (l := r) i ?_
    cases e : TL.pre [10] (c :: r) with
    | true =>
      intro p hp
      refine h p ?_
      rw [TL.spl_hit e]
      exact List.mem_cons_of_mem _ hp
    | false =>
      unfold LnB at h
      rw [TL.spl_miss e] at h
      exact LnB.of_acc h
theorem lb_take {m : Nat} : ∀ {l acc : List Nat} (i : Nat), (∀ p ∈ TL.spl [10] 0 acc l, p.length ≤ m) → ∀ p ∈ TL.spl [10] 0 acc (l.take i), p.length ≤ m
  | l, acc, 0, h => by
    obtain ⟨x, t, _, e2⟩ := spl_acc 10 l acc
    rw [e2] at h
    have := h _ (List.mem_cons_self ..)
    rw [List.length_append] at this
    intro p hp
    rw [List.take_zero, TL.spl_nil, List.mem_singleton] at hp
    rw [hp]
    omega
  | [], acc, i + 1, h => h
  | c :: r, acc, i + 1, h => by
    rw [List.take_succ_cons]
    have pe : TL.pre [10] (c :: r) = (c == 10) := by
      unfold TL.pre
      show ([c] == [10]) = _
      simp
    have pe2 : TL.pre [10] (c :: r.take i) = (c == 10) := by
      unfold TL.pre
      show ([c] == [10]) = _
      simp
    cases e : c == 10 with
    | true =>
      rw [TL.spl_hit (pe.trans e)] at h
      rw [TL.spl_hit (pe2.trans e)]
      intro p hp
      rcases List.mem_cons.mp hp with rfl | hp
      · exact h _ (List.mem_cons_self ..)
      · exact lb_take (l := r) (acc := []) i (fun p hp => h p (List.mem_cons_of_mem _ hp)) p hp
    | false =>
      rw [TL.spl_miss (pe.trans e)] at h
      rw [TL.spl_miss (pe2.trans e)]
      exact lb_take i h
theorem LnB.take {m : Nat} {l : List Nat} (i : Nat) (h : LnB m l) : LnB m (l.take i) := lb_take i h
theorem lb_app {m1 m2 : Nat} {y : List Nat} (hy : LnB m2 y) : ∀ (x acc : List Nat), (∀ p ∈ TL.spl [10] 0 acc x, p.length ≤ m1) → ∀ p ∈ TL.spl [10] 0 acc (x ++ y), p.length ≤ m1 + m2
  | [], acc, h => by
    have ha : acc.length ≤ m1 := h acc (by rw [TL.spl_nil]; exact List.mem_singleton.mpr rfl)
    obtain ⟨x, t, e1, e2⟩ := spl_acc 10 y acc
    unfold LnB at hy
    rw [e1] at hy
    intro p hp
    rw [List.nil_append, e2] at hp
    rcases List.mem_cons.mp hp with rfl | hp
    · have := hy _ (List.mem_cons_self ..)
      rw [List.length_append]
      omega
    · have := hy p (List.mem_cons_of_mem _ hp)
      omega
  | c :: r, acc, h => by
    have pe : ∀ z, TL.pre [10] (c :: z) = (c == 10) := fun z => by
      unfold TL.pre
      show ([c] == [10]) = _
      simp
    rw [List.cons_append]
    cases e : c == 10 with
    | true =>
      rw [TL.spl_hit ((pe r).trans e)] at h
      rw [TL.spl_hit ((pe _).trans e)]
      intro p hp
      rcases List.mem_cons.mp hp with rfl | hp
      · have := h _ (List.mem_cons_self ..)
        omega
      · exact lb_app hy r [] (fun p hp => h p (List.mem_cons_of_mem _ hp)) p hp
    | false =>
      rw [TL.spl_miss ((pe r).trans e)] at h
      rw [TL.spl_miss ((pe _).trans e)]
      exact lb_app hy r (acc ++ [c]) h
theorem LnB.app {m1 m2 : Nat} {x y : List Nat} (h1 : LnB m1 x) (h2 : LnB m2 y) : LnB (m1 + m2) (x ++ y) := lb_app h2 x [] h1
theorem LnB.one {c : Nat} : LnB 1 [c] := fun p hp => by
  have := (spl_props 10 [c] []).2.2 p hp
  exact this
theorem LnB.mono {m m2 : Nat} {l : List Nat} (h : LnB m l) (hm : m ≤ m2) : LnB m2 l := fun p hp => Nat.le_trans (h p hp) hm
/-- no line holds a line feed -/
theorem spl_no (s : Nat) : ∀ (l acc : List Nat), s ∉ acc → ∀ p ∈ TL.spl [s] 0 acc l, s ∉ p
  | [], acc, h => by
    rw [TL.spl_nil]
    intro p hp
    rw [List.mem_singleton.mp hp]
    exact h
  | c :: r, acc, h => by
    have pe : TL.pre [s] (c :: r) = (c == s) := by
      unfold TL.pre
      show ([c] == [s]) = _
      simp
    cases e : c == s with
    | true =>
      rw [TL.spl_hit (pe.trans e)]
      intro p hp
      rcases List.mem_cons.mp hp with rfl | hp
      · exact h
      · exact spl_no s r [] (fun z => nomatch z) p hp
    | false =>
      rw [TL.spl_miss (pe.trans e)]
      refine spl_no s r (acc ++ [c]) (fun z => ?_)
      rcases List.mem_append.mp z with z | z
      · exact h z
      · rw [← List.mem_singleton.mp z] at e
        simp at e
theorem LnB.join {m : Nat} {ys : List (List Nat)} (h1 : ∀ y ∈ ys, 10 ∉ y) (h2 : ∀ y ∈ ys, y.length ≤ m) : LnB m (TL.joinL [10] ys) := by
  unfold LnB
  by_cases hn : ys = []
  · rw [hn]
    intro p hp
    rw [show TL.joinL [10] [] = [] from rfl, TL.spl_nil, List.mem_singleton] at hp
    rw [hp]
    exact Nat.zero_le _
  · rw [SX.spl_join hn h1]
    exact h2
theorem spl_sum2 (s : Nat) : ∀ (l acc : List Nat), ((TL.spl [s] 0 acc l).map List.length).sum + (TL.spl [s] 0 acc l).length ≤ acc.length + l.length + 1
  | [], acc => by
    rw [TL.spl_nil]
    simp
  | c :: r, acc => by
    cases h : TL.pre [s] (c :: r) with
    | true =>
      rw [TL.spl_hit h]
      have h1 := spl_sum2 s r []
      rw [List.length_nil, Nat.zero_add] at h1
      rw [List.map_cons, List.sum_cons, List.length_cons, List.length_cons]
      show acc.length + ((TL.spl [s] 0 [] r).map List.length).sum + ((TL.spl [s] 0 [] r).length + 1) ≤ _
      have h2 : ∀ S c, S + c ≤ r.length + 1 → acc.length + S + (c + 1) ≤ acc.length + (r.length + 1) + 1 := fun S c h => by omega
      exact h2 _ _ h1
    | false =>
      rw [TL.spl_miss h]
      have := spl_sum2 s r (acc ++ [c])
      rw [List.length_append, List.length_singleton] at this
      rw [List.length_cons]
      omega
theorem joinL_cod {ys : List (List Nat)} (h : ∀ y ∈ ys, Cod y) : Cod (TL.joinL [10] ys) := by
  match ys, h with
  | [], _ => exact fun c hc => (List.not_mem_nil hc).elim
  | [y], h => exact h y (List.mem_singleton.mpr rfl)
  | y :: z :: r, h =>
    intro c hc
    rcases List.mem_append.mp hc with hc | hc
    · exact h y (List.mem_cons_self ..) c hc
    · rcases List.mem_cons.mp hc with rfl | hc
      · decide
      · exact joinL_cod (ys := z :: r) (fun y hy => h y (List.mem_cons_of_mem _ hy)) c hc
theorem Cod.take {a : List Nat} (h : Cod a) (n : Nat) : Cod (a.take n) := fun c hc => h c (List.mem_of_mem_take hc)
theorem Cod.app {a b : List Nat} (h : Cod a) (h2 : Cod b) : Cod (a ++ b) := fun c hc => (List.mem_append.mp hc).elim (h c) (h2 c)
/-- a text of at most n signs, its lines of at most m -/
structure TxB (n m : Nat) (a : List Nat) : Prop where
  n : a.length ≤ n
  m : LnB m a
  c : Cod a
section
variable {P : Program} {w : World} {K : PySem.W.Frag} {mg : Str → Option Value} {base : Heap}
theorem scCh : FnScope ["_law_state", "_law_text", "_law_at", "_law_branch", "_law_character", "_law_lines", "_law_row", "_law_changed_here"] ["_law_state", "_law_text"] (defScope sChanged) := ⟨rfl, rfl, rfl, by decide +kernel, rfl, by decide +kernel, by decide +kernel⟩
def spCh (K : PySem.W.Frag) : Sp := fun vs H Q _ => ∃ (h sc : Addr) (a : List Nat) (n m : Nat), vs = [.ref h, .str (SX.S a)] ∧ LawD K H h sc ∧ TxB n m a ∧ n ≤ 800 ∧ m ≤ 300 ∧ ∀ H' b, StD K h sc H H' → TxB (n + m + 2) (2 * m + 1) b → Q (.str (SX.S b)) H'
theorem ok_ch (T : Bd P K mg) : FnOk P w K mg base CX0 2 T.aLChanged T.dLChanged ["_law_state", "_law_text"] (spCh K) := by
  have GN : FnOk P w K mg base CX0 1 T.aLDrawn T.dLDrawn ["_law_state", "_law_count"] (qDrawn K) := by unfold qDrawn; exact ok_drawn T.LDrawn.F T.bt
  refine T.LChanged.F.ok scCh (fun vs H Q E h => ?_) (fun cdv A outer s H vs Q E hr h => ?_)
  · obtain ⟨h, sc, a, n, m, rfl, _⟩ := h
    rfl
  · obtain ⟨h, sc, a, n, m, rfl, LH, tx, n800, m300, q⟩ := h
    refine ⟨_, pss_cons (ps_par (i := 2) (j := 3) rfl scCh.nd rfl rfl (by decide) rfl rfl (pa_cons (pe_call (E := E0) GN (hr.mono (by decide)) (by rfl) T.LDrawn.g T.LDrawn.F.kp T.LDrawn.b .nil pass0 (pa_cons (pv 0) (pa_cons (pe_op op_add (pe_callB call_len_str (by rfl) T.bt.len b_len (pa_cons (pv 1) pa_nil)) (pe_int)) pa_nil))) (pa_cons (pe_call (E := E0) GN (hr.mono (by decide)) (by rfl) T.LDrawn.g T.LDrawn.F.kp T.LDrawn.b .nil pass0 (pa_cons (pv 0) (pa_cons (pe_int) pa_nil))) pa_nil)) (by rfl))
      (pss_cons (ps_set (i := 4) scCh.nd rfl (Or.inl rfl) (pe_ix ix_str pe_str (pe_call (E := E0) GN (hr.mono (by decide)) (by rfl) T.LDrawn.g T.LDrawn.F.kp T.LDrawn.b .nil pass0 (pa_cons (pv 0) (pa_cons (pe_int) pa_nil))) (fun _ _ => rfl)))
      (pss_cons (ps_set (i := 5) scCh.nd rfl (Or.inl rfl) (pe_split (pv 1) pe_str))
      (pss_cons (ps_set (i := 6) scCh.nd rfl (Or.inl rfl) (pe_call (E := E0) GN (hr.mono (by decide)) (by rfl) T.LDrawn.g T.LDrawn.F.kp T.LDrawn.b .nil pass0 (pa_cons (pv 0) (pa_cons (pe_callB call_len_seq (by rfl) T.bt.len b_len (pa_cons (pv 5) pa_nil)) pa_nil))))
      (pss_cons (ps_set (i := 7) scCh.nd rfl (Or.inl rfl) (pe_lst (pa_cons (pe_op op_add_str (pe_op op_add_str (pe_slice C8.sl_txt (pv 1) (po_none) (po_some (pv 2))) (pv 4)) (pe_slice C8.sl_txt (pv 1) (po_some (pv 2)) (po_none))) (pa_cons (pe_op op_add_str (pe_op op_add_str (pe_slice C8.sl_txt (pv 1) (po_none) (po_some (pv 2))) (pv 4)) (pe_slice C8.sl_txt (pv 1) (po_some (pe_op op_add (pv 2) (pe_int))) (po_none))) (pa_cons (pe_op op_add_str (pe_slice C8.sl_txt (pv 1) (po_none) (po_some (pv 2))) (pe_slice C8.sl_txt (pv 1) (po_some (pe_op op_add (pv 2) (pe_int))) (po_none))) pa_nil)))))
      (pss_cons (ps_set (i := 7) scCh.nd rfl (Or.inl rfl) (pe_op op_cat (pv 7) (pe_lst (pa_cons (pv 1) (pa_cons (pe_join pe_str (pe_op op_cat (pe_slice sl_list (pv 5) (po_none) (po_some (pv 6))) (pe_slice sl_list (pv 5) (po_some (pe_op op_add (pv 6) (pe_int))) (po_none)))) pa_nil)))))
      (pss_cons (ps_set (i := 5) scCh.nd rfl (Or.inl rfl) (pe_op op_cat (pe_op op_cat (pe_slice sl_list (pv 5) (po_none) (po_some (pv 6))) (pe_lst (pa_cons (pe_ix ix_list (pv 5) (pe_op op_sub (pe_int) (pe_int)) (fun _ _ => rfl)) pa_nil))) (pe_slice sl_list (pv 5) (po_some (pv 6)) (po_none))))
      (pss_one (ps_ret (pe_ix ix_list (pe_op op_cat (pv 7) (pe_lst (pa_cons (pe_join pe_str (pv 5)) pa_nil))) (pv 3) (fun _ _ => rfl)))))))))), ?_⟩
    have al : a.length ≤ 800 := Nat.le_trans tx.n n800
    have k1100 : 1100 ≤ sizeLine := by rw [sizeLine_eq]; decide
    have zl : (SX.S a).length ≤ sizeLine := by rw [SX.S_len]; omega
    have p64 : (1000 : Int) < 2 ^ 64 := by decide
    have ea : (SX.S a).length = a.length := SX.S_len a
    refine ⟨.ref h, rfl, .str (SX.S a), rfl, SX.S a, rfl, zl, _, _, rfl, rfl, ?_⟩
    show qDrawn _ _ _ _ _
    refine go_drawn LH (by omega) (by omega) fun at' H1 hat L1 x1 => ⟨.ref h, rfl, ?_⟩
    have S1 := (StD.refl LH).next L1 x1
    show qDrawn _ _ _ _ _
    refine go_drawn L1 (by decide) (by decide) fun br H2 hbr L2' x2 => ⟨_, _, rfl, .ref h, rfl, ?_⟩
    have S2 := S1.next L2' x2
    show qDrawn _ _ _ _ _
    refine go_drawn L2' (by decide) (by decide) fun ci H3 hci L3 x3 => ?_
    have S3 := S2.next L3 x3
    obtain ⟨ch, hch, hchb⟩ : ∃ ch, atI ((" \n0123456789resthizA-~" : Str)).cps.toList (ci : Nat) = some ch ∧ ch < 1114112 := by
      have e : (" \n0123456789resthizA-~" : Str).cps.toList = [32, 10, 48, 49, 50, 51, 52, 53, 54, 55, 56, 57, 114, 101, 115, 116, 104, 105, 122, 65, 45, 126] := rfl
      have hlt : ci < 22 := by omega
      obtain ⟨c, hc⟩ : ∃ c, ([32, 10, 48, 49, 50, 51, 52, 53, 54, 55, 56, 57, 114, 101, 115, 116, 104, 105, 122, 65, 45, 126] : List Nat)[ci]? = some c := ⟨_, List.getElem?_eq_getElem hlt⟩
      refine ⟨c, by rw [e]; exact atI_nat hc, ?_⟩
      exact (by decide : ∀ c ∈ ([32, 10, 48, 49, 50, 51, 52, 53, 54, 55, 56, 57, 114, 101, 115, 116, 104, 105, 122, 65, 45, 126] : List Nat), c < 1114112) c (List.mem_of_getElem? hc)
    refine ⟨_, _, _, rfl, rfl, (by decide : (" \n0123456789resthizA-~" : Str).length ≤ sizeLine), hch, ?_⟩
    obtain ⟨n1, n2, n3⟩ := spl_props 10 a []
    have es : Txt.split (SX.S a) (SX.S [10]) = (TL.spl [10] 0 [] a).map SX.S := SX.split_S (by decide) (by decide)
    have lcod := spl_cod 10 a [] (fun x hx => (List.not_mem_nil hx).elim) tx.c
    have lno := spl_no 10 a [] (fun z => nomatch z)
    have lm : ∀ p ∈ TL.spl [10] 0 [] a, p.length ≤ m := tx.m
    have lsum := spl_sum2 10 a []
    generalize TL.spl [10] 0 [] a = L at n1 n2 n3 es lcod lno lm lsum
    rw [List.length_nil, Nat.zero_add] at lsum
    have hL0 : 0 < L.length := List.length_pos_iff.mpr n1
    refine ⟨.str (SX.S a), rfl, ⟨_, rfl⟩, SX.S a, SX.S [10], rfl, rfl, rfl, by rw [SX.S_len]; omega, fun p0 hp0 => ?_⟩
    rw [es]
    have n0 := S3.law.nh hp0
    have S4 := S3.same (same_upd (o := .lst ((L.map SX.S).map V.str)) hp0)
    have k4 : (upd H3 p0 (.lst ((L.map SX.S).map V.str))) p0 = some (.lst (L.map fun a => V.str (SX.S a))) := by rw [upd_same, List.map_map]; rfl
    generalize upd H3 p0 (.lst ((L.map SX.S).map V.str)) = H4 at S4 k4 ⊢
    refine ⟨.ref h, rfl, .ref p0, rfl, p0, _, rfl, .inl (.inl (.inl k4)), ?_⟩
    rw [List.length_map]
    show qDrawn _ _ _ _ _
    refine go_drawn S4.law (by omega) (by omega) fun row H5 hrow L5 x5 => ?_
    have S5 := S4.next L5 x5
    have k5 := x5 _ _ n0 k4
    have hrow2 : row < L.length := by omega
    have c1 : Txt.slice (SX.S a) none (some ((at' : Nat) : Int)) = SX.S (a.take at') := SX.slice_to (by omega)
    have c2 : Txt.slice (SX.S a) (some ((at' : Nat) : Int)) none = SX.S (a.drop at') := SX.slice_from (by omega)
    have c3 : Txt.slice (SX.S a) (some ((at' : Nat) + 1 : Int)) none = SX.S (a.drop (at' + 1)) := SX.slice_from (i := ((at' + 1 : Nat) : Int)) (by omega)
    have lt1 : (a.take at').length ≤ 800 := by rw [List.length_take]; omega
    have ld1 : (a.drop at').length ≤ 800 := by rw [List.length_drop]; omega
    have ld2 : (a.drop (at' + 1)).length ≤ 800 := by rw [List.length_drop]; omega
    have j1 : (SX.S (a.take at')).length + (SX.S [ch]).length ≤ sizeLine := by rw [SX.S_len, SX.S_len, sizeLine_eq]; show (a.take at').length + 1 ≤ _; omega
    have big : ∀ x y : List Nat, x.length ≤ 801 → y.length ≤ 800 → (SX.S x).length + (SX.S y).length ≤ sizeLine := fun x y hx hy => by rw [SX.S_len, SX.S_len, sizeLine_eq]; omega
    have lt2 : (a.take at' ++ [ch]).length ≤ 801 := by rw [List.length_append]; show _ + 1 ≤ 801; omega
    refine ⟨.str (SX.S a), rfl, .int (at' : Nat), rfl, _, rfl, SX.S a, rfl, zl, ?_⟩
    rw [c1]
    refine ⟨.str (SX.S [ch]), rfl, SX.S (a.take at'), SX.S [ch], rfl, rfl, j1, ?_⟩
    rw [SX.S_cat]
    refine ⟨.str (SX.S a), rfl, .int (at' : Nat), rfl, _, rfl, SX.S a, rfl, zl, ?_⟩
    rw [c2]
    refine ⟨SX.S (a.take at' ++ [ch]), SX.S (a.drop at'), rfl, rfl, big _ _ lt2 ld1, ?_⟩
    rw [SX.S_cat]
    refine ⟨.str (SX.S a), rfl, .int (at' : Nat), rfl, _, rfl, SX.S a, rfl, zl, ?_⟩
    rw [c1]
    refine ⟨.str (SX.S [ch]), rfl, SX.S (a.take at'), SX.S [ch], rfl, rfl, j1, ?_⟩
    rw [SX.S_cat]
    refine ⟨.str (SX.S a), rfl, .int (at' : Nat), rfl, _, 1, rfl, rfl, _, rfl, SX.S a, rfl, zl, ?_⟩
    rw [c3]
    refine ⟨SX.S (a.take at' ++ [ch]), SX.S (a.drop (at' + 1)), rfl, rfl, big _ _ lt2 ld2, ?_⟩
    rw [SX.S_cat]
    refine ⟨.str (SX.S a), rfl, .int (at' : Nat), rfl, _, rfl, SX.S a, rfl, zl, ?_⟩
    rw [c1]
    refine ⟨.str (SX.S a), rfl, .int (at' : Nat), rfl, _, 1, rfl, rfl, _, rfl, SX.S a, rfl, zl, ?_⟩
    rw [c3]
    refine ⟨SX.S (a.take at'), SX.S (a.drop (at' + 1)), rfl, rfl, big _ _ (by omega) ld2, ?_⟩
    rw [SX.S_cat]
    refine ⟨(by show 3 ≤ sizeLine; decide), fun q1 hq1 => ?_⟩
    have S6 := S5.same (same_upd (o := .lst [.str (SX.S (a.take at' ++ [ch] ++ a.drop at')), .str (SX.S (a.take at' ++ [ch] ++ a.drop (at' + 1))), .str (SX.S (a.take at' ++ a.drop (at' + 1)))]) hq1)
    have k6 := (same_upd (o := .lst [.str (SX.S (a.take at' ++ [ch] ++ a.drop at')), .str (SX.S (a.take at' ++ [ch] ++ a.drop (at' + 1))), .str (SX.S (a.take at' ++ a.drop (at' + 1)))]) hq1) _ _ k5
    have g6 : (upd H5 q1 (.lst [.str (SX.S (a.take at' ++ [ch] ++ a.drop at')), .str (SX.S (a.take at' ++ [ch] ++ a.drop (at' + 1))), .str (SX.S (a.take at' ++ a.drop (at' + 1)))])) q1 = some (.lst [.str (SX.S (a.take at' ++ [ch] ++ a.drop at')), .str (SX.S (a.take at' ++ [ch] ++ a.drop (at' + 1))), .str (SX.S (a.take at' ++ a.drop (at' + 1)))]) := upd_same
    show _
    generalize upd H5 q1 (.lst [.str (SX.S (a.take at' ++ [ch] ++ a.drop at')), .str (SX.S (a.take at' ++ [ch] ++ a.drop (at' + 1))), .str (SX.S (a.take at' ++ a.drop (at' + 1)))]) = H6 at S6 k6 g6 ⊢
    have d1 : cutV (L.map fun a => V.str (SX.S a)) none (some ((row : Nat) : Int)) = (L.take row).map fun a => V.str (SX.S a) := by rw [cut_to, List.map_take]
    have d2 : cutV (L.map fun a => V.str (SX.S a)) (some ((row : Nat) : Int)) none = (L.drop row).map fun a => V.str (SX.S a) := by rw [cut_from, List.map_drop]
    have d3 : cutV (L.map fun a => V.str (SX.S a)) (some ((row : Nat) + 1 : Int)) none = (L.drop (row + 1)).map fun a => V.str (SX.S a) := by
      show cutV _ (some ((row + 1 : Nat) : Int)) none = _
      rw [cut_from, List.map_drop]
    refine ⟨.ref q1, rfl, .str (SX.S a), rfl, ⟨_, rfl⟩, .ref p0, rfl, .int (row : Nat), rfl, _, rfl, p0, _, rfl, .inl (.inl k6), fun q2 hq2 => ?_⟩
    rw [d1]
    have TH7 := same_upd (o := .lst ((L.take row).map fun a => V.str (SX.S a))) hq2
    have S7 := S6.same TH7
    have g7 : (upd H6 q2 (.lst ((L.take row).map fun a => V.str (SX.S a)))) q2 = some (.lst ((L.take row).map fun a => V.str (SX.S a))) := upd_same
    have nq2 := (S6).law.nh hq2
    show _
    generalize upd H6 q2 (.lst ((L.take row).map fun a => V.str (SX.S a))) = H7 at TH7 S7 g7 ⊢
    have k7 := TH7 _ _ k6
    have g67 := TH7 _ _ g6
    refine ⟨.ref p0, rfl, .int (row : Nat), rfl, _, 1, rfl, rfl, _, rfl, p0, _, rfl, .inl (.inl k7), fun q3 hq3 => ?_⟩
    rw [d3]
    have TH8 := same_upd (o := .lst ((L.drop (row + 1)).map fun a => V.str (SX.S a))) hq3
    have S8 := S7.same TH8
    have g8 : (upd H7 q3 (.lst ((L.drop (row + 1)).map fun a => V.str (SX.S a)))) q3 = some (.lst ((L.drop (row + 1)).map fun a => V.str (SX.S a))) := upd_same
    have nq3 := (S7).law.nh hq3
    show _
    generalize upd H7 q3 (.lst ((L.drop (row + 1)).map fun a => V.str (SX.S a))) = H8 at TH8 S8 g8 ⊢
    have k8 := TH8 _ _ k7
    have g68 := TH8 _ _ g67
    have g78 := TH8 _ _ g7
    have y1l : (L.take row ++ L.drop (row + 1)).length ≤ L.length := by rw [List.length_append, List.length_take, List.length_drop]; omega
    refine ⟨q2, q3, _, _, rfl, rfl, g78, g8, ?_, fun q4 hq4 => ?_⟩
    · rw [← List.length_append, ← List.map_append, List.length_map]
      omega
    rw [← List.map_append]
    have TH9 := same_upd (o := .lst ((L.take row ++ L.drop (row + 1)).map fun a => V.str (SX.S a))) hq4
    have S9 := S8.same TH9
    have g9 : (upd H8 q4 (.lst ((L.take row ++ L.drop (row + 1)).map fun a => V.str (SX.S a)))) q4 = some (.lst ((L.take row ++ L.drop (row + 1)).map fun a => V.str (SX.S a))) := upd_same
    have nq4 := (S8).law.nh hq4
    show _
    generalize upd H8 q4 (.lst ((L.take row ++ L.drop (row + 1)).map fun a => V.str (SX.S a))) = H9 at TH9 S9 g9 ⊢
    have k9 := TH9 _ _ k8
    have g69 := TH9 _ _ g68
    have sumM : ∀ l : List (List Nat), ((l.map SX.S).map (·.length)).sum = (l.map List.length).sum := fun l => by
      rw [List.map_map]
      congr 1
    have l10 : (SX.S [10]).length = 1 := rfl
    have sumTD : ((L.take row ++ L.drop (row + 1)).map List.length).sum ≤ (L.map List.length).sum := by
      conv => rhs; rw [← List.take_append_drop row L, List.map_append, List.sum_append]
      rw [List.map_append, List.sum_append]
      have : ((L.drop (row + 1)).map List.length).sum ≤ ((L.drop row).map List.length).sum := by
        rw [show L.drop (row + 1) = (L.drop row).drop 1 by rw [List.drop_drop]]
        cases L.drop row with
        | nil => exact Nat.le_refl _
        | cons x r =>
          rw [List.drop_one, List.tail_cons, List.map_cons, List.sum_cons]
          omega
      omega
    refine ⟨SX.S [10], q4, (L.take row ++ L.drop (row + 1)).map SX.S, rfl, rfl, .inl (.inl (.inl ?_)), ?_, ?_⟩
    · rw [g9, List.map_map]
      rfl
    · rw [sumM, List.length_map, l10]
      omega
    rw [SX.join_S]
    refine ⟨(by show 2 ≤ sizeLine; decide), fun q5 hq5 => ?_⟩
    have TH10 := same_upd (o := .lst [.str (SX.S a), .str (SX.S (TL.joinL [10] (L.take row ++ L.drop (row + 1))))]) hq5
    have S10 := S9.same TH10
    have g10 : (upd H9 q5 (.lst [.str (SX.S a), .str (SX.S (TL.joinL [10] (L.take row ++ L.drop (row + 1))))])) q5 = some (.lst [.str (SX.S a), .str (SX.S (TL.joinL [10] (L.take row ++ L.drop (row + 1))))]) := upd_same
    have nq5 := (S9).law.nh hq5
    show _
    generalize upd H9 q5 (.lst [.str (SX.S a), .str (SX.S (TL.joinL [10] (L.take row ++ L.drop (row + 1))))]) = H10 at TH10 S10 g10 ⊢
    have k10 := TH10 _ _ k9
    have g610 := TH10 _ _ g69
    refine ⟨q1, q5, _, _, rfl, rfl, g610, g10, (by show 3 + 2 ≤ sizeLine; decide), fun q6 hq6 => ?_⟩
    have TH11 := same_upd (o := .lst ([.str (SX.S (a.take at' ++ [ch] ++ a.drop at')), .str (SX.S (a.take at' ++ [ch] ++ a.drop (at' + 1))), .str (SX.S (a.take at' ++ a.drop (at' + 1)))] ++ [.str (SX.S a), .str (SX.S (TL.joinL [10] (L.take row ++ L.drop (row + 1))))])) hq6
    have S11 := S10.same TH11
    have g11 : (upd H10 q6 (.lst ([.str (SX.S (a.take at' ++ [ch] ++ a.drop at')), .str (SX.S (a.take at' ++ [ch] ++ a.drop (at' + 1))), .str (SX.S (a.take at' ++ a.drop (at' + 1)))] ++ [.str (SX.S a), .str (SX.S (TL.joinL [10] (L.take row ++ L.drop (row + 1))))]))) q6 = some (.lst ([.str (SX.S (a.take at' ++ [ch] ++ a.drop at')), .str (SX.S (a.take at' ++ [ch] ++ a.drop (at' + 1))), .str (SX.S (a.take at' ++ a.drop (at' + 1)))] ++ [.str (SX.S a), .str (SX.S (TL.joinL [10] (L.take row ++ L.drop (row + 1))))])) := upd_same
    have nq6 := (S10).law.nh hq6
    show _
    generalize upd H10 q6 (.lst ([.str (SX.S (a.take at' ++ [ch] ++ a.drop at')), .str (SX.S (a.take at' ++ [ch] ++ a.drop (at' + 1))), .str (SX.S (a.take at' ++ a.drop (at' + 1)))] ++ [.str (SX.S a), .str (SX.S (TL.joinL [10] (L.take row ++ L.drop (row + 1))))])) = H11 at TH11 S11 g11 ⊢
    have k11 := TH11 _ _ k10
    refine ⟨.ref p0, rfl, .int (row : Nat), rfl, _, rfl, p0, _, rfl, .inl (.inl k11), fun r1 hr1 => ?_⟩
    rw [d1]
    have TH12 := same_upd (o := .lst ((L.take row).map fun a => V.str (SX.S a))) hr1
    have S12 := S11.same TH12
    have g12 : (upd H11 r1 (.lst ((L.take row).map fun a => V.str (SX.S a)))) r1 = some (.lst ((L.take row).map fun a => V.str (SX.S a))) := upd_same
    have nr1 := (S11).law.nh hr1
    show _
    generalize upd H11 r1 (.lst ((L.take row).map fun a => V.str (SX.S a))) = H12 at TH12 S12 g12 ⊢
    have k12 := TH12 _ _ k11
    have e12 := TH12 _ _ g11
    obtain ⟨ini, la, hla⟩ : ∃ ini la, L = ini ++ [la] := ⟨_, _, (List.dropLast_concat_getLast n1).symm⟩
    have lam : la ∈ L := by rw [hla]; exact List.mem_append_right _ (List.mem_singleton.mpr rfl)
    refine ⟨.ref p0, rfl, 0, 1, rfl, rfl, p0, _, (0 : Int) - 1, .str (SX.S la), rfl, rfl, .inl (.inl k12), ?_, (by show 1 ≤ sizeLine; decide), fun r2 hr2 => ?_⟩
    · rw [hla, List.map_append]
      exact atI_last _ _
    have TH13 := same_upd (o := .lst [.str (SX.S la)]) hr2
    have S13 := S12.same TH13
    have g13 : (upd H12 r2 (.lst [.str (SX.S la)])) r2 = some (.lst [.str (SX.S la)]) := upd_same
    have nr2 := (S12).law.nh hr2
    show _
    generalize upd H12 r2 (.lst [.str (SX.S la)]) = H13 at TH13 S13 g13 ⊢
    have k13 := TH13 _ _ k12
    have e13 := TH13 _ _ e12
    have g123 := TH13 _ _ g12
    refine ⟨r1, r2, _, _, rfl, rfl, g123, g13, ?_, fun r3 hr3 => ?_⟩
    · rw [List.length_map, List.length_take]
      show _ + 1 ≤ sizeLine
      omega
    rw [show (L.take row).map (fun a => V.str (SX.S a)) ++ [V.str (SX.S la)] = (L.take row ++ [la]).map (fun a => V.str (SX.S a)) by rw [List.map_append]; rfl]
    have TH14 := same_upd (o := .lst ((L.take row ++ [la]).map fun a => V.str (SX.S a))) hr3
    have S14 := S13.same TH14
    have g14 : (upd H13 r3 (.lst ((L.take row ++ [la]).map fun a => V.str (SX.S a)))) r3 = some (.lst ((L.take row ++ [la]).map fun a => V.str (SX.S a))) := upd_same
    have nr3 := (S13).law.nh hr3
    show _
    generalize upd H13 r3 (.lst ((L.take row ++ [la]).map fun a => V.str (SX.S a))) = H14 at TH14 S14 g14 ⊢
    have k14 := TH14 _ _ k13
    have e14 := TH14 _ _ e13
    refine ⟨.ref p0, rfl, .int (row : Nat), rfl, _, rfl, p0, _, rfl, .inl (.inl k14), fun r4 hr4 => ?_⟩
    rw [d2]
    have TH15 := same_upd (o := .lst ((L.drop row).map fun a => V.str (SX.S a))) hr4
    have S15 := S14.same TH15
    have g15 : (upd H14 r4 (.lst ((L.drop row).map fun a => V.str (SX.S a)))) r4 = some (.lst ((L.drop row).map fun a => V.str (SX.S a))) := upd_same
    have nr4 := (S14).law.nh hr4
    show _
    generalize upd H14 r4 (.lst ((L.drop row).map fun a => V.str (SX.S a))) = H15 at TH15 S15 g15 ⊢
    have k15 := TH15 _ _ k14
    have e15 := TH15 _ _ e14
    have g145 := TH15 _ _ g14
    have y2l : (L.take row ++ [la] ++ L.drop row).length = L.length + 1 := by rw [List.length_append, List.length_append, List.length_take, List.length_drop, List.length_singleton]; omega
    refine ⟨r3, r4, _, _, rfl, rfl, g145, g15, ?_, fun r5 hr5 => ?_⟩
    · rw [← List.length_append, ← List.map_append, List.length_map, y2l]
      omega
    rw [← List.map_append]
    have TH16 := same_upd (o := .lst ((L.take row ++ [la] ++ L.drop row).map fun a => V.str (SX.S a))) hr5
    have S16 := S15.same TH16
    have g16 : (upd H15 r5 (.lst ((L.take row ++ [la] ++ L.drop row).map fun a => V.str (SX.S a)))) r5 = some (.lst ((L.take row ++ [la] ++ L.drop row).map fun a => V.str (SX.S a))) := upd_same
    have nr5 := (S15).law.nh hr5
    show _
    generalize upd H15 r5 (.lst ((L.take row ++ [la] ++ L.drop row).map fun a => V.str (SX.S a))) = H16 at TH16 S16 g16 ⊢
    have e16 := TH16 _ _ e15
    have sum2 : ((L.take row ++ [la] ++ L.drop row).map List.length).sum = (L.map List.length).sum + la.length := by
      conv => rhs; rw [← List.take_append_drop row L, List.map_append, List.sum_append]
      rw [List.map_append, List.map_append, List.sum_append, List.sum_append]
      show _ + (la.length + 0) + _ = _
      omega
    have lal := lm la lam
    refine ⟨.ref q6, rfl, ⟨_, rfl⟩, .ref r5, rfl, SX.S [10], r5, (L.take row ++ [la] ++ L.drop row).map SX.S, rfl, rfl, .inl (.inl (.inl ?_)), ?_, ?_⟩
    · rw [g16, List.map_map]
      rfl
    · rw [sumM, List.length_map, l10, sum2, y2l]
      omega
    rw [SX.join_S]
    refine ⟨(by show 1 ≤ sizeLine; decide), fun s1 hs1 => ?_⟩
    have TH17 := same_upd (o := .lst [.str (SX.S (TL.joinL [10] (L.take row ++ [la] ++ L.drop row)))]) hs1
    have S17 := S16.same TH17
    have g17 : (upd H16 s1 (.lst [.str (SX.S (TL.joinL [10] (L.take row ++ [la] ++ L.drop row)))])) s1 = some (.lst [.str (SX.S (TL.joinL [10] (L.take row ++ [la] ++ L.drop row)))]) := upd_same
    have ns1 := (S16).law.nh hs1
    show _
    generalize upd H16 s1 (.lst [.str (SX.S (TL.joinL [10] (L.take row ++ [la] ++ L.drop row)))]) = H17 at TH17 S17 g17 ⊢
    have e17 := TH17 _ _ e16
    refine ⟨q6, s1, _, _, rfl, rfl, e17, g17, (by show 5 + 1 ≤ sizeLine; decide), fun s2 hs2 => ?_⟩
    have S18 := S17.same (same_upd (o := .lst ([.str (SX.S (a.take at' ++ [ch] ++ a.drop at')), .str (SX.S (a.take at' ++ [ch] ++ a.drop (at' + 1))), .str (SX.S (a.take at' ++ a.drop (at' + 1)))] ++ [.str (SX.S a), .str (SX.S (TL.joinL [10] (L.take row ++ L.drop (row + 1))))] ++ [.str (SX.S (TL.joinL [10] (L.take row ++ [la] ++ L.drop row)))])) hs2)
    have fin : ∀ b, TxB (n + m + 2) (2 * m + 1) b → Q (.str (SX.S b)) (upd H17 s2 (.lst ([.str (SX.S (a.take at' ++ [ch] ++ a.drop at')), .str (SX.S (a.take at' ++ [ch] ++ a.drop (at' + 1))), .str (SX.S (a.take at' ++ a.drop (at' + 1)))] ++ [.str (SX.S a), .str (SX.S (TL.joinL [10] (L.take row ++ L.drop (row + 1))))] ++ [.str (SX.S (TL.joinL [10] (L.take row ++ [la] ++ L.drop row)))]))) := fun b hb => q _ b S18 hb
    have hchc : Cod [ch] := fun c hc => by rw [List.mem_singleton.mp hc]; exact hchb
    have mt := tx.m.take at'
    have md := tx.m.drop at'
    have md1 := tx.m.drop (at' + 1)
    have ct := tx.c.take at'
    have cd := tx.c.drop at'
    have cd1 := tx.c.drop (at' + 1)
    have an := tx.n
    have b0 : TxB (n + m + 2) (2 * m + 1) (a.take at' ++ [ch] ++ a.drop at') := ⟨by
      rw [List.length_append, List.length_append, List.length_take, List.length_drop, List.length_singleton]; omega, ((mt.app LnB.one).app md).mono (by omega), (ct.app hchc).app cd⟩
    have b1 : TxB (n + m + 2) (2 * m + 1) (a.take at' ++ [ch] ++ a.drop (at' + 1)) := ⟨by
      rw [List.length_append, List.length_append, List.length_take, List.length_drop, List.length_singleton]; omega, ((mt.app LnB.one).app md1).mono (by omega), (ct.app hchc).app cd1⟩
    have b2 : TxB (n + m + 2) (2 * m + 1) (a.take at' ++ a.drop (at' + 1)) := ⟨by
      rw [List.length_append, List.length_take, List.length_drop]; omega, (mt.app md1).mono (by omega), ct.app cd1⟩
    have b3 : TxB (n + m + 2) (2 * m + 1) a := ⟨by omega, tx.m.mono (by omega), tx.c⟩
    have m4 : ∀ y ∈ L.take row ++ L.drop (row + 1), y ∈ L := fun y hy => (List.mem_append.mp hy).elim List.mem_of_mem_take List.mem_of_mem_drop
    have m5 : ∀ y ∈ L.take row ++ [la] ++ L.drop row, y ∈ L := fun y hy => (List.mem_append.mp hy).elim (fun z => (List.mem_append.mp z).elim List.mem_of_mem_take fun z => by rw [List.mem_singleton.mp z]; exact lam) List.mem_of_mem_drop
    have b4 : TxB (n + m + 2) (2 * m + 1) (TL.joinL [10] (L.take row ++ L.drop (row + 1))) := ⟨by
      have h1 := joinL_len [10] (L.take row ++ L.drop (row + 1))
      have : ([10] : List Nat).length = 1 := rfl
      rw [this] at h1
      omega, (LnB.join (fun y hy => lno y (m4 y hy)) fun y hy => lm y (m4 y hy)).mono (by omega), joinL_cod fun y hy => lcod y (m4 y hy)⟩
    have b5 : TxB (n + m + 2) (2 * m + 1) (TL.joinL [10] (L.take row ++ [la] ++ L.drop row)) := ⟨by
      have h1 := joinL_len [10] (L.take row ++ [la] ++ L.drop row)
      have : ([10] : List Nat).length = 1 := rfl
      rw [this, sum2, y2l] at h1
      omega, (LnB.join (fun y hy => lno y (m5 y hy)) fun y hy => lm y (m5 y hy)).mono (by omega), joinL_cod fun y hy => lcod y (m5 y hy)⟩
    have hbr6 : br = 0 ∨ br = 1 ∨ br = 2 ∨ br = 3 ∨ br = 4 ∨ br = 5 := by omega
    rcases hbr6 with rfl | rfl | rfl | rfl | rfl | rfl
    · exact ⟨_, rfl, s2, _, _, _, rfl, rfl, .inl (.inl upd_same), atI_nat (j := 0) rfl, fin _ b0⟩
    · exact ⟨_, rfl, s2, _, _, _, rfl, rfl, .inl (.inl upd_same), atI_nat (j := 1) rfl, fin _ b1⟩
    · exact ⟨_, rfl, s2, _, _, _, rfl, rfl, .inl (.inl upd_same), atI_nat (j := 2) rfl, fin _ b2⟩
    · exact ⟨_, rfl, s2, _, _, _, rfl, rfl, .inl (.inl upd_same), atI_nat (j := 3) rfl, fin _ b3⟩
    · exact ⟨_, rfl, s2, _, _, _, rfl, rfl, .inl (.inl upd_same), atI_nat (j := 4) rfl, fin _ b4⟩
    · exact ⟨_, rfl, s2, _, _, _, rfl, rfl, .inl (.inl upd_same), atI_nat (j := 5) rfl, fin _ b5⟩
end
end Sv
set_option maxHeartbeats 2000000
namespace Sv
open PySem PySem.Spec PyProof.Rows L2
/-- an exception that has landed in a def: t the state with it -/
structure Air (X : Cx) (pins : List (Addr × Obj)) (σ : L2.St) (H : Hp) (cls : Value) (d : Option Addr) (a : Addr) (t : Shared) : Prop where
  ex : ∃ (B : Heap) (r : Shared), Inv X pins σ H r ∧ (∀ b o, r.heap.get? b = some o → b ∉ frs X.stack → B.get? b = some o) ∧ r.heap.UpToSlots t.heap ∧ HandSPX.FlyingZ B (X.env :: X.outer) a (Zc cls d) t.heap ∧ H a = none ∧ t.os = r.os ∧ AllBare t.gens
section
variable {X : Cx} {pins : List (Addr × Obj)} {σ : L2.St} {H : Hp} {cls : Value} {d : Option Addr} {a : Addr} {t : Shared} {D : Ends} {W : WX}
/-- the object, and the state as the clause sees it -/
theorem Air.see (hf : X.env.frame = some X.env.locals) (A : Air X pins σ H cls d a t) : ∃ oe, t.heap.get? a = some oe ∧ Zc cls d oe ∧ (∃ vs, oe.data = .fields vs) ∧ Inv (X.suite a ((a, oe) :: (X.pn ++ pins))) [] σ H t ∧ Inv X pins σ H t := by
  obtain ⟨B, r, J, nb, up, fl, na, os, ag⟩ := A.ex
  obtain ⟨oe, vs, he, hz, hd⟩ := fl.there
  have JL := J.landed nb fl.1 up os ag
  have off : a ∉ frs (X.env :: X.outer) := fun hm => by
    obtain ⟨_, o, e, no⟩ := fl.2.2.1.mem hm
    rw [he] at e
    cases e
    exact no _ hd
  have nL : a ≠ X.env.locals := fun z => off (List.mem_filterMap.mpr ⟨X.env, List.mem_cons_self, by rw [hf, z]⟩)
  have nF : a ∉ X.fs := fun hm => by
    obtain ⟨e, h1, h2⟩ := List.mem_filterMap.mp hm
    exact off (List.mem_filterMap.mpr ⟨e, List.mem_cons_of_mem _ h1, h2⟩)
  exact ⟨oe, he, hz, ⟨vs, hd⟩, JL.suite he hd na nL nF, JL⟩
/-- landed once more -/
theorem Air.on {h : Heap} (A : Air X pins σ H cls d a t) {B : Heap} (fl : HandSPX.FlyingZ B (X.env :: X.outer) a (Zc cls d) h) (r : Shared) (J : Inv X pins σ H r) (nb : ∀ b o, r.heap.get? b = some o → b ∉ frs X.stack → B.get? b = some o)
    (up : r.heap.UpToSlots h) (na : H a = none) (os : t.os = r.os) (ag : AllBare t.gens) : Air X pins σ H cls d a { t with heap := h } := ⟨B, r, J, nb, up, fl, na, os, ag⟩
/-- no clause is left: on it goes -/
theorem hd_none (hs : X.stack = X.env :: X.outer) (hf : X.env.frame = some X.env.locals) (tk : Takes X W) (A : Air X pins σ H cls d a t) (w : W cls d σ H) : wpAny (model X.prog X.w) X.A (handleBy (.ref a) X.env []) (SP X pins D) X.xe t := by
  obtain ⟨B, r, J, nb, up, fl, na, os, ag⟩ := A.ex
  refine wpAny_handleBy_nil ?_
  obtain ⟨_, _, _, oe, vs, T, oT, ts', he, hz, hd, h1, hr⟩ := id fl
  have away : wpAny (model X.prog X.w) X.A (setFlight (.ref a) X.env.frame) (fun _ t4 => wpAny (model X.prog X.w) X.A (throw (.ref a) : Sem Flow) (SP X pins D) X.xe t4) X.xe t := by
    rw [hf]
    refine HandSPX.setFlight_upZ fl fun h4 hh up4 => wpAny_throw (tk _ _ ⟨a, B, r, pins, σ, H, cls, d, rfl, J, nb, up.trans up4, .inr (.inr ?_), na, os, ag, w⟩)
    rw [hs]
    exact hh
  unfold PySem.passOn
  refine wpAny_bind (wpAny_field he hd h1 ?_)
  rw [if_neg (show ¬ ((Value.ref T == Value.none) = true) from by simp)]
  first
    | exact wpAny_bind (wpAny_pure (wpAny_bind away))
    | exact wpAny_bind away
/-- a clause is asked -/
theorem hd_ask {x : Str} {c : Value} {nm : Option Str} {body : List Stmt} {np p' : Pos} {hds : List ExceptHandler} {b : Bool} (hf : X.env.frame = some X.env.locals) (hc : Names X x c) (A : Air X pins σ H cls d a t) (hb : PySem.W.exmOne X.K cls c = some b)
    (hno : b = false → wpAny (model X.prog X.w) X.A (handleBy (.ref a) X.env hds) (SP X pins D) X.xe t)
    (hyes : b = true → codeAny (model X.prog X.w) (X.A.mark (some (.ref a))) (.handlers (.ref a) [.ExceptHandler none nm body p'] X.env) (fun r s₂ => match r with
      | .ok f => (match nm with
        | none => SP X pins D f s₂
        | some n => wpAny (model X.prog X.w) X.A (do bindName X.env n .none; unbindBehindTheSuite X.env n p') (fun _ s₃ => SP X pins D f s₃) X.xe s₂)
      | .error y => cameBackBy (model X.prog X.w) X.A X.env X.xe y s₂) t) :
    wpAny (model X.prog X.w) X.A (handleBy (.ref a) X.env (.ExceptHandler (some (.Name x np)) nm body p' :: hds)) (SP X pins D) X.xe t := by
  obtain ⟨oe, he, hz, hd, S, I⟩ := A.see hf
  refine wpAny_handleBy_cons (codeAny_handlers_test ?_) (by intro q; cases q)
  have look : PySem.W.Looks (model X.prog X.w) t.heap (typeOf (.ref a)) cls := fun A' Q' E' s' k q => wpAny_typeOf_ref (k _ _ he) (by rw [hz.1]; exact q)
  have hit := PySem.W.exm_one (M := model X.prog X.w) I.kIn look hb
  have name : ∀ {Q E : Value → Shared → Prop}, Q c t → wpAny (model X.prog X.w) (X.A.mark (some (.ref a))) (eval (.Name x np) X.env) Q E t := fun {Q E} q => by
    obtain ⟨g1, g2, hm | ⟨hm, hv, hnn⟩⟩ := hc
    · exact ld_glob (X := X.suite a ((a, oe) :: (X.pn ++ pins))) S g1 hm q g2
    · exact ld_blt (X := X.suite a ((a, oe) :: (X.pn ++ pins))) S g1 hm hv q hnn g2
  refine name (hit.here ?_)
  cases b with
  | true => exact hyes rfl
  | false => exact hno rfl
/-- out of the clause -/
theorem sp_out {q : Addr × Obj} {f : Flow} {s' : Shared} (ok : X.Ok) (h : SP (X.suite a (q :: (X.pn ++ pins))) [] D f s') : SP X pins D f s' := by
  cases f with
  | ret u =>
    obtain ⟨v, σ', H', S, r, k⟩ := h
    exact ⟨v, σ', H', S.unsuite ok, r, k⟩
  | next =>
    obtain ⟨σ', H', S, k⟩ := h
    exact ⟨σ', H', S.unsuite ok, k⟩
  | brk =>
    obtain ⟨σ', H', S, k⟩ := h
    exact ⟨σ', H', S.unsuite ok, k⟩
  | cont =>
    obtain ⟨σ', H', S, k⟩ := h
    exact ⟨σ', H', S.unsuite ok, k⟩
theorem sp_gone {q : Addr × Obj} {f : Flow} {s' : Shared} {i : Nat} {n : Str} {p' : Pos} (ok : X.Ok) (hN : X.N.Nodup) (hi : X.N[i]? = some n) (hln : X.env.kindOf n = some .local)
    (h : SP (X.suite a (q :: (X.pn ++ pins))) [] { nx := fun σ' H' => D.nx (σ'.set i none) H', rt := D.rt, bk := fun σ' H' => D.bk (σ'.set i none) H', ct := fun σ' H' => D.ct (σ'.set i none) H' } f s') :
    wpAny (model X.prog X.w) X.A (do bindName X.env n .none; unbindBehindTheSuite X.env n p') (fun _ s₃ => SP X pins D f s₃) X.xe s' := by
  cases f with
  | ret u =>
    obtain ⟨v, σ', H', S, r, k⟩ := h
    exact gone_ok (S.unsuite ok) hN hi hln fun s7 J => ⟨v, _, _, J, r, k⟩
  | next =>
    obtain ⟨σ', H', S, k⟩ := h
    exact gone_ok (S.unsuite ok) hN hi hln fun s7 J => ⟨_, _, J, k⟩
  | brk =>
    obtain ⟨σ', H', S, k⟩ := h
    exact gone_ok (S.unsuite ok) hN hi hln fun s7 J => ⟨_, _, J, k⟩
  | cont =>
    obtain ⟨σ', H', S, k⟩ := h
    exact gone_ok (S.unsuite ok) hN hi hln fun s7 J => ⟨_, _, J, k⟩
end
/-- one plain clause -/
def wOn (K : PySem.W.Frag) (c : Value) (ts : Addr → Value → Option Addr → TS) (Wout : WX) (D : Ends) : WX := fun cls d σ H => ∃ b, PySem.W.exmOne K cls c = some b ∧ (b = true → ∀ a, H a = none → ts a cls d D σ H) ∧ (b = false → Wout cls d σ H)
/-- the clauses of a try, and what they wish of an exception -/
inductive Mix (X : Cx) : List ExceptHandler → (Ends → WX) → Prop
  | nil {W : WX} (tk : Takes X W) : Mix X [] (fun _ => W)
  | plain {x : Str} {c : Value} {ts : Addr → Value → Option Addr → TS} {b₀ : Stmt} {su : List Stmt} {np p' : Pos} {hds : List ExceptHandler} {WD : Ends → WX} (hc : Names X x c)
      (hsu : ∀ (a : Addr) (oe : Obj) (cls : Value) (d : Option Addr) (pn : List (Addr × Obj)), Zc cls d oe → (∃ vs, oe.data = .fields vs) → PSs (X.suite a ((a, oe) :: pn)) (b₀ :: su) (ts a cls d)) (r : Mix X hds WD) :
      Mix X (.ExceptHandler (some (.Name x np)) none (b₀ :: su) p' :: hds) (fun D => wOn X.K c ts (WD D) D)
  | named {x n : Str} {i : Nat} {c : Value} {ts : Addr → Value → Option Addr → TS} {b₀ : Stmt} {su : List Stmt} {np p' : Pos} {hds : List ExceptHandler} {WD : Ends → WX} (hi : X.N[i]? = some n) (hln : X.env.kindOf n = some .local) (hc : Names X x c)
      (hsu : ∀ (a : Addr) (oe : Obj) (cls : Value) (d : Option Addr) (pn : List (Addr × Obj)), Zc cls d oe → (∃ vs, oe.data = .fields vs) → PSs (X.suite a ((a, oe) :: pn)) (b₀ :: su) (ts a cls d)) (r : Mix X hds WD) :
      Mix X (.ExceptHandler (some (.Name x np)) (some n) (b₀ :: su) p' :: hds) (fun D => wAs X.K c i ts (WD D) D)
section
variable {X : Cx} {hds : List ExceptHandler} {WD : Ends → WX} {h₀ : ExceptHandler} {body : List Stmt} {tb : WX → TS} {pos : Pos}
theorem mix_run (hs : X.stack = X.env :: X.outer) (hf : X.env.frame = some X.env.locals) (hN : X.N.Nodup) (mx : Mix X hds WD) {D : Ends} {pins : List (Addr × Obj)} {σ : L2.St} {H : Hp} {cls : Value} {d : Option Addr} {a : Addr} {t : Shared}
    (A : Air X pins σ H cls d a t) (w : WD D cls d σ H) : wpAny (model X.prog X.w) X.A (handleBy (.ref a) X.env hds) (SP X pins D) X.xe t := by
  induction mx with
  | nil tk => exact hd_none hs hf tk A w
  | plain hc hsu r ih =>
    obtain ⟨b, hb, yes, no⟩ := w
    refine hd_ask hf hc A hb (fun z => ih (no z)) (fun z => ?_)
    obtain ⟨B, r0, J, nb, up, fl, na, os, ag⟩ := A.ex
    refine codeAny_handlers_suite (HandSPX.lands_againZ fl fun h4 fl4 up4 => ?_)
    obtain ⟨oe, he, hz, hd, S, I⟩ := (A.on fl4 r0 J nb (up.trans up4) na os ag).see hf
    exact wpAny_mono ((hsu a oe cls d _ hz hd).run [] _ _ H D S (yes z a na)) (fun f s6 k => sp_out I.ok k) fun _ _ k => False.elim k
  | @named x n i c ts b₀ su np p' hds WD hi hln hc hsu r ih =>
    obtain ⟨b, hb, yes, no⟩ := w
    refine hd_ask hf hc A hb (fun z => ih (no z)) (fun z => ?_)
    obtain ⟨B, r0, J, nb, up, fl, na, os, ag⟩ := A.ex
    refine codeAny_handlers_suite_as (HandSPX.lands_againZ fl fun h4 fl4 up4 => ?_)
    obtain ⟨oe, he, hz, hd, S, I⟩ := (A.on fl4 r0 J nb (up.trans up4) na os ag).see hf
    refine store_ok (X := X.suite a ((a, oe) :: (X.pn ++ pins))) (v := .ref a) S hN hi (.inl hln) rfl (fun s5 S5 => ?_) (.inr hln)
    exact wpAny_mono ((hsu a oe cls d _ hz hd).run [] s5 _ H _ S5 (yes z a na)) (fun f s6 k => sp_gone I.ok hN hi hln k) fun _ _ k => False.elim k
theorem ps_try_mix (hs : X.stack = X.env :: X.outer) (hf : X.env.frame = some X.env.locals) (hN : X.N.Nodup) (mx : Mix X (h₀ :: hds) WD)
    (hb : ∀ (W : WX) (pn : List (Addr × Obj)) (xe : Value → Shared → Prop), Takes (X.tr pn xe) W → PassesOwn (model X.prog X.w) X.A X.env xe → PSs (X.tr pn xe) body (tb W)) :
    PS X (.Try body (h₀ :: hds) [] [] pos) (fun D σ H => tb (WD D) D σ H) := by
  refine ⟨fun pins s σ H D I h => wpAny_Try_except ?_⟩
  have hfr : X.A.frames = some (X.env :: X.outer) := by rw [I.ok.frames, hs]
  have P := hb (WD D) (X.pn ++ pins) (fun e t1 => wpAny (model X.prog X.w) X.A (noteFrame e X.env) (fun _ t2 => wpAny (model X.prog X.w) X.A (setFlight e none) (fun _ t3 => wpAny (model X.prog X.w) X.A (handleBy e X.env (h₀ :: hds)) (SP X pins D) X.xe t3) X.xe t2) X.xe t1)
    (fun u s' xx => by
      obtain ⟨a, B, r, pins', σ', H', cls, d, rfl, J', nb, up, sky, na, os, ag, w⟩ := xx
      have J : Inv X pins σ' H' r := J'.ofTry I.ok
      have sky : Sky B (X.env :: X.outer) a (Zc cls d) X.env.locals s'.heap := by rw [← hs]; exact sky
      refine Sky.land Zc.steady hfr hf sky fun h3 fl3 up3 => ?_
      exact mix_run hs hf hN mx ⟨B, r, J, nb, up.trans up3, fl3, na, os, ag⟩ w) PassesOwn.looking
  refine wpAny_mono (P.run [] s σ H D (I.toTry _) h) (fun f t k => ?_) fun _ _ k => k
  cases f with
  | ret u =>
    obtain ⟨v, σ', H', J, r, q⟩ := k
    exact ⟨v, σ', H', J.ofTry I.ok, r, q⟩
  | next =>
    obtain ⟨σ', H', J, q⟩ := k
    exact wpAny_execs_nil ⟨σ', H', J.ofTry I.ok, q⟩
  | brk =>
    obtain ⟨σ', H', J, q⟩ := k
    exact ⟨σ', H', J.ofTry I.ok, q⟩
  | cont =>
    obtain ⟨σ', H', J, q⟩ := k
    exact ⟨σ', H', J.ofTry I.ok, q⟩
end
end Sv
set_option maxHeartbeats 8000000
namespace Sv
open PySem PySem.Spec PyProof.Rows L2 LamX NdefX
section
variable {P : Program} {w : World} {K : PySem.W.Frag} {mg : Str → Option Value} {base : Heap}
/-- THE RULE for a def whose code object is known -/
theorem fun_okC {x qual : Str} {st : Stmt} {f c : Addr} {fd : FuncData} {N ps : List Str} {k : Nat} {sp : Sp} (F : Fun K x qual st f fd) (hc : fd.code = .ref c) (S : FnScope N ps (defScope st)) (len : ∀ vs H Q E, sp vs H Q E → vs.length = ps.length)
    (hbody : ∀ (A : Around) (outer : List Env) (s : Shared) (H : Hp) (vs : List V) (Q : VK) (E : XK), Room k (A.deeper (envOfC qual (defScope st) s.heap.objs.size f (.ref c))) → sp vs H Q E →
      ∃ t, PSs (cxOf CX0 P w K mg base N qual (defScope st) f (.ref c) A outer s H E).nox (defBody st) t ∧ t { nx := fun _ H' => Q .non H', rt := Q } (start N vs) H) : FnOk P w K mg base CX0 (k + 1) f fd ps sp := by
  obtain ⟨oc, od, kV, doc, pm, an, cdv, ct, osl, rfl, lk, hcd⟩ := F.ex
  obtain rfl : cdv = .ref c := hc
  refine fn_of lk hcd S len fun A outer s H vs Q E hr hsp => ?_
  obtain ⟨t, h, q⟩ := hbody A outer s H vs Q E hr hsp
  exact ⟨t, h.nox, q⟩
end
/-- the lambda at f, told by the maker's names js -/
def LamIs (X : Cx) (k : Nat) (H : Hp) (f : Addr) (js : List Nat) (tl : List (Option V) → XK → Hp → VK → Prop) : Prop :=
  ∃ (L : LF) (fr : List Str) (dvs : List V), H f = some (LamO f L) ∧ H L.c = some (CodeO L.c L.qual) ∧ DflAt H L.dV dvs ∧ LOk X.prog X.w X.K X.mg X.base k f L fr dvs tl ∧ (X.Ok → Caps X L.cl fr js)
theorem DflAt.ext {H H1 : Hp} {dV : Value} {dvs : List V} (d : DflAt H dV dvs) (e : ExtN H H1) : DflAt H1 dV dvs := by
  rcases d with ⟨a, b⟩ | ⟨a, T, b, c⟩
  · exact .inl ⟨a, b⟩
  · exact .inr ⟨a, T, b, e _ _ c (fun ps z => nomatch z)⟩
theorem LamIs.ext {X : Cx} {k : Nat} {H H1 : Hp} {f : Addr} {js : List Nat} {tl : List (Option V) → XK → Hp → VK → Prop} (h : LamIs X k H f js tl) (e : ExtN H H1) : LamIs X k H1 f js tl := by
  obtain ⟨L, fr, dvs, h1, h2, h3, h4, h5⟩ := h
  exact ⟨L, fr, dvs, e _ _ h1 (fun ps => lamO_tbl ps), e _ _ h2 codeO_ne, h3.ext e, h4, h5⟩
def freeB (sc scope : Scope) : Bool := scope.names.all fun y => match y.2 with
  | .free => (match sc.names.lookup y.1 with | some .cell => true | some .free => true | _ => false)
  | _ => true
theorem free_by {sc scope : Scope} (h : freeB sc scope = true) : ∀ y ∈ scope.names, y.2 = .free → sc.names.lookup y.1 = some .cell ∨ sc.names.lookup y.1 = some .free := fun y hy e => by
  have q := List.all_eq_true.mp h y hy
  rw [e] at q
  simp only at q
  split at q
  · rename_i z
    exact .inl z
  · rename_i z
    exact .inr z
  · cases q
/-- the reading of a lambda as a value -/
def tLamK (X : Cx) (k : Nat) (T : List (Addr × Str)) (js : List Nat) (tl : List (Option V) → XK → Hp → VK → Prop) : TE := fun _ H Q => Tabs T H ∧ ∀ (f : Addr) (H1 : Hp), ExtN H H1 → (∀ b, H1 b = none → H b = none) → Tabs T H1 → H f = none → LamIs X k H1 f js tl → Q (.ref f) H1
section
variable {X : Cx} {k : Nat} {T : List (Addr × Str)} {c P : Addr} {params : Arguments} {body : Expr} {scope : Scope} {pos : Pos} {js : List Nat} {fr N ps : List Str} {tl : List (Option V) → XK → Hp → VK → Prop}
/-- what its body keeps, wherever it was made -/
def LamB (X : Cx) (k : Nat) (N : List Str) (params : Arguments) (body : Expr) (scope : Scope) (fr : List Str) (dvs : List V) (tl : List (Option V) → XK → Hp → VK → Prop) : Prop :=
  ∀ (qual : Str) (cl : List (Str × Addr)) (dV : Value) (c f : Addr) (A : Around) (outer : List Env) (s : Shared) (H : Hp) (ws : List (Option V)) (Q : VK) (E : XK), Room k (A.deeper (envF (LF.nf ⟨params, body, scope, qual, cl, dV, c⟩) f s.heap.objs.size)) → tl ws E H Q →
    ∃ t, PE (ncx (L2.CX X.prog X.w) X.prog X.w X.K X.mg X.base N (LF.nf ⟨params, body, scope, qual, cl, dV, c⟩) f A outer s H E) body t ∧ t (startF N dvs ws) H Q
theorem lamB_ok {f c' : Addr} {cl : List (Str × Addr)} {q : Str} {dV : Value} {dvs : List V} (hB : LamB X k N params body scope fr dvs tl) (S : NScope N ps fr scope) (hb : LBinds ⟨params, body, scope, q, cl, dV, c'⟩ ps dvs) (hl : dvs.length = ps.length) :
    LOk X.prog X.w X.K X.mg X.base (k + 1) f ⟨params, body, scope, q, cl, dV, c'⟩ fr dvs tl := lok_of S hb hl fun A outer s H ws Q E hr _ ht => hB q cl dV c' f A outer s H ws Q E hr ht
theorem pe_lamK0 (LT : LamT X T c P) (hB : LamB X k N params body scope fr [] tl) (hd : defaultsOf params X.env = ([], []) := by rfl)
    (hfree : ∀ y ∈ scope.names, y.2 = .free → X.env.scope.names.lookup y.1 = some .cell ∨ X.env.scope.names.lookup y.1 = some .free := by exact free_by rfl)
    (S : NScope N [] fr scope := by exact nscope_by (by decide +kernel)) (hbn : ∀ q cl pm cv ctv, bindArgs (PySem.W.kla_fn "<lambda>" q params body scope cl pm cv ctv) ⟨[], []⟩ = pure [] := by intro q cl pm cv ctv; rfl)
    (hfr : ∀ y ∈ fr, (y, NameKind.free) ∈ scope.names := by decide +kernel) (hjs : js.map (fun j => X.N[j]?) = fr.map some := by rfl) :
    PE X (.Lambda params body scope pos) (tLamK X (k + 1) T js tl) := by
  refine ⟨fun pins s σ H Q I ⟨hT, h⟩ => (pe_lam0 LT hd hfree).run pins s σ H Q I ⟨hT, fun f c' dV H1 a1 a2 a3 a4 a5 a6 a7 => h f H1 a1 a2 a3 a4 ⟨_, fr, [], a5, a6, a7, lamB_ok hB S (lbinds0 hbn) rfl, fun ok => Caps.made ok hfree hfr hjs⟩⟩⟩
theorem pe_lamK1 {i : Int} {jn : Nat} {p2 : Pos} {a : Str} (LT : LamT X T c P) (hB : LamB X k N params body scope fr [.int i] tl) (hbn : ∀ q cl pm cv ctv (T : Addr) (u : Value), ∃ k, bindArgs { PySem.W.kla_fn "<lambda>" q params body scope cl pm cv ctv with defaults := .ref T } ⟨[], []⟩ = seqItems? (.ref T) >>= k ∧ k (some [u].toArray) = pure [(a, u)])
    (hd : defaultsOf params X.env = ([eval (.Constant (.int i) jn p2) X.env], []) := by rfl)
    (hfree : ∀ y ∈ scope.names, y.2 = .free → X.env.scope.names.lookup y.1 = some .cell ∨ X.env.scope.names.lookup y.1 = some .free := by exact free_by rfl)
    (S : NScope N [a] fr scope := by exact nscope_by (by decide +kernel))
    (hfr : ∀ y ∈ fr, (y, NameKind.free) ∈ scope.names := by decide +kernel) (hjs : js.map (fun j => X.N[j]?) = fr.map some := by rfl) :
    PE X (.Lambda params body scope pos) (tLamK X (k + 1) T js tl) := by
  refine ⟨fun pins s σ H Q I ⟨hT, h⟩ => (pe_lam1 (j := 0) LT hd hfree).run pins s σ H Q I ⟨hT, fun f c' dV H1 a1 a2 a3 a4 a5 a6 a7 => h f H1 a1 a2 a3 a4 ⟨_, fr, [.int i], a5, a6, a7, lamB_ok hB S (lbinds1 hbn) rfl, fun ok => Caps.made ok hfree hfr hjs⟩⟩⟩
end
end Sv
set_option maxHeartbeats 8000000
namespace Sv
open PySem PySem.Spec PyProof.Rows L2 LamX NdefX
/-- all but lists and tables stay -/
def ExtL (H H1 : Hp) : Prop := ∀ b o, H b = some o → (∀ xs, o ≠ .lst xs) → (∀ ps, o ≠ .tbl ps) → H1 b = some o
theorem ExtL.refl (H : Hp) : ExtL H H := fun _ _ e _ _ => e
theorem ExtL.trans {H H1 H2 : Hp} (a : ExtL H H1) (b : ExtL H1 H2) : ExtL H H2 := fun c o e n m => b c o (a c o e n m) n m
theorem ExtL.n {H H1 : Hp} (e : ExtN H H1) : ExtL H H1 := fun b o h _ m => e b o h m
theorem ExtL.s {H H1 : Hp} (e : Same H H1) : ExtL H H1 := fun b o h _ _ => e b o h
theorem ExtL.x {H H1 : Hp} {h l : Addr} (L : LawH H h l) (e : SameX h l H H1) : ExtL H H1 := fun b o hb n _ => by
  obtain ⟨m, i, cs, e1, e2, _⟩ := L.ex
  refine e b o (fun z => ?_) (fun z => ?_) hb
  · rw [z, e1] at hb
    exact n _ (Option.some.inj hb).symm
  · rw [z, e2] at hb
    exact n _ (Option.some.inj hb).symm
theorem ExtL.upd {H : Hp} {p : Addr} {xs : List V} {o : HO} (h : H p = some (.lst xs)) : ExtL H (L2.upd H p o) := fun b u e n _ => by
  rw [upd_ne (fun z => by rw [z, h] at e; exact n _ (Option.some.inj e).symm)]
  exact e
/-- the law's source and its table -/
structure LS (T : List (Addr × Str)) (h l : Addr) (H : Hp) : Prop where
  law : LawH H h l
  tabs : Tabs T H
theorem LawH.ext {H H' : Hp} {h l : Addr} (x : LawH H h l) (e : ExtN H H') : LawH H' h l := by
  obtain ⟨m, i, cs, e1, e2, e3⟩ := x.ex
  exact ⟨m, i, cs, e _ _ e1 (fun _ z => nomatch z), e _ _ e2 (fun _ z => nomatch z), e3⟩
theorem tabs_x {T : List (Addr × Str)} {H H1 : Hp} {h l : Addr} (t : Tabs T H) (L : LawH H h l) (e : SameX h l H H1) : Tabs T H1 := fun p hp => by
  obtain ⟨ps, h1, h2, h3⟩ := t p hp
  obtain ⟨m, i, cs, e1, e2, _⟩ := L.ex
  refine ⟨ps, e _ _ (fun z => ?_) (fun z => ?_) h1, h2, fun pos cv hc => ?_⟩
  · rw [z, e1] at h1
    cases h1
  · rw [z, e2] at h1
    cases h1
  · obtain ⟨c, q1, q2⟩ := h3 pos cv hc
    exact ⟨c, q1, ExtL.x L e _ _ q2 (fun _ z => by unfold CodeO at z; cases z) codeO_ne⟩
theorem LS.x {T : List (Addr × Str)} {h l : Addr} {H H1 : Hp} (a : LS T h l H) (L : LawH H1 h l) (e : SameX h l H H1) : LS T h l H1 := ⟨L, tabs_x a.tabs a.law e⟩
theorem LS.s {T : List (Addr × Str)} {h l : Addr} {H H1 : Hp} (a : LS T h l H) (e : Same H H1) : LS T h l H1 := ⟨a.law.same e, a.tabs.ext e⟩
theorem LS.e {T : List (Addr × Str)} {h l : Addr} {H H1 : Hp} (a : LS T h l H) (e : ExtN H H1) (t : Tabs T H1) : LS T h l H1 := ⟨a.law.ext e, t⟩
def zE : Expr := .Name "x" ⟨0, 0, 0, 0⟩
def lamP : Expr → Arguments | .Lambda p _ _ _ => p | _ => ⟨[], [], none, [], [], none, []⟩
def lamE : Expr → Expr | .Lambda _ b _ _ => b | e => e
def lamS : Expr → Scope | .Lambda _ _ s _ => s | _ => default
end Sv
set_option maxHeartbeats 4000000
namespace Sv
open PySem PySem.Spec PyProof.Rows L2 LamX NdefX
/-- how the classes answer in an except clause -/
structure OutK (K : PySem.W.Frag) (C CS CT : Addr) : Prop where
  pp : PySem.W.exmOne K (.ref C) (.ref C) = some true
  sp : PySem.W.exmOne K (.ref CS) (.ref C) = some false
  ss : PySem.W.exmOne K (.ref CS) (.ref CS) = some true
  tp : PySem.W.exmOne K (.ref CT) (.ref C) = some false
  ts : PySem.W.exmOne K (.ref CT) (.ref CS) = some false
  tt : PySem.W.exmOne K (.ref CT) (.ref CT) = some true
  xf : XfC K C
  xp : PySem.W.findIn K (.ref C) "part" = some none
  xi : PySem.W.findIn K (.ref C) "index" = some none
theorem scOut : FnScope ["_law_work", "e"] ["_law_work"] (defScope sOutcome) := ⟨rfl, rfl, rfl, by decide +kernel, rfl, by decide +kernel, by decide +kernel⟩
def wPlan (C : Addr) (Q : VK) : XK := fun cls d H' => cls = .ref C ∧ ∃ (dd : Addr) (fs : List (Str × V)) (x y : V), d = some dd ∧ H' dd = some (.xd fs) ∧ fs.lookup ("part" : Str) = some x ∧ fs.lookup ("index" : Str) = some y ∧ NewS H' [.str "InvalidPlan", x, y] Q
def wState (CS : Addr) (Q : VK) : XK := fun cls _ H' => cls = .ref CS ∧ NewS H' [.str "InvalidState"] Q
def wText (CT : Addr) (Q : VK) : XK := fun cls d H' => cls = .ref CT ∧ ∃ (dd : Addr) (fs : List (Str × V)) (y : V), d = some dd ∧ H' dd = some (.xd fs) ∧ fs.lookup ("row" : Str) = some y ∧ NewS H' [.str "InvalidText", y] Q
/-- what is wanted of the errors -/
def OutE (C CS CT : Addr) (Q : VK) : XK := fun cls d H' => wPlan C Q cls d H' ∨ wState CS Q cls d H' ∨ wText CT Q cls d H'
def KnOut (P : Program) (w : World) (K : PySem.W.Frag) (mg : Str → Option Value) (base : Heap) (k : Nat) (C CS CT : Addr) : List Addr → Shared → Hp → V → VK → Prop := fun fs s H v Q =>
  ∃ (f : Addr) (L : LF) (fr : List Str) (dvs : List V) (ws : List (Option V)) (tl : List (Option V) → XK → Hp → VK → Prop), v = .ref f ∧ LamAt P w K mg base k fs s H f L fr dvs ws tl ∧ tl ws (OutE C CS CT Q) H Q
section
variable {P : Program} {w : World} {K : PySem.W.Frag} {mg : Str → Option Value} {base : Heap}
theorem ok_out {k : Nat} (T : Bd P K mg) (O : OutK K T.C T.CS T.CTx) (gp : mg "InvalidPlan" = some (.ref T.C)) (gs : mg "InvalidState" = some (.ref T.CS)) : FnSt P w K mg base (k + 1) T.aLOutcome (KnOut P w K mg base k T.C T.CS T.CTx) := by
  refine fnst_of T.LOutcome.F scOut T.LOutcome.b fun cdv A outer s H v Q hr e0 hK => ?_
  obtain ⟨fl, L, fr, dvs, ws, tl, rfl, LA, ht⟩ := hK
  refine ⟨_, pss_one (ps_try_mix (X := (cxOf CX0 P w K mg base ["_law_work", "e"] "_law_outcome" (defScope sOutcome) T.aLOutcome cdv A outer s H E0).nox) rfl rfl scOut.nd
      (tb := fun W D σ H1 => σ[0]? = some (some (.ref fl)) ∧ H1 fl = some (LamO fl L) ∧ H1 L.c = some (CodeO L.c L.qual) ∧ DflAt H1 L.dV dvs ∧ ∃ (E' : XK) (Q' : VK), (∀ cls d H', E' cls d H' → W cls d σ H') ∧ (∀ v H', Q' v H' → D.rt v H') ∧ tl ws E' H1 Q')
      (Mix.named (i := 1) (n := "e") (c := .ref T.C) (ts := fun a cls d D σ H1 => (∃ x0, σ = [some x0, some (.ref a)]) ∧ wPlan T.C D.rt cls d H1) rfl rfl ⟨rfl, by decide, .inl gp⟩ (fun a oe cls d pn hz hf => ⟨fun pins s1 σ H1 D I h => ?_⟩)
        (Mix.plain (c := .ref T.CS) (ts := fun a cls d D σ H1 => wState T.CS D.rt cls d H1) ⟨rfl, by decide, .inl gs⟩ (fun a oe cls d pn hz hf => ⟨fun pins s1 σ H1 D I h => ?_⟩)
          (Mix.named (i := 1) (n := "e") (c := .ref T.CTx) (ts := fun a cls d D σ H1 => (∃ x0, σ = [some x0, some (.ref a)]) ∧ wText T.CTx D.rt cls d H1) rfl rfl ⟨rfl, by decide, .inl T.tx.g⟩ (fun a oe cls d pn hz hf => ⟨fun pins s1 σ H1 D I h => ?_⟩)
            (Mix.nil L2.takes0)))) (fun W pn xe tk _ => ⟨fun pins s1 σ H1 D I h => ?_⟩)), ?_⟩
  · obtain ⟨⟨x0, rfl⟩, rfl, dd, fs, x, y, rfl, hx, l1, l2, hQ⟩ := h
    refine (pss_one (ps_ret (pe_tup (pa_cons pe_str (pa_cons (pe_xf O.xf O.xp hz hf (pv 1)) (pa_cons (pe_xf O.xf O.xi hz hf (pv 1)) pa_nil)))))).run pins s1 _ H1 D I ?_
    refine ⟨.ref a, rfl, rfl, rfl, dd, fs, x, rfl, hx, l1, .ref a, rfl, rfl, rfl, dd, fs, y, rfl, hx, l2, (by show 3 ≤ sizeLine; decide), fun t ht => hQ _ t (same_upd ht) ht upd_same⟩
  · obtain ⟨rfl, hQ⟩ := h
    refine (pss_one (ps_ret (pe_tup (pa_cons pe_str pa_nil)))).run pins s1 _ H1 D I ?_
    exact ⟨(by show 1 ≤ sizeLine; decide), fun t ht => hQ _ t (same_upd ht) ht upd_same⟩
  · obtain ⟨⟨x0, rfl⟩, rfl, dd, fs, y, rfl, hx, l2, hQ⟩ := h
    refine (pss_one (ps_ret (pe_tup (pa_cons pe_str (pa_cons (pe_xf T.tx.x T.tx.n2 hz hf (pv 1)) pa_nil))))).run pins s1 _ H1 D I ?_
    refine ⟨.ref a, rfl, rfl, rfl, dd, fs, y, rfl, hx, l2, (by show 2 ≤ sizeLine; decide), fun t ht => hQ _ t (same_upd ht) ht upd_same⟩
  · refine (pss_one (ps_ret (pe_actL (CXg := CX0) (Eg := E0) (Ng := ["_law_work", "e"]) (qg := "_law_outcome") (sg := defScope sOutcome) (g := T.aLOutcome) (cdg := cdv) (pn := pn) (xe := xe) (i := 0) LA tk hr rfl (.inl rfl)))).run pins s1 σ H1 D I ?_
    obtain ⟨h1, h2, h3, h4, E', Q', h5, h6, h7⟩ := h
    exact ⟨h1, h2, h3, h4, E', Q', h5, h6, h7⟩
  · refine ⟨rfl, LA.fn, LA.code, LA.dfl, OutE T.C T.CS T.CTx Q, Q, fun cls d H' h => ?_, fun v H' h => h, ht⟩
    rcases h with h | h | h
    · obtain ⟨rfl, h⟩ := h
      exact ⟨true, O.pp, fun _ a _ => ⟨⟨_, rfl⟩, rfl, h⟩, (fun z => nomatch z)⟩
    · obtain ⟨rfl, h⟩ := h
      exact ⟨false, O.sp, (fun z => nomatch z), fun _ => ⟨true, O.ss, fun _ a _ => ⟨rfl, h⟩, (fun z => nomatch z)⟩⟩
    · obtain ⟨rfl, h⟩ := h
      exact ⟨false, O.tp, (fun z => nomatch z), fun _ => ⟨false, O.ts, (fun z => nomatch z), fun _ => ⟨true, O.tt, fun _ a _ => ⟨⟨_, rfl⟩, rfl, h⟩, (fun z => nomatch z)⟩⟩⟩
end
end Sv
set_option maxHeartbeats 4000000
namespace Sv
open PySem PySem.Spec PyProof.Rows L2
def Sim (x y : Int) : Prop := x = y ∨ ((10 : Int) ^ 39 ≤ x ∧ (10 : Int) ^ 39 ≤ y)
def SimE : Option Int → Option Int → Prop
  | none, none => True
  | some x, some y => Sim x y
  | _, _ => False
def SimO {α β : Type} (R : α → β → Prop) : Option α → Option β → Prop
  | none, none => True
  | some a, some b => R a b
  | _, _ => False
theorem val_fold : ∀ (t : List Nat) (acc : Nat), acc * 10 ^ t.length ≤ t.foldl (fun a c => a * 10 + (c - 48)) acc
  | [], acc => by
    show acc * 1 ≤ acc
    omega
  | c :: t, acc => by
    have ih := val_fold t (acc * 10 + (c - 48))
    rw [List.foldl_cons, List.length_cons, Nat.pow_succ]
    refine Nat.le_trans ?_ ih
    rw [Nat.mul_comm (10 ^ t.length) 10, ← Nat.mul_assoc]
    exact Nat.mul_le_mul_right _ (by omega)
theorem val_ge {c : Nat} {t : List Nat} (h : 49 ≤ c) : 10 ^ t.length ≤ NumText.digitsVal (c :: t) := by
  have h1 := val_fold t (0 * 10 + (c - 48))
  show _ ≤ t.foldl (fun a c => a * 10 + (c - 48)) (0 * 10 + (c - 48))
  refine Nat.le_trans ?_ h1
  exact Nat.le_mul_of_pos_left _ (by omega)
theorem pow39 {a : Nat} (h : 10 ^ 39 ≤ a) : (10 : Int) ^ 39 ≤ (a : Int) := by
  have : ((10 ^ 39 : Nat) : Int) ≤ (a : Int) := Int.ofNat_le.mpr h
  exact this
theorem sim_num {a : List Nat} (h : isNum a = true) : Sim ((NumText.digitsVal (a.take 40) : Nat) : Int) ((NumText.digitsVal a : Nat) : Int) := by
  by_cases hl : a.length ≤ 40
  · rw [List.take_of_length_le hl]
    exact .inl rfl
  · right
    cases a with
    | nil => exact absurd (Nat.zero_le _) hl
    | cons c t =>
      have hd := (isNum_dig h).1
      rw [List.length_cons] at hl
      have hc : 49 ≤ c := by
        rw [isNum_cases] at h
        simp only [Bool.and_eq_true, Bool.not_eq_true', Bool.and_eq_false_iff, decide_eq_false_iff_not] at h
        have h1 : dig c = true := List.all_eq_true.mp hd c (List.mem_cons_self ..)
        unfold dig at h1
        simp only [Bool.and_eq_true, decide_eq_true_iff] at h1
        rcases h.2.2 with h2 | h2
        · rw [List.length_cons] at h2
          omega
        · have : c ≠ 48 := fun z => h2 (by rw [z]; rfl)
          omega
      have e : (c :: t).take 40 = c :: t.take 39 := rfl
      have l39 : (t.take 39).length = 39 := by rw [List.length_take]; omega
      have g1 := val_ge (t := t.take 39) hc
      have g2 := val_ge (t := t) hc
      rw [l39] at g1
      rw [e]
      exact ⟨pow39 g1, pow39 (Nat.le_trans (Nat.pow_le_pow_right (by decide) (by omega)) g2)⟩
theorem item_sim (m : Bool) (a : List Nat) : SimO SimE (itemO m a) (itemF m a) := by
  unfold itemO itemF
  by_cases hr : m = true ∧ a = restS
  · rw [if_pos hr, if_pos hr]
    trivial
  · rw [if_neg hr, if_neg hr, intO_num]
    by_cases hn : isNum a = true
    · rw [if_pos hn, if_pos hn]
      exact sim_num hn
    · rw [if_neg hn, if_neg hn]
      trivial
theorem items_sim (m : Bool) : ∀ l : List (List Nat), SimO (Paired SimE) (itemsO m l) (itemsF m l)
  | [] => .nil
  | a :: r => by
    have h1 := item_sim m a
    have h2 := items_sim m r
    unfold itemsO itemsF
    cases e1 : itemO m a <;> cases e2 : itemF m a <;> rw [e1, e2] at h1
    · trivial
    · exact h1.elim
    · exact h1.elim
    · cases e3 : itemsO m r <;> cases e4 : itemsF m r <;> rw [e3, e4] at h2
      · trivial
      · exact h2.elim
      · exact h2.elim
      · exact .cons h1 h2
theorem line_sim (w a : List Nat) : SimO (Paired SimE) (lineO w a) (lineF w (decide (w = rtW)) a) := by
  unfold lineO lineF
  cases TL.spl [32] 0 [] a with
  | nil => trivial
  | cons x ps =>
    by_cases hx : x = w
    · show SimO _ (if x = w then _ else none) (if x = w then _ else none)
      rw [if_pos hx, if_pos hx]
      exact items_sim _ ps
    · show SimO _ (if x = w then _ else none) (if x = w then _ else none)
      rw [if_neg hx, if_neg hx]
      trivial
theorem at_sim (L : List (List Nat)) (k : Nat) (w : List Nat) : SimO (Paired SimE) (L[k]?.bind (lineO w)) (L[k]?.bind (lineF w (decide (w = rtW)))) := by
  cases L[k]? with
  | none => trivial
  | some l => exact line_sim w l
theorem simO_cases {α β : Type} {R : α → β → Prop} {x : Option α} {y : Option β} (h : SimO R x y) : (x = none ∧ y = none) ∨ ∃ a b, x = some a ∧ y = some b ∧ R a b := by
  cases x <;> cases y
  · exact .inl ⟨rfl, rfl⟩
  · exact h.elim
  · exact h.elim
  · exact .inr ⟨_, _, rfl, rfl, h⟩
def planK (L : List (List Nat)) (k : Nat) : Except Nat (Ro × List Ro) := match L[0]?.bind (lineO szW) with
  | none => .error 0
  | some z => match rowsO rtW L 1 k with
    | .error j => .error j
    | .ok rs => .ok (z, rs)
theorem kw_rt {k : Nat} : kwF (k + 1) = rtW := if_neg (Nat.succ_ne_zero k)
theorem planK_sim (L : List (List Nat)) : ∀ k, (∃ j, planK L k = .error j ∧ rowsF L (k + 1) = .error j) ∨ (∃ z rs z' rs', planK L k = .ok (z, rs) ∧ rowsF L (k + 1) = .ok (z' :: rs') ∧ Paired SimE z z' ∧ Paired (Paired SimE) rs rs')
  | 0 => by
    have h := at_sim L 0 szW
    rcases simO_cases h with ⟨e1, e2⟩ | ⟨z, z', e1, e2, hz⟩
    · left
      refine ⟨0, by unfold planK; rw [e1], ?_⟩
      show (match L[0]?.bind (lineF (kwF 0) (decide (0 ≠ 0))) with
        | none => Except.error 0
        | some r => .ok ([] ++ [r])) = _
      rw [show L[0]?.bind (lineF (kwF 0) (decide (0 ≠ 0))) = none from e2]
    · right
      refine ⟨z, [], z', [], by unfold planK; rw [e1]; rfl, ?_, hz, .nil⟩
      show (match L[0]?.bind (lineF (kwF 0) (decide (0 ≠ 0))) with
        | none => Except.error 0
        | some r => .ok ([] ++ [r])) = _
      rw [show L[0]?.bind (lineF (kwF 0) (decide (0 ≠ 0))) = some z' from e2]
      rfl
  | k + 1 => by
    rcases planK_sim L k with ⟨j, h1, h2⟩ | ⟨z, rs, z', rs', h1, h2, hz, hr⟩
    · left
      refine ⟨j, ?_, rowsF_err h2 _ (by omega)⟩
      unfold planK at h1 ⊢
      cases e : L[0]?.bind (lineO szW) with
      | none => rw [e] at h1; exact h1
      | some z =>
        rw [e] at h1
        replace h1 : (match rowsO rtW L 1 k with
          | .error j => Except.error j
          | .ok rs => .ok (z, rs)) = (.error j : Except Nat (Ro × List Ro)) := h1
        cases e2 : rowsO rtW L 1 k with
        | error i =>
          rw [e2] at h1
          show (match rowsO rtW L 1 (k + 1) with
            | .error j => Except.error j
            | .ok rs => .ok (z, rs)) = (.error j : Except Nat (Ro × List Ro))
          rw [rowsO_err e2 (k + 1) (by omega)]
          exact h1
        | ok rs => rw [e2] at h1; cases h1
    · unfold planK at h1
      cases e : L[0]?.bind (lineO szW) with
      | none => rw [e] at h1; cases h1
      | some z0 =>
        rw [e] at h1
        replace h1 : (match rowsO rtW L 1 k with
          | .error j => Except.error j
          | .ok rs => .ok (z0, rs)) = (.ok (z, rs) : Except Nat (Ro × List Ro)) := h1
        cases e2 : rowsO rtW L 1 k with
        | error i => rw [e2] at h1; cases h1
        | ok rs0 =>
          rw [e2] at h1
          injection h1 with h1
          injection h1 with ha hb
          subst ha
          subst hb
          have h := at_sim L (k + 1) rtW
          rw [show decide (rtW = rtW) = decide (k + 1 ≠ 0) by simp] at h
          have eF : rowsF L (k + 1 + 1) = match L[k + 1]?.bind (lineF rtW (decide (k + 1 ≠ 0))) with
            | none => Except.error (k + 1)
            | some r => .ok ((z' :: rs') ++ [r]) := by
            show (match rowsF L (k + 1) with
              | .error j => Except.error j
              | .ok rs => match L[k + 1]?.bind (lineF (kwF (k + 1)) (decide (k + 1 ≠ 0))) with
                | none => .error (k + 1)
                | some r => .ok (rs ++ [r])) = _
            rw [h2, kw_rt]
          have eO : planK L (k + 1) = match L[1 + k]?.bind (lineO rtW) with
            | none => Except.error (1 + k)
            | some r => .ok (z0, rs0 ++ [r]) := by
            unfold planK
            rw [e]
            show (match (match rowsO rtW L 1 k with
              | .error j => Except.error j
              | .ok rs => match L[1 + k]?.bind (lineO rtW) with
                | none => .error (1 + k)
                | some r => .ok (rs ++ [r])) with
              | .error j => Except.error j
              | .ok rs => .ok (z0, rs)) = _
            rw [e2]
            cases L[1 + k]?.bind (lineO rtW) <;> rfl
          rw [Nat.add_comm 1 k] at eO
          rcases simO_cases h with ⟨f1, f2⟩ | ⟨r, r', f1, f2, hr2⟩
          · left
            rw [f1] at eO
            rw [f2] at eF
            exact ⟨k + 1, eO, eF⟩
          · right
            rw [f1] at eO
            rw [f2] at eF
            exact ⟨z0, rs0 ++ [r], z', rs' ++ [r'], eO, eF, hz, hr.snoc hr2⟩
theorem fst_congr {α β : Type} {p : α → Bool} {q : β → Bool} : ∀ {l : List α} {l' : List β} (i : Nat), Paired (fun x y => p x = q y) l l' → fst p l i = fst q l' i
  | _, _, _, .nil => rfl
  | _, _, i, .cons h t => by
    unfold fst
    rw [h, fst_congr (i + 1) t]
theorem paired_map {α β α' β' : Type} {R : α → β → Prop} {R' : α' → β' → Prop} {f : α → α'} {g : β → β'} (h : ∀ a b, R a b → R' (f a) (g b)) : ∀ {l : List α} {l' : List β}, Paired R l l' → Paired R' (l.map f) (l'.map g)
  | _, _, .nil => .nil
  | _, _, .cons a t => .cons (h _ _ a) (paired_map h t)
theorem paired_mono {α β : Type} {R R' : α → β → Prop} (h : ∀ a b, R a b → R' a b) : ∀ {l : List α} {l' : List β}, Paired R l l' → Paired R' l l'
  | _, _, .nil => .nil
  | _, _, .cons a t => .cons (h _ _ a) (paired_mono h t)
theorem paired_length {α β : Type} {R : α → β → Prop} : ∀ {l : List α} {l' : List β}, Paired R l l' → l.length = l'.length
  | _, _, .nil => rfl
  | _, _, .cons _ t => congrArg Nat.succ (paired_length t)
theorem paired_eq {α : Type} {R : α → α → Prop} : ∀ {l l' : List α}, Paired R l l' → (∀ a b, a ∈ l → R a b → a = b) → l = l'
  | _, _, .nil, _ => rfl
  | _, _, .cons h t, k => by rw [k _ _ (List.mem_cons_self ..) h, paired_eq t fun a b ha => k a b (List.mem_cons_of_mem _ ha)]
theorem big39 : (1000 : Int) < (10 : Int) ^ 39 := by decide
theorem okZ_sim {x y : Int} (h : Sim x y) : okZ x = okZ y := by
  rcases h with rfl | ⟨h1, h2⟩
  · rfl
  · have b := big39
    unfold okZ
    rw [decide_eq_false (by omega), decide_eq_false (by omega)]
theorem okE_sim {n : Int} (hn : n ≤ 1000) {e e' : Option Int} (h : SimE e e') : okE n e = okE n e' := by
  cases e <;> cases e'
  · rfl
  · exact h.elim
  · exact h.elim
  · rename_i x y
    have h : Sim x y := h
    rcases h with rfl | ⟨h1, h2⟩
    · rfl
    · have b := big39
      show decide (0 ≤ x ∧ x ≤ n - 1) = decide (0 ≤ y ∧ y ≤ n - 1)
      rw [decide_eq_false (by omega), decide_eq_false (by omega)]
theorem all_congr {α β : Type} {p : α → Bool} {q : β → Bool} : ∀ {l : List α} {l' : List β}, Paired (fun x y => p x = q y) l l' → l.all p = l'.all q
  | _, _, .nil => rfl
  | _, _, .cons h t => by rw [List.all_cons, List.all_cons, h, all_congr t]
theorem okR_sim {n : Int} (hn : n ≤ 1000) {r r' : Ro} (h : Paired SimE r r') : okR n r = okR n r' := by
  unfold okR
  rw [paired_length h, all_congr (p := okE n) (q := okE n) (paired_mono (fun a b k => okE_sim hn k) h)]
theorem dOf_sim {z z' : Ro} {rs rs' : List Ro} (hs : ∀ e ∈ z, e ≠ none) (hz : Paired SimE z z') (hr : Paired (Paired SimE) rs rs') : dOf z rs = dOf z' rs' := by
  have hzs : Paired Sim (zsOf z) (zsOf z') := paired_map (fun a b k => by
    cases a <;> cases b
    · exact .inl rfl
    · exact k.elim
    · exact k.elim
    · exact k) hz
  have lz := paired_length hzs
  have lr := paired_length hr
  have eS : badS (zsOf z) = badS (zsOf z') := by
    unfold badS
    rw [lz, fst_congr (p := okZ) (q := okZ) 0 (paired_mono (R := Sim) (fun a b k => okZ_sim k) hzs)]
  unfold dOf bad
  rw [← eS]
  cases hb : badS (zsOf z) with
  | some i => rfl
  | none =>
    have hzl : zsOf z = zsOf z' ∧ (zsOf z).length ≤ 12 := by
      unfold badS at hb
      by_cases h12 : 1 ≤ (zsOf z).length ∧ (zsOf z).length ≤ 12
      · rw [if_pos h12] at hb
        refine ⟨paired_eq hzs fun a b ha k => ?_, h12.2⟩
        have hn : fst okZ (zsOf z) 0 = none := by
          cases e : fst okZ (zsOf z) 0 with
          | none => rfl
          | some i => rw [e] at hb; cases hb
        have hok : okZ a = true := fst_all hn a ha
        rcases k with k | ⟨k, _⟩
        · exact k
        · have b39 := big39
          have := of_decide_eq_true hok
          omega
      · rw [if_neg h12] at hb
        cases hb
    have hn : ((zsOf z).length : Int) ≤ 1000 := by omega
    have eR : badR (zsOf z).length rs = badR (zsOf z').length rs' := by
      unfold badR
      rw [← hzl.1, lr, fst_congr (p := okR (zsOf z).length) (q := okR (zsOf z).length) 0 (paired_mono (R := Paired SimE) (fun a b k => okR_sim hn k) hr)]
    rw [← eR]
    cases hb2 : badR (zsOf z).length rs with
    | some i => rfl
    | none =>
      have ez : z = z' := by
        refine paired_eq hz fun a b ha k => ?_
        cases a with
        | none => exact absurd rfl (hs none ha)
        | some x =>
          cases b with
          | none => exact k.elim
          | some y =>
            have k : Sim x y := k
            rcases k with k | ⟨k, _⟩
            · rw [k]
            · exfalso
              have hm : x ∈ zsOf z := List.mem_map.mpr ⟨some x, ha, rfl⟩
              have b39 := big39
              unfold badS at hb
              by_cases h12 : 1 ≤ (zsOf z).length ∧ (zsOf z).length ≤ 12
              · rw [if_pos h12] at hb
                have hn : fst okZ (zsOf z) 0 = none := by
                  cases e : fst okZ (zsOf z) 0 with
                  | none => rfl
                  | some i => rw [e] at hb; cases hb
                have := of_decide_eq_true (fst_all hn x hm)
                omega
              · rw [if_neg h12] at hb
                cases hb
      have er : rs = rs' := by
        refine paired_eq hr fun a b ha k => ?_
        refine paired_eq k fun e e' he k2 => ?_
        unfold badR at hb2
        by_cases h16 : 1 ≤ rs.length ∧ rs.length ≤ 6
        · rw [if_pos h16] at hb2
          have hn2 : fst (okR (zsOf z).length) rs 0 = none := by
            cases e : fst (okR (zsOf z).length) rs 0 with
            | none => rfl
            | some i => rw [e] at hb2; cases hb2
          have hok := fst_all hn2 a ha
          unfold okR at hok
          rw [Bool.and_eq_true, List.all_eq_true] at hok
          have hoe := hok.2 e he
          cases e with
          | none => cases e' with
            | none => rfl
            | some y => exact k2.elim
          | some x =>
            cases e' with
            | none => exact k2.elim
            | some y =>
              have k2 : Sim x y := k2
              rcases k2 with k2 | ⟨k2, _⟩
              · rw [k2]
              · have b39 := big39
                have := of_decide_eq_true hoe
                omega
        · rw [if_neg h16] at hb2
          cases hb2
      rw [ez, er]
/-- what the program makes of a text -/
def planD (a : List Nat) : PyData := match planR a with
  | .error j => dText j
  | .ok (z, rs) => dOf z rs
theorem planD_F (a : List Nat) : planD a = planF (TL.spl [10] 0 [] a) := by
  have hne := (spl_props 10 a []).1
  have e : planR a = planK (TL.spl [10] 0 [] a) ((TL.spl [10] 0 [] a).length - 1) := rfl
  unfold planD planF
  rw [e]
  generalize TL.spl [10] 0 [] a = L at hne
  have hl : 0 < L.length := List.length_pos_iff.mpr hne
  have h := planK_sim L (L.length - 1)
  rw [show L.length - 1 + 1 = L.length by omega] at h
  rcases h with ⟨j, h1, h2⟩ | ⟨z, rs, z', rs', h1, h2, hz, hr⟩
  · rw [h1, h2]
  · rw [h1, h2]
    refine dOf_sim ?_ hz hr
    unfold planK at h1
    cases e : L[0]?.bind (lineO szW) with
    | none => rw [e] at h1; cases h1
    | some z0 =>
      rw [e] at h1
      replace h1 : (match rowsO rtW L 1 (L.length - 1) with
        | .error j => Except.error j
        | .ok rs => .ok (z0, rs)) = (.ok (z, rs) : Except Nat (Ro × List Ro)) := h1
      cases e2 : rowsO rtW L 1 (L.length - 1) with
      | error i => rw [e2] at h1; cases h1
      | ok rs0 =>
        rw [e2] at h1
        injection h1 with h1
        injection h1 with ha hb
        subst ha
        cases e3 : L[0]? with
        | none => rw [e3] at e; cases e
        | some l =>
          rw [e3] at e
          obtain ⟨zs, hzs, _⟩ := lineO_ints (by decide) e
          rw [hzs]
          intro x hx
          obtain ⟨i, _, rfl⟩ := List.mem_map.mp hx
          exact fun z => nomatch z
end Sv
set_option maxHeartbeats 4000000
namespace Sv
open PySem PySem.Spec PyProof.Rows L2
def SimT (x y : Int) : Prop := x = y ∨ ((10 : Int) ^ 39 ≤ x ∧ (10 : Int) ^ 39 ≤ y) ∨ (x ≤ -(10 : Int) ^ 39 ∧ y ≤ -(10 : Int) ^ 39)
theorem nums_sim : ∀ ps : List (List Nat), (itemsO false ps = none ∧ none ∈ ps.map (intO false)) ∨ ∃ c, itemsO false ps = some c ∧ none ∉ ps.map (intO false) ∧ Paired Sim (zsOf c) (zsOf (ps.map (intO false)))
  | [] => .inr ⟨[], rfl, (fun z => nomatch z), .nil⟩
  | a :: r => by
    have ih := nums_sim r
    have e1 : itemO false a = if isNum a = true then some (some ((NumText.digitsVal (a.take 40) : Nat) : Int)) else none := if_neg fun z => nomatch z.1
    rw [List.map_cons, intO_num]
    unfold itemsO
    rw [e1]
    by_cases hn : isNum a = true
    · rw [if_pos hn, if_pos hn]
      rcases ih with ⟨i1, i2⟩ | ⟨c, i1, i2, i3⟩
      · left
        rw [i1]
        exact ⟨rfl, List.mem_cons_of_mem _ i2⟩
      · right
        rw [i1]
        refine ⟨_, rfl, fun z => ?_, .cons (sim_num hn) i3⟩
        rcases List.mem_cons.mp z with z | z
        · cases z
        · exact i2 z
    · left
      rw [if_neg hn, if_neg hn]
      exact ⟨by cases itemsO false r <;> rfl, List.mem_cons_self ..⟩
theorem time1 (y : List Nat) : SimO SimT (if isNum y = true then some ((NumText.digitsVal (y.take 40) : Nat) : Int) else minusO y) (intO true y) := by
  by_cases hn : isNum y = true
  · rw [if_pos hn]
    have hd : digW true y = y := by
      refine if_neg fun z => ?_
      cases y with
      | nil => cases z.2
      | cons c t =>
        have h1 := List.all_eq_true.mp (isNum_dig hn).1 c (List.mem_cons_self ..)
        have h2 : c = 45 := (List.cons.inj z.2).1
        rw [h2] at h1
        cases h1
    unfold intO
    rw [hd, if_pos hn, if_pos rfl]
    rcases sim_num hn with h | h
    · exact .inl h
    · exact .inr (.inl h)
  · rw [if_neg hn]
    by_cases hy : ∃ t, y = 45 :: t
    · obtain ⟨t, rfl⟩ := hy
      have hd : digW true (45 :: t) = t := if_pos ⟨rfl, rfl⟩
      have ht : t ≠ 45 :: t := fun z => by
        have := congrArg List.length z
        rw [List.length_cons] at this
        omega
      unfold intO
      rw [hd, if_neg ht]
      show SimO SimT (if t ≠ [48] ∧ isNum t = true then some (-((NumText.digitsVal (t.take 40) : Nat) : Int)) else none) _
      by_cases hm : isNum t = true
      · rw [if_pos hm]
        by_cases h48 : t = [48]
        · rw [if_pos h48, if_neg fun z => z.1 h48]
          trivial
        · rw [if_neg h48, if_pos ⟨h48, hm⟩]
          show SimT _ _
          rcases sim_num hm with h | ⟨h1, h2⟩
          · exact .inl (by omega)
          · exact .inr (.inr ⟨by omega, by omega⟩)
      · rw [if_neg hm, if_neg fun z => hm z.2]
        trivial
    · have hd : digW true y = y := by
        refine if_neg fun z => ?_
        cases y with
        | nil => cases z.2
        | cons c t =>
          have h2 : c = 45 := (List.cons.inj z.2).1
          exact hy ⟨t, by rw [h2]⟩
      unfold intO
      rw [hd, if_neg hn, (minusO_no (x := y) fun t e => hy ⟨t, e⟩).1]
      trivial
theorem kwG_ne (k : Nat) : kwG k ≠ [] := by
  unfold kwG
  split
  · exact fun z => nomatch z
  · split <;> exact fun z => nomatch z
theorem row0_sim (n : Nat) (L : List (List Nat)) : (L[0]?.bind timeO = none ∧ rowG n L 0 = none) ∨ ∃ t t', L[0]?.bind timeO = some t ∧ rowG n L 0 = some [t'] ∧ SimT t t' := by
  have e0 : rowG n L 0 = match wordsO L 0 with
    | [] => none
    | x :: ps => if x = kwG 0 ∧ none ∉ numG 0 ps ∧ (0 = 0 → ps.length = 1) then some (zsOf (numG 0 ps)) else none := if_neg (by omega)
  rw [e0]
  unfold wordsO
  cases e : L[0]? with
  | none =>
    left
    refine ⟨rfl, if_neg fun z => kwG_ne 0 z.1.symm⟩
  | some l =>
    show (timeO l = none ∧ (match TL.spl [32] 0 [] l with
      | [] => none
      | x :: ps => if x = kwG 0 ∧ none ∉ numG 0 ps ∧ (0 = 0 → ps.length = 1) then some (zsOf (numG 0 ps)) else none) = none) ∨ ∃ t t', timeO l = some t ∧ (match TL.spl [32] 0 [] l with
      | [] => none
      | x :: ps => if x = kwG 0 ∧ none ∉ numG 0 ps ∧ (0 = 0 → ps.length = 1) then some (zsOf (numG 0 ps)) else none) = some [t'] ∧ SimT t t'
    unfold timeO
    cases TL.spl [32] 0 [] l with
    | nil => exact .inl ⟨rfl, rfl⟩
    | cons x ps =>
      cases ps with
      | nil => exact .inl ⟨rfl, if_neg fun z => nomatch z.2.2 rfl⟩
      | cons y r =>
        cases r with
        | cons y2 r2 => exact .inl ⟨rfl, if_neg fun z => nomatch z.2.2 rfl⟩
        | nil =>
          have h1 := time1 y
          by_cases hx : x = tmW
          · have e1 : numG 0 [y] = [intO true y] := rfl
            show ((if x = tmW then _ else none) = none ∧ (if x = kwG 0 ∧ none ∉ numG 0 [y] ∧ (0 = 0 → [y].length = 1) then some (zsOf (numG 0 [y])) else none) = none) ∨ ∃ t t', (if x = tmW then _ else none) = some t ∧ (if x = kwG 0 ∧ none ∉ numG 0 [y] ∧ (0 = 0 → [y].length = 1) then some (zsOf (numG 0 [y])) else none) = some [t'] ∧ SimT t t'
            rw [if_pos hx, e1]
            rcases simO_cases h1 with ⟨f1, f2⟩ | ⟨t, t', f1, f2, f3⟩
            · left
              exact ⟨f1, if_neg fun z => z.2.1 (by rw [f2]; exact List.mem_cons_self ..)⟩
            · right
              refine ⟨t, t', f1, ?_, f3⟩
              rw [f2]
              exact if_pos ⟨hx, (fun z => nomatch List.mem_singleton.mp z), fun _ => rfl⟩
          · exact .inl ⟨if_neg hx, if_neg fun z => hx z.1⟩
theorem row_sim {n k : Nat} (L : List (List Nat)) (hk0 : k ≠ 0) (hkn : k < n + 2) : (L[k]?.bind (lineO (kwG k)) = none ∧ rowG n L k = none) ∨ ∃ c v, L[k]?.bind (lineO (kwG k)) = some c ∧ rowG n L k = some v ∧ Paired Sim (zsOf c) v := by
  have e0 : rowG n L k = match wordsO L k with
    | [] => none
    | x :: ps => if x = kwG k ∧ none ∉ numG k ps ∧ (k = 0 → ps.length = 1) then some (zsOf (numG k ps)) else none := if_neg (by omega)
  have hrt : decide (kwG k = rtW) = false := by
    unfold kwG
    rw [if_neg hk0]
    split <;> rfl
  have hng : ∀ ps, numG k ps = ps.map (intO false) := fun ps => by
    unfold numG
    rw [decide_eq_false hk0]
  rw [e0]
  unfold wordsO
  cases e : L[k]? with
  | none =>
    left
    exact ⟨rfl, if_neg fun z => kwG_ne k z.1.symm⟩
  | some l =>
    show (lineO (kwG k) l = none ∧ (match TL.spl [32] 0 [] l with
      | [] => none
      | x :: ps => if x = kwG k ∧ none ∉ numG k ps ∧ (k = 0 → ps.length = 1) then some (zsOf (numG k ps)) else none) = none) ∨ ∃ c v, lineO (kwG k) l = some c ∧ (match TL.spl [32] 0 [] l with
      | [] => none
      | x :: ps => if x = kwG k ∧ none ∉ numG k ps ∧ (k = 0 → ps.length = 1) then some (zsOf (numG k ps)) else none) = some v ∧ Paired Sim (zsOf c) v
    unfold lineO
    rw [hrt]
    cases TL.spl [32] 0 [] l with
    | nil => exact .inl ⟨rfl, rfl⟩
    | cons x ps =>
      show ((if x = kwG k then itemsO false ps else none) = none ∧ (if x = kwG k ∧ none ∉ numG k ps ∧ (k = 0 → ps.length = 1) then some (zsOf (numG k ps)) else none) = none) ∨ ∃ c v, (if x = kwG k then itemsO false ps else none) = some c ∧ (if x = kwG k ∧ none ∉ numG k ps ∧ (k = 0 → ps.length = 1) then some (zsOf (numG k ps)) else none) = some v ∧ Paired Sim (zsOf c) v
      rw [hng]
      by_cases hx : x = kwG k
      · rw [if_pos hx]
        rcases nums_sim ps with ⟨f1, f2⟩ | ⟨c, f1, f2, f3⟩
        · exact .inl ⟨f1, if_neg fun z => z.2.1 f2⟩
        · exact .inr ⟨c, _, f1, if_pos ⟨hx, f2, fun z => absurd z hk0⟩, f3⟩
      · rw [if_neg hx]
        exact .inl ⟨rfl, if_neg fun z => hx z.1⟩
theorem kw_sh {k : Nat} : kwG (2 + k) = shW := by
  unfold kwG
  rw [if_neg (by omega), if_neg (by omega)]
theorem shelves_sim {n : Nat} {L : List (List Nat)} {t' : Int} {v : List Int} (h2 : rowsG n L 2 = .ok [[t'], v]) : ∀ k, k ≤ n → (∃ j, rowsO shW L 2 k = .error j ∧ rowsG n L (2 + k) = .error j) ∨ (∃ ss vs, rowsO shW L 2 k = .ok ss ∧ rowsG n L (2 + k) = .ok ([t'] :: v :: vs) ∧ Paired (fun s w => Paired Sim (zsOf s) w) ss vs)
  | 0, _ => .inr ⟨[], [], rfl, h2, .nil⟩
  | k + 1, hk => by
    rcases shelves_sim h2 k (by omega) with ⟨j, a1, a2⟩ | ⟨ss, vs, a1, a2, a3⟩
    · exact .inl ⟨j, rowsO_err a1 _ (by omega), rowsG_err a2 _ (by omega)⟩
    · have h := row_sim (n := n) (k := 2 + k) L (by omega) (by omega)
      rw [kw_sh] at h
      rcases h with ⟨f1, f2⟩ | ⟨c, w, f1, f2, f3⟩
      · left
        exact ⟨2 + k, rowsO_bad a1 f1 (by omega), rowsG_bad a2 f2 (by omega)⟩
      · right
        refine ⟨ss ++ [c], vs ++ [w], rowsO_snoc a1 f1, ?_, a3.snoc f3⟩
        exact rowsG_snoc a2 f2
theorem Sim.symm {x y : Int} (h : Sim x y) : Sim y x := h.elim (fun e => .inl e.symm) fun e => .inr ⟨e.2, e.1⟩
theorem sim_small {x y : Int} (h : Sim x y) (hx : x ≤ 999) : x = y := by
  rcases h with h | ⟨h, _⟩
  · exact h
  · have := big39
    omega
theorem time_small {x y : Int} (h : SimT x y) : (TimeOk x ↔ TimeOk y) ∧ (TimeOk x → x = y) := by
  have b : (1000000000000000000000000000000 : Int) < (10 : Int) ^ 39 := by decide
  unfold TimeOk
  rcases h with rfl | ⟨h1, h2⟩ | ⟨h1, h2⟩
  · exact ⟨Iff.rfl, fun _ => rfl⟩
  · exact ⟨⟨fun z => by omega, fun z => by omega⟩, fun z => by omega⟩
  · exact ⟨⟨fun z => by omega, fun z => by omega⟩, fun z => by omega⟩
theorem paired_symm {α β : Type} {R : α → β → Prop} {R' : β → α → Prop} (h : ∀ a b, R a b → R' b a) : ∀ {l : List α} {l' : List β}, Paired R l l' → Paired R' l' l
  | _, _, .nil => .nil
  | _, _, .cons a t => .cons (h _ _ a) (paired_symm h t)
theorem st_sim1 {zs : List Int} {rs : List Ro} {t t' : Int} {c v : List Int} {ss vs : List (List Int)} (ht : SimT t t') (hc : Paired Sim c v) (hs : Paired (Paired Sim) ss vs) (h : StOk zs rs t (c, ss)) : t = t' ∧ c = v ∧ ss = vs := by
  have hp := h.p.1
  refine ⟨(time_small ht).2 h.t, ?_, ?_⟩
  · exact paired_eq hc fun a b ha k => sim_small k (hp a (List.mem_append_left _ ha)).2
  · refine paired_eq hs fun a b ha k => paired_eq k fun x y hx k2 => sim_small k2 (hp x (List.mem_append_right _ (List.mem_flatten.mpr ⟨a, ha, hx⟩))).2
/-- what the program makes of a text -/
def stD (zs : List Int) (rs : List Ro) (a : List Nat) : PyData := match stateR zs.length a with
  | .error j => dText j
  | .ok (t, c, ss) => if StOk zs rs t (zsOf c, ss.map zsOf) then dSt t (zsOf c, ss.map zsOf) else dNoSt
theorem SimT.symm {x y : Int} (h : SimT x y) : SimT y x := by
  rcases h with h | ⟨a, b⟩ | ⟨a, b⟩
  · exact .inl h.symm
  · exact .inr (.inl ⟨b, a⟩)
  · exact .inr (.inr ⟨b, a⟩)
theorem stD_F (zs : List Int) (rs : List Ro) (a : List Nat) : stD zs rs a = stF zs rs (TL.spl [10] 0 [] a) := by
  have e : stateR zs.length a = match (TL.spl [10] 0 [] a)[0]?.bind timeO with
    | none => .error 0
    | some t => match (TL.spl [10] 0 [] a)[1]?.bind (lineO caW) with
      | none => .error 1
      | some c => match rowsO shW (TL.spl [10] 0 [] a) 2 zs.length with
        | .error j => .error j
        | .ok ss => if (TL.spl [10] 0 [] a).length > 2 + zs.length then .error (2 + zs.length) else .ok (t, c, ss) := rfl
  unfold stD stF
  rw [e]
  generalize TL.spl [10] 0 [] a = L
  generalize hN : max L.length (zs.length + 2) = N
  have hN2 : 2 ≤ N := by omega
  have r1 : ∀ r, rowG zs.length L 0 = some r → rowsG zs.length L 1 = .ok [r] := fun r h => rowsG_snoc (k := 0) (rs := []) rfl h
  rcases row0_sim zs.length L with ⟨f1, f2⟩ | ⟨t, t', f1, f2, f3⟩
  · rw [f1, rowsG_bad (k := 0) (rs := []) rfl f2 (by omega)]
  · rw [f1]
    have g1 := r1 _ f2
    have h := row_sim (n := zs.length) (k := 1) L (by decide) (by omega)
    rw [show kwG 1 = caW from rfl] at h
    rcases h with ⟨p1, p2⟩ | ⟨c, v, p1, p2, p3⟩
    · rw [rowsG_bad g1 p2 (by omega)]
      show (match (match L[1]?.bind (lineO caW) with
        | none => Except.error 1
        | some c => match rowsO shW L 2 zs.length with
          | .error j => .error j
          | .ok ss => if L.length > 2 + zs.length then .error (2 + zs.length) else .ok (t, c, ss)) with
        | .error j => dText j
        | .ok (t, c, ss) => if StOk zs rs t (zsOf c, ss.map zsOf) then dSt t (zsOf c, ss.map zsOf) else dNoSt) = _
      rw [p1]
    · have g2 : rowsG zs.length L 2 = .ok [[t'], v] := rowsG_snoc g1 p2
      show (match (match L[1]?.bind (lineO caW) with
        | none => Except.error 1
        | some c => match rowsO shW L 2 zs.length with
          | .error j => .error j
          | .ok ss => if L.length > 2 + zs.length then .error (2 + zs.length) else .ok (t, c, ss)) with
        | .error j => dText j
        | .ok (t, c, ss) => if StOk zs rs t (zsOf c, ss.map zsOf) then dSt t (zsOf c, ss.map zsOf) else dNoSt) = _
      rw [p1]
      show (match (match rowsO shW L 2 zs.length with
          | .error j => Except.error j
          | .ok ss => if L.length > 2 + zs.length then .error (2 + zs.length) else .ok (t, c, ss)) with
        | .error j => dText j
        | .ok (t, c, ss) => if StOk zs rs t (zsOf c, ss.map zsOf) then dSt t (zsOf c, ss.map zsOf) else dNoSt) = _
      rcases shelves_sim g2 zs.length (Nat.le_refl _) with ⟨j, a1, a2⟩ | ⟨ss, vs, a1, a2, a3⟩
      · rw [a1, rowsG_err a2 N (by omega)]
      · rw [a1]
        show (match (if L.length > 2 + zs.length then Except.error (2 + zs.length) else .ok (t, c, ss)) with
        | .error j => dText j
        | .ok (t, c, ss) => if StOk zs rs t (zsOf c, ss.map zsOf) then dSt t (zsOf c, ss.map zsOf) else dNoSt) = _
        by_cases hlong : L.length > 2 + zs.length
        · rw [if_pos hlong]
          have hb : rowG zs.length L (2 + zs.length) = none := if_pos (by omega)
          rw [rowsG_bad a2 hb (by omega)]
        · rw [if_neg hlong]
          have eN : N = 2 + zs.length := by omega
          rw [eN, a2]
          have hs : Paired (Paired Sim) (ss.map zsOf) vs := by
            have := paired_map (R' := Paired Sim) (f := zsOf) (g := id) (fun a b k => k) a3
            rw [List.map_id] at this
            exact this
          show (if StOk zs rs t (zsOf c, ss.map zsOf) then dSt t (zsOf c, ss.map zsOf) else dNoSt) = if StOk zs rs t' (v, vs) then dSt t' (v, vs) else dNoSt
          by_cases ok : StOk zs rs t (zsOf c, ss.map zsOf)
          · obtain ⟨e1, e2, e3⟩ := st_sim1 f3 p3 hs ok
            rw [e1, e2, e3]
          · have no : ¬ StOk zs rs t' (v, vs) := fun z => by
              obtain ⟨e1, e2, e3⟩ := st_sim1 f3.symm (paired_symm (fun a b k => k.symm) p3) (paired_symm (fun a b k => paired_symm (fun x y k2 => k2.symm) k) hs) z
              rw [e1, e2, e3] at z
              exact ok z
            rw [if_neg ok, if_neg no]
end Sv
set_option maxHeartbeats 4000000
namespace Sv
open PySem PySem.Spec PyProof.Rows L2
theorem numL_head (n : Nat) : n ≠ 0 → (TL.numL n).head? ≠ some 48 := by
  induction n using Nat.strongRecOn with
  | _ n ih =>
    intro hn
    by_cases h : n < 10
    · rw [TL.numL_lt h]
      intro z
      have := Option.some.inj z
      omega
    · rw [TL.numL_step (by omega)]
      have h1 := ih (n / 10) (by omega) (by omega)
      have h2 := TL.numL_ne (n / 10)
      cases e : TL.numL (n / 10) with
      | nil => exact absurd e h2
      | cons c t =>
        rw [e] at h1
        exact h1
theorem dig_num (n : Nat) : (TL.numL n).all dig = true := by
  rw [List.all_eq_true]
  intro c hc
  obtain ⟨h1, h2⟩ := TL.numL_digits n c hc
  unfold dig
  rw [decide_eq_true h1, decide_eq_true h2]
  rfl
theorem isNum_num (n : Nat) : isNum (TL.numL n) = true := by
  unfold isNum
  rw [dig_num, Bool.true_and]
  by_cases h : n = 0
  · rw [h, TL.numL_lt (by decide)]
    rfl
  · rw [decide_eq_true (TL.numL_ne n), decide_eq_true (numL_head n h)]
    simp
theorem num40 {n : Nat} (h : n < 10 ^ 40) : NumText.digitsVal ((TL.numL n).take 40) = n := by
  rw [List.take_of_length_le (TL.numL_len (by decide) h), TL.numL_val]
theorem entS_pos {i : Int} (h : 0 ≤ i) : entS (some i) = TL.numL i.toNat := if_neg (by omega)
theorem itemO_ent {m : Bool} {e : Option Int} (h1 : m = true ∨ e ≠ none) (h2 : ∀ i, e = some i → 0 ≤ i ∧ i.natAbs < 10 ^ 40) : itemO m (entS e) = some e := by
  cases e with
  | none =>
    rcases h1 with h1 | h1
    · exact if_pos ⟨h1, rfl⟩
    · exact absurd rfl h1
  | some i =>
    obtain ⟨p, q⟩ := h2 i rfl
    rw [entS_pos p]
    have hr : TL.numL i.toNat ≠ restS := fun z => by
      have := isNum_num i.toNat
      rw [z] at this
      cases this
    unfold itemO
    rw [if_neg fun z => hr z.2, if_pos (isNum_num _), num40 (by omega)]
    rw [Int.toNat_of_nonneg p]
theorem itemsO_ent {m : Bool} : ∀ {r : Ro}, (m = true ∨ ∀ e ∈ r, e ≠ none) → (∀ i, some i ∈ r → 0 ≤ i ∧ i.natAbs < 10 ^ 40) → itemsO m (r.map entS) = some r
  | [], _, _ => rfl
  | e :: r, h1, h2 => by
    rw [List.map_cons]
    unfold itemsO
    rw [itemO_ent (h1.elim .inl fun h => .inr (h e (List.mem_cons_self ..))) (fun i hi => h2 i (by rw [← hi]; exact List.mem_cons_self ..)),
      itemsO_ent (h1.elim .inl fun h => .inr fun e he => h e (List.mem_cons_of_mem _ he)) fun i hi => h2 i (List.mem_cons_of_mem _ hi)]
theorem ent_no {e : Option Int} {s : Nat} (h : s = 32 ∨ s = 10) : s ∉ entS e := by
  cases e with
  | none => rcases h with rfl | rfl <;> decide
  | some i =>
    show s ∉ (if i < 0 then 45 :: TL.numL (-i).toNat else TL.numL i.toNat)
    have hs : s < 48 ∨ 57 < s := by omega
    split
    · intro z
      rcases List.mem_cons.mp z with z | z
      · omega
      · exact TL.numL_free hs z
    · exact TL.numL_free hs
theorem spl_line {w : List Nat} {r : Ro} (hw : 32 ∉ w) : TL.spl [32] 0 [] (lineS w r) = w :: r.map entS := by
  unfold lineS
  refine SX.spl_join (fun z => nomatch z) fun p hp => ?_
  rcases List.mem_cons.mp hp with rfl | hp
  · exact hw
  · obtain ⟨e, _, rfl⟩ := List.mem_map.mp hp
    exact ent_no (.inl rfl)
theorem joinL_no {s : Nat} {sep : List Nat} (hs : s ∉ sep) : ∀ {ys : List (List Nat)}, (∀ y ∈ ys, s ∉ y) → s ∉ TL.joinL sep ys
  | [], _ => fun z => nomatch z
  | [y], h => h y (List.mem_singleton.mpr rfl)
  | y :: z :: r, h => fun hm => by
    rcases List.mem_append.mp hm with hm | hm
    · exact h y (List.mem_cons_self ..) hm
    · rcases List.mem_append.mp hm with hm | hm
      · exact hs hm
      · exact joinL_no hs (ys := z :: r) (fun y hy => h y (List.mem_cons_of_mem _ hy)) hm
theorem line_no {w : List Nat} {r : Ro} (hw : 10 ∉ w) : 10 ∉ lineS w r := by
  refine joinL_no (by decide) fun p hp => ?_
  rcases List.mem_cons.mp hp with rfl | hp
  · exact hw
  · obtain ⟨e, _, rfl⟩ := List.mem_map.mp hp
    exact ent_no (.inr rfl)
theorem lineO_line {w : List Nat} {r : Ro} (hw : 32 ∉ w) (h1 : w = rtW ∨ ∀ e ∈ r, e ≠ none) (h2 : ∀ i, some i ∈ r → 0 ≤ i ∧ i.natAbs < 10 ^ 40) : lineO w (lineS w r) = some r := by
  unfold lineO
  rw [spl_line hw]
  show (if w = w then itemsO (decide (w = rtW)) (r.map entS) else none) = _
  rw [if_pos rfl]
  exact itemsO_ent (h1.elim (fun h => .inl (decide_eq_true h)) .inr) h2
theorem rowsO_map {w : List Nat} {L : List (List Nat)} {i : Nat} {rs : List Ro} (h : ∀ j r, rs[j]? = some r → L[i + j]?.bind (lineO w) = some r) : ∀ k, k ≤ rs.length → rowsO w L i k = .ok (rs.take k)
  | 0, _ => rfl
  | k + 1, hk => by
    obtain ⟨r, hr⟩ : ∃ r, rs[k]? = some r := ⟨_, List.getElem?_eq_getElem (by omega)⟩
    rw [rowsO_snoc (rowsO_map h k (by omega)) (h k r hr), List.take_add_one, hr]
    rfl
theorem planR_planS {zs : List Int} {rs : List Ro} (v : Val zs rs) : planR (planS zs rs) = .ok (zs.map some, rs) := by
  have e : TL.spl [10] 0 [] (planS zs rs) = lineS szW (zs.map some) :: rs.map (lineS rtW) := by
    unfold planS
    refine SX.spl_join (fun z => nomatch z) fun p hp => ?_
    rcases List.mem_cons.mp hp with rfl | hp
    · exact line_no (by decide)
    · obtain ⟨r, _, rfl⟩ := List.mem_map.mp hp
      exact line_no (by decide)
  have h0 : lineO szW (lineS szW (zs.map some)) = some (zs.map some) := by
    refine lineO_line (by decide) (.inr fun e he => ?_) fun i hi => ?_
    · obtain ⟨z, _, rfl⟩ := List.mem_map.mp he
      exact fun y => nomatch y
    · obtain ⟨z, hz, e⟩ := List.mem_map.mp hi
      obtain rfl := Option.some.inj e
      have h1 := v.z2 z hz
      exact ⟨h1.1, Nat.lt_of_le_of_lt (show z.natAbs ≤ 9 by omega) (by decide)⟩
  have hr : ∀ r ∈ rs, lineO rtW (lineS rtW r) = some r := fun r hr => by
    refine lineO_line (by decide) (.inl rfl) fun i hi => ?_
    have h1 := of_decide_eq_true (v.e r hr _ hi)
    have h2 := v.z1
    exact ⟨h1.1, Nat.lt_of_le_of_lt (show i.natAbs ≤ 12 by omega) (by decide)⟩
  unfold planR
  rw [e]
  show (match lineO szW (lineS szW (zs.map some)) with
    | none => Except.error 0
    | some z => match rowsO rtW (lineS szW (zs.map some) :: rs.map (lineS rtW)) 1 ((lineS szW (zs.map some) :: rs.map (lineS rtW)).length - 1) with
      | .error j => .error j
      | .ok rs => .ok (z, rs)) = _
  rw [h0, List.length_cons, List.length_map, Nat.add_sub_cancel]
  have h := rowsO_map (w := rtW) (L := lineS szW (zs.map some) :: rs.map (lineS rtW)) (i := 1) (rs := rs) (fun j r hj => by
    rw [Nat.add_comm 1 j, List.getElem?_cons_succ, List.getElem?_map, hj]
    exact hr r (List.mem_of_getElem? hj)) rs.length (Nat.le_refl _)
  rw [List.take_length] at h
  rw [h]
theorem timeO_line {t : Int} (h : t.natAbs < 10 ^ 40) : timeO (lineS tmW [some t]) = some t := by
  unfold timeO
  rw [spl_line (by decide)]
  show (if tmW = tmW then (if isNum (entS (some t)) = true then some ((NumText.digitsVal ((entS (some t)).take 40) : Nat) : Int) else minusO (entS (some t))) else none) = _
  rw [if_pos rfl]
  by_cases h0 : t < 0
  · have e : entS (some t) = 45 :: TL.numL (-t).toNat := if_pos h0
    rw [e]
    have hn : isNum (45 :: TL.numL (-t).toNat) = false := by
      unfold isNum
      rw [List.all_cons]
      rfl
    rw [if_neg (by rw [hn]; decide)]
    show (if TL.numL (-t).toNat ≠ [48] ∧ isNum (TL.numL (-t).toNat) = true then some (-((NumText.digitsVal ((TL.numL (-t).toNat).take 40) : Nat) : Int)) else none) = _
    have hc : TL.numL (-t).toNat ≠ [48] := fun z => by
      have := TL.numL_inj (m := (-t).toNat) (n := 0) (z.trans (TL.numL_lt (n := 0) (by decide)).symm)
      omega
    rw [if_pos ⟨hc, isNum_num _⟩, num40 (by omega), show (-(((-t).toNat : Nat) : Int)) = t by omega]
  · rw [entS_pos (by omega), if_pos (isNum_num _), num40 (by omega), Int.toNat_of_nonneg (by omega)]
theorem stateR_stateS {zs : List Int} {rs : List Ro} {t : Int} {L : Lay Int} (ok : StOk zs rs t L) : stateR zs.length (stateS t L) = .ok (t, L.1.map some, L.2.map fun s => s.map some) := by
  have e : TL.spl [10] 0 [] (stateS t L) = lineS tmW [some t] :: lineS caW (L.1.map some) :: L.2.map fun s : List Int => lineS shW (s.map some) := by
    unfold stateS
    refine SX.spl_join (fun z => nomatch z) fun p hp => ?_
    rcases List.mem_cons.mp hp with rfl | hp
    · exact line_no (by decide)
    · rcases List.mem_cons.mp hp with rfl | hp
      · exact line_no (by decide)
      · obtain ⟨r, _, rfl⟩ := List.mem_map.mp hp
        exact line_no (by decide)
  have hp := ok.p.1
  have hl : L.2.length = zs.length := by
    have := congrArg List.length ok.f.2
    rw [List.length_map, List.length_map] at this
    exact this
  have h0 : timeO (lineS tmW [some t]) = some t := timeO_line (by
    have := ok.t
    unfold TimeOk at this
    exact Nat.lt_of_le_of_lt (show t.natAbs ≤ 1000000000000000000000000000000 by omega) (by decide))
  have hw : ∀ w, 32 ∉ w → ∀ s : List Int, (∀ x ∈ s, 1 ≤ x ∧ x ≤ 999) → lineO w (lineS w (s.map some)) = some (s.map some) := fun w hw s hs => by
    refine lineO_line hw (.inr fun e he => ?_) fun i hi => ?_
    · obtain ⟨z, _, rfl⟩ := List.mem_map.mp he
      exact fun y => nomatch y
    · obtain ⟨z, hz, e⟩ := List.mem_map.mp hi
      obtain rfl := Option.some.inj e
      have h1 := hs z hz
      exact ⟨by omega, Nat.lt_of_le_of_lt (show z.natAbs ≤ 999 by omega) (by decide)⟩
  have h1 := hw caW (by decide) L.1 fun x hx => hp x (List.mem_append_left _ hx)
  have h2 : ∀ s ∈ L.2, lineO shW (lineS shW (s.map some)) = some (s.map some) := fun s hs => hw shW (by decide) s fun x hx => hp x (List.mem_append_right _ (List.mem_flatten.mpr ⟨s, hs, hx⟩))
  unfold stateR
  rw [e]
  have h00 : (lineS tmW [some t] :: lineS caW (L.1.map some) :: L.2.map fun s : List Int => lineS shW (s.map some))[0]?.bind timeO = some t := h0
  have h11 : (lineS tmW [some t] :: lineS caW (L.1.map some) :: L.2.map fun s : List Int => lineS shW (s.map some))[1]?.bind (lineO caW) = some (L.1.map some) := h1
  have h := rowsO_map (w := shW) (L := lineS tmW [some t] :: lineS caW (L.1.map some) :: L.2.map fun s : List Int => lineS shW (s.map some)) (i := 2) (rs := L.2.map fun s : List Int => s.map some) (fun j r hj => by
    rw [Nat.add_comm 2 j, List.getElem?_cons_succ, List.getElem?_cons_succ, List.getElem?_map]
    rw [List.getElem?_map] at hj
    cases e3 : L.2[j]? with
    | none => rw [e3] at hj; cases hj
    | some s =>
      rw [e3] at hj
      rw [← Option.some.inj hj]
      exact h2 s (List.mem_of_getElem? e3)) zs.length (by rw [List.length_map, hl]; exact Nat.le_refl _)
  rw [List.take_of_length_le (by rw [List.length_map, hl]; exact Nat.le_refl _)] at h
  simp only [h00, h11, h]
  rw [if_neg]
  rw [List.length_cons, List.length_cons, List.length_map, hl]
  omega
theorem cod_num (n : Nat) : Cod (TL.numL n) := fun c hc => by
  have := TL.numL_digits n c hc
  omega
theorem cod_ent (e : Option Int) : Cod (entS e) := by
  cases e with
  | none => intro c hc; exact (by decide : ∀ c ∈ ([114, 101, 115, 116] : List Nat), c < 1114112) c hc
  | some i =>
    show Cod (if i < 0 then 45 :: TL.numL (-i).toNat else TL.numL i.toNat)
    split
    · intro c hc
      rcases List.mem_cons.mp hc with rfl | hc
      · decide
      · exact cod_num _ c hc
    · exact cod_num _
theorem joinL_cod32 {ys : List (List Nat)} (h : ∀ y ∈ ys, Cod y) : Cod (TL.joinL [32] ys) := by
  match ys, h with
  | [], _ => exact fun c hc => (List.not_mem_nil hc).elim
  | [y], h => exact h y (List.mem_singleton.mpr rfl)
  | y :: z :: r, h =>
    intro c hc
    rcases List.mem_append.mp hc with hc | hc
    · exact h y (List.mem_cons_self ..) c hc
    · rcases List.mem_cons.mp hc with rfl | hc
      · decide
      · exact joinL_cod32 (ys := z :: r) (fun y hy => h y (List.mem_cons_of_mem _ hy)) c hc
theorem cod_line {w : List Nat} {r : Ro} (hw : Cod w) : Cod (lineS w r) := joinL_cod32 fun y hy => by
  rcases List.mem_cons.mp hy with rfl | hy
  · exact hw
  · obtain ⟨e, _, rfl⟩ := List.mem_map.mp hy
    exact cod_ent e
theorem sum_le {k : Nat} : ∀ {l : List (List Nat)}, (∀ x ∈ l, x.length ≤ k) → (l.map List.length).sum ≤ l.length * k
  | [], _ => Nat.zero_le _
  | x :: l, h => by
    have ih := sum_le fun y hy => h y (List.mem_cons_of_mem _ hy)
    have h1 := h x (List.mem_cons_self ..)
    rw [List.map_cons, List.sum_cons, List.length_cons, Nat.succ_mul]
    omega
theorem line_len {w : List Nat} {r : Ro} {k : Nat} (h : ∀ e ∈ r, (entS e).length ≤ k) : (lineS w r).length ≤ w.length + r.length * k + r.length + 1 := by
  have h1 := joinL_len [32] (w :: r.map entS)
  have h2 := sum_le (k := k) (l := r.map entS) fun x hx => by
    obtain ⟨e, he, rfl⟩ := List.mem_map.mp hx
    exact h e he
  rw [List.length_map] at h2
  rw [List.map_cons, List.sum_cons, List.length_cons, List.length_map] at h1
  have : ([32] : List Nat).length = 1 := rfl
  rw [this] at h1
  unfold lineS
  omega
theorem ent_len {i : Int} {k : Nat} (hk : 0 < k) (h0 : 0 ≤ i) (h : i.natAbs < 10 ^ k) : (entS (some i)).length ≤ k := by
  rw [entS_pos h0]
  exact TL.numL_len hk (by rw [show i.toNat = i.natAbs by omega]; exact h)
theorem txb_plan {zs : List Int} {rs : List Ro} (v : Val zs rs) : TxB 600 50 (planS zs rs) := by
  have z1 := v.z1
  have r1 := v.r1
  have l0 : (lineS szW (zs.map some)).length ≤ 36 := by
    have := line_len (w := szW) (r := zs.map some) (k := 1) fun e he => by
      obtain ⟨z, hz, rfl⟩ := List.mem_map.mp he
      have h1 := v.z2 z hz
      exact ent_len (by decide) h1.1 (by omega)
    rw [List.length_map] at this
    have h5 : szW.length = 5 := rfl
    omega
  have lr : ∀ r ∈ rs, (lineS rtW r).length ≤ 36 := fun r hr => by
    have := line_len (w := rtW) (r := r) (k := 4) fun e he => by
      cases e with
      | none => exact Nat.le_refl _
      | some i =>
        have h1 := of_decide_eq_true (v.e r hr _ he)
        exact Nat.le_trans (ent_len (k := 2) (by decide) h1.1 (by omega)) (by decide)
    have h5 : rtW.length = 5 := rfl
    have h6 := v.r2 r hr
    omega
  have all : ∀ y ∈ lineS szW (zs.map some) :: rs.map (lineS rtW), y.length ≤ 36 := fun y hy => by
    rcases List.mem_cons.mp hy with rfl | hy
    · exact l0
    · obtain ⟨r, hr, rfl⟩ := List.mem_map.mp hy
      exact lr r hr
  refine ⟨?_, LnB.join (fun y hy => ?_) fun y hy => Nat.le_trans (all y hy) (by decide), joinL_cod fun y hy => ?_⟩
  · have h1 := joinL_len [10] (lineS szW (zs.map some) :: rs.map (lineS rtW))
    have h2 := sum_le all
    have : ([10] : List Nat).length = 1 := rfl
    rw [this, List.length_cons, List.length_map] at h1
    rw [List.length_cons, List.length_map] at h2
    unfold planS
    omega
  · rcases List.mem_cons.mp hy with rfl | hy
    · exact line_no (by decide)
    · obtain ⟨r, _, rfl⟩ := List.mem_map.mp hy
      exact line_no (by decide)
  · rcases List.mem_cons.mp hy with rfl | hy
    · exact cod_line (fun c hc => (by decide : ∀ c ∈ szW, c < 1114112) c hc)
    · obtain ⟨r, _, rfl⟩ := List.mem_map.mp hy
      exact cod_line (fun c hc => (by decide : ∀ c ∈ rtW, c < 1114112) c hc)
theorem txb_state {zs : List Int} {rs : List Ro} {t : Int} {L : Lay Int} (v : Val zs rs) (ok : StOk zs rs t L) : TxB 600 50 (stateS t L) := by
  have z1 := v.z1
  have r1 := v.r1
  have hp := ok.p.1
  have hl : L.2.length = zs.length := by
    have := congrArg List.length ok.f.2
    rw [List.length_map, List.length_map] at this
    exact this
  have fs : ∀ x ∈ L.2, x.length ≤ 9 := fun x hx => by
    have h1 : x.length ∈ L.2.map List.length := List.mem_map.mpr ⟨x, hx, rfl⟩
    rw [ok.f.2] at h1
    obtain ⟨z, hz, e⟩ := List.mem_map.mp h1
    have := v.z2 z hz
    omega
  have f1 : L.1.length ≤ 6 := by rw [ok.f.1]; exact r1.2
  have ents : ∀ s : List Int, (∀ x ∈ s, 1 ≤ x ∧ x ≤ 999) → ∀ e ∈ s.map some, (entS e).length ≤ 3 := fun s hs e he => by
    obtain ⟨z, hz, rfl⟩ := List.mem_map.mp he
    have h1 := hs z hz
    exact ent_len (by decide) (by omega) (by omega)
  have l0 : (lineS tmW [some t]).length ≤ 38 := by
    have ht := ok.t
    unfold TimeOk at ht
    have := line_len (w := tmW) (r := [some t]) (k := 32) fun e he => by
      rw [List.mem_singleton.mp he]
      show (if t < 0 then 45 :: TL.numL (-t).toNat else TL.numL t.toNat).length ≤ 32
      have b : (1000000000000000000000000000000 : Nat) < 10 ^ 31 := by decide
      split
      · rw [List.length_cons]
        have := TL.numL_len (n := (-t).toNat) (k := 31) (by decide) (by omega)
        omega
      · have := TL.numL_len (n := t.toNat) (k := 31) (by decide) (by omega)
        omega
    have h5 : tmW.length = 4 := rfl
    have h6 : ([some t] : Ro).length = 1 := rfl
    rw [h5, h6] at this
    omega
  have l1 : (lineS caW (L.1.map some)).length ≤ 38 := by
    have := line_len (w := caW) (ents L.1 fun x hx => hp x (List.mem_append_left _ hx))
    rw [List.length_map] at this
    have h5 : caW.length = 7 := rfl
    omega
  have l2 : ∀ s ∈ L.2, (lineS shW (s.map some)).length ≤ 42 := fun s hs => by
    have := line_len (w := shW) (ents s fun x hx => hp x (List.mem_append_right _ (List.mem_flatten.mpr ⟨s, hs, hx⟩)))
    rw [List.length_map] at this
    have h5 : shW.length = 5 := rfl
    have := fs s hs
    omega
  have h3 := sum_le (k := 42) (l := L.2.map fun s : List Int => lineS shW (s.map some)) fun y hy => by
    obtain ⟨s, hs, rfl⟩ := List.mem_map.mp hy
    exact l2 s hs
  refine ⟨?_, LnB.join (fun y hy => ?_) fun y hy => ?_, joinL_cod fun y hy => ?_⟩
  · have h1 := joinL_len [10] (lineS tmW [some t] :: lineS caW (L.1.map some) :: L.2.map fun s : List Int => lineS shW (s.map some))
    have : ([10] : List Nat).length = 1 := rfl
    rw [this, List.length_cons, List.length_cons, List.length_map, List.map_cons, List.map_cons, List.sum_cons, List.sum_cons] at h1
    rw [List.length_map] at h3
    unfold stateS
    omega
  · rcases List.mem_cons.mp hy with rfl | hy
    · exact line_no (by decide)
    · rcases List.mem_cons.mp hy with rfl | hy
      · exact line_no (by decide)
      · obtain ⟨r, _, rfl⟩ := List.mem_map.mp hy
        exact line_no (by decide)
  · rcases List.mem_cons.mp hy with rfl | hy
    · omega
    · rcases List.mem_cons.mp hy with rfl | hy
      · omega
      · obtain ⟨r, hr, rfl⟩ := List.mem_map.mp hy
        have := l2 r hr
        omega
  · rcases List.mem_cons.mp hy with rfl | hy
    · exact cod_line (fun c hc => (by decide : ∀ c ∈ tmW, c < 1114112) c hc)
    · rcases List.mem_cons.mp hy with rfl | hy
      · exact cod_line (fun c hc => (by decide : ∀ c ∈ caW, c < 1114112) c hc)
      · obtain ⟨r, _, rfl⟩ := List.mem_map.mp hy
        exact cod_line (fun c hc => (by decide : ∀ c ∈ shW, c < 1114112) c hc)
end Sv
set_option maxHeartbeats 4000000
namespace Sv
open PySem PySem.Spec PyProof.Rows L2 LamX NdefX
def zS : Stmt := .Pass ⟨0, 0, 0, 0⟩
def forB : Stmt → List Stmt | .For _ _ b _ _ => b | _ => []
def ifT : Stmt → Expr | .If t _ _ _ => t | .Assign _ v _ => v | _ => zE
def notE : Expr → Expr | .UnaryOp _ e _ => e | e => e
def argE (i : Nat) : Expr → Expr | .Call _ as _ _ => as.getD i zE | e => e
def orE (i : Nat) : Expr → Expr | .BoolOp _ vs _ => vs.getD i zE | e => e
def cmpE : Expr → Expr | .Compare l _ _ _ => l | e => e
def eltE : Expr → Expr | .ListComp e _ _ _ => e | e => e
def stL (i : Nat) : Expr := ifT ((forB ((defBody sLaw).getD 1 zS)).getD i zS)
def lam1 : Expr := argE 0 (argE 0 (notE (stL 10)))
def lam2 : Expr := argE 0 (argE 0 (notE (stL 11)))
def lam3 : Expr := argE 0 (eltE (stL 15))
def lam4 : Expr := argE 0 (cmpE (orE 1 (stL 17)))
def lam5 : Expr := argE 0 (cmpE (stL 18))
def tl1 (K : PySem.W.Frag) (C CT : Addr) : List (Option V) → XK → Hp → VK → Prop := fun ws E H Q => ∃ v, ws = [some v] ∧ spPp K C CT [v] H Q E
def tl2 (K : PySem.W.Frag) (CS CT : Addr) : List (Option V) → XK → Hp → VK → Prop := fun ws E H Q => ∃ v u, ws = [some u, some v] ∧ spPs K CS CT [v, u] H Q E
def tl4 (K : PySem.W.Frag) (C : Addr) : List (Option V) → XK → Hp → VK → Prop := fun ws E H Q => ws = [] ∧ ∀ H' p, Same H H' → PlanAt K H' p [] [] → spFp K C [.ref p] H' Q E
def tl5 (K : PySem.W.Frag) (CS : Addr) : List (Option V) → XK → Hp → VK → Prop := fun ws E H Q => ∃ v, ws = [some v] ∧ ∀ H' s, Same H H' → StateAt K H' s 0 ([], []) → spFs K CS [v, .ref s] H' Q E
section
variable {X : Cx}
theorem lb1 (T : Bd X.prog X.K X.mg) : LamB X 5 ["_law_text"] (lamP lam1) (lamE lam1) (lamS lam1) ["_law_text"] [] (tl1 X.K T.C T.CTx) := fun qual cl dV c f A outer s H ws Q E hr ht => by
  have GC : FnOk X.prog X.w X.K X.mg X.base (L2.CX X.prog X.w) 5 T.aParsePlan T.dParsePlan ["text"] (spPp X.K T.C T.CTx) := ok_pp T
  obtain ⟨v, rfl, q⟩ := ht
  exact ⟨_, pe_call (E := E) GC (hr.mono (by decide)) (by rfl) T.ParsePlan.g T.ParsePlan.F.kp T.ParsePlan.b .nil (passes_call (takes_of rfl rfl rfl rfl) fun _ _ _ _ h => h) (pa_cons (pv 0) pa_nil), v, rfl, q⟩
theorem lb2 (T : Bd X.prog X.K X.mg) : LamB X 5 ["_law_a", "_law_other", "_law_plan"] (lamP lam2) (lamE lam2) (lamS lam2) ["_law_other", "_law_plan"] [.int 0] (tl2 X.K T.CS T.CTx) := fun qual cl dV c f A outer s H ws Q E hr ht => by
  have GC : FnOk X.prog X.w X.K X.mg X.base (L2.CX X.prog X.w) 5 T.aParseState T.dParseState ["plan", "text"] (spPs X.K T.CS T.CTx) := ok_ps T
  obtain ⟨v, u, rfl, q⟩ := ht
  exact ⟨_, pe_call (E := E) GC (hr.mono (by decide)) (by rfl) T.ParseState.g T.ParseState.F.kp T.ParseState.b .nil (passes_call (takes_of rfl rfl rfl rfl) fun _ _ _ _ h => h) (pa_cons (pv 2) (pa_cons (pv 1) pa_nil)), v, rfl, u, rfl, q⟩
theorem hbn2 : ∀ q cl pm cv ctv (T : Addr) (u : Value), ∃ k, bindArgs { PySem.W.kla_fn "<lambda>" q (lamP lam2) (lamE lam2) (lamS lam2) cl pm cv ctv with defaults := .ref T } ⟨[], []⟩ = seqItems? (.ref T) >>= k ∧ k (some [u].toArray) = pure [(("_law_a" : Str), u)] := by
  intro q cl pm cv ctv T u
  exact ⟨_, rfl, rfl⟩
theorem lb3 (T : Bd X.prog X.K X.mg) : LamB X 5 ["_law_one", "_law_small"] (lamP lam3) (lamE lam3) (lamS lam3) ["_law_one", "_law_small"] [] (tl2 X.K T.CS T.CTx) := fun qual cl dV c f A outer s H ws Q E hr ht => by
  have GC : FnOk X.prog X.w X.K X.mg X.base (L2.CX X.prog X.w) 5 T.aParseState T.dParseState ["plan", "text"] (spPs X.K T.CS T.CTx) := ok_ps T
  obtain ⟨v, u, rfl, q⟩ := ht
  exact ⟨_, pe_call (E := E) GC (hr.mono (by decide)) (by rfl) T.ParseState.g T.ParseState.F.kp T.ParseState.b .nil (passes_call (takes_of rfl rfl rfl rfl) fun _ _ _ _ h => h) (pa_cons (pv 1) (pa_cons (pv 0) pa_nil)), v, rfl, u, rfl, q⟩
theorem lb4 (T : Bd X.prog X.K X.mg) : LamB X 5 [] (lamP lam4) (lamE lam4) (lamS lam4) [] [] (tl4 X.K T.C) := fun qual cl dV c f A outer s H ws Q E hr ht => by
  have GC : FnOk X.prog X.w X.K X.mg X.base (L2.CX X.prog X.w) 5 T.aFormatPlan T.dFormatPlan ["plan"] (spFp X.K T.C) := ok_fp T
  obtain ⟨rfl, q⟩ := ht
  refine ⟨_, pe_call (E := E) GC (hr.mono (by decide)) (by rfl) T.FormatPlan.g T.FormatPlan.F.kp T.FormatPlan.b .nil (passes_call (takes_of rfl rfl rfl rfl) fun _ _ _ _ h => h) (pa_cons (pe_tup (pa_cons (pe_tup pa_nil) (pa_cons (pe_tup pa_nil) pa_nil))) pa_nil), Nat.zero_le _, fun a ha => ⟨Nat.zero_le _, fun b hb => ⟨(by show 2 ≤ sizeLine; decide), fun p hp => ?_⟩⟩⟩
  have t1 := same_upd (o := .tup []) ha
  have t2 := same_upd (o := .tup []) hb
  have t3 := same_upd (o := .tup [.ref a, .ref b]) hp
  refine q _ p (t1.trans (t2.trans t3)) ⟨a, b, .inl (.inl upd_same), .inl (.inl (t3 _ _ (t2 _ _ upd_same))), ⟨[], .inl (.inl (t3 _ _ upd_same)), .nil⟩⟩
theorem lb5 (T : Bd X.prog X.K X.mg) : LamB X 5 ["_law_plan"] (lamP lam5) (lamE lam5) (lamS lam5) ["_law_plan"] [] (tl5 X.K T.CS) := fun qual cl dV c f A outer s H ws Q E hr ht => by
  have GC : FnOk X.prog X.w X.K X.mg X.base (L2.CX X.prog X.w) 5 T.aFormatState T.dFormatState ["plan", "state"] (spFs X.K T.CS) := ok_fs T
  obtain ⟨v, rfl, q⟩ := ht
  refine ⟨_, pe_call (E := E) GC (hr.mono (by decide)) (by rfl) T.FormatState.g T.FormatState.F.kp T.FormatState.b .nil (passes_call (takes_of rfl rfl rfl rfl) fun _ _ _ _ h => h) (pa_cons (pv 0) (pa_cons (pe_tup (pa_cons (pe_int) (pa_cons (pe_tup pa_nil) (pa_cons (pe_tup pa_nil) pa_nil)))) pa_nil)), v, rfl, Nat.zero_le _, fun a ha => ⟨Nat.zero_le _, fun b hb => ⟨(by show 3 ≤ sizeLine; decide), fun p hp => ?_⟩⟩⟩
  have t1 := same_upd (o := .tup []) ha
  have t2 := same_upd (o := .tup []) hb
  have t3 := same_upd (o := .tup [.int 0, .ref a, .ref b]) hp
  refine q _ p (t1.trans (t2.trans t3)) ⟨a, b, .inl (.inl upd_same), .inl (.inl (t3 _ _ (t2 _ _ upd_same))), [], .inl (.inl (t3 _ _ upd_same)), .nil⟩
/-- the reading of _law_outcome(lambda: ..) -/
def tOutL (T : List (Addr × Str)) (js : List Nat) (tl : List (Option V) → XK → Hp → VK → Prop) (C CS CT : Addr) : TE := fun σ H Q => Tabs T H ∧ ∀ H1, ExtN H H1 → (∀ b, H1 b = none → H b = none) → Tabs T H1 → tl (js.map (slotAt σ)) (OutE C CS CT Q) H1 Q
theorem pe_outLam {k : Nat} {g C CS CT : Addr} {T : List (Addr × Str)} {js : List Nat} {tl : List (Option V) → XK → Hp → VK → Prop} {e : Expr} {p pos : Pos} (G : FnSt X.prog X.w X.K X.mg X.base (k + 1) g (KnOut X.prog X.w X.K X.mg X.base k C CS CT))
    (hr : Room (k + 1) X.A) (hg : Gl X "_law_outcome") (hm : X.mg "_law_outcome" = some (.ref g)) (hk : PySem.W.keepIn X.K (.ref g) = true)
    (hfar : ∀ (pins : List (Addr × Obj)) (σ : L2.St) (H : Hp) (s : Shared), Inv X pins σ H s → Far X) (he : PE X e (tLamK X k T js tl)) (hst : starEach [e] X.env = (false, eval e X.env) :: starEach [] X.env := by rfl) :
    PE X (.Call (.Name "_law_outcome" p) [e] [] pos) (tOutL T js tl C CS CT) := by
  refine ⟨fun pins s σ H Q I ⟨hT, h⟩ => (pe_callSt (te := fun σ1 H1 Q1 => σ1 = σ ∧ tLamK X k T js tl σ1 H1 Q1) G hr hg hm hk ⟨fun pins s σ1 H Q I h => he.run pins s σ1 H Q I h.2⟩ (hst := hst)).run pins s σ H Q I ⟨rfl, hT, fun f H1 a1 a2 a3 a4 a5 pins' s' I' => ?_⟩⟩
  obtain ⟨L, fr, dvs, h1, h2, h3, h4, h5⟩ := a5
  have cp := h5 I'.ok
  exact ⟨f, L, fr, dvs, js.map (slotAt σ), tl, rfl, ⟨h1, h2, h3, h4, cells_of I' cp, fun y c e => hfar _ _ _ _ I' y c (cp.sub y c e)⟩, h H1 a1 a2 a3⟩
theorem far_blk51 {σ0 : L2.St} {s0 : Shared} {H0 : Hp} {scope : Scope} {C : Addr} {cl : List (Str × Addr)} {fp : List Addr} (hX : ∀ y, X.fn y = true) (B0 : Blk0 X σ0 s0 H0 cl fp) : Far (X.blk s0 H0 scope (compEnvC scope cl C X.env) fp) := by
  obtain ⟨pins, I, _⟩ := B0.inv
  exact B0.far (far_def I hX)
theorem lt_blk {T : List (Addr × Str)} {c P : Addr} {s0 : Shared} {H0 : Hp} {scope : Scope} {C : Addr} {cl : List (Str × Addr)} {fp : List Addr} (LT : LamT X T c P) : LamT (X.blk s0 H0 scope (compEnvC scope cl C X.env) fp) T c P := ⟨LT.tb, LT.code, LT.mem, LT.uni⟩
end
end Sv
set_option maxHeartbeats 2000000
namespace Sv
open PySem PySem.Spec PyProof.Rows L2
def rMulS : R2 := fun x y H Q => ∃ (c n : Nat), x = .str ⟨#[c]⟩ ∧ y = .int (n : Nat) ∧ 2 ≤ n ∧ n ≤ 1000 ∧ Q (.str (SX.S (List.replicate n c))) H
theorem rep_sign (c : Nat) : ∀ (n : Nat) (acc : Array Nat), (List.replicate n (#[c] : Array Nat)).foldl (· ++ ·) acc = acc ++ (List.replicate n c).toArray
  | 0, acc => by
    show acc = acc ++ ([] : List Nat).toArray
    simp
  | n + 1, acc => by
    rw [List.replicate_succ, List.foldl_cons, rep_sign c n]
    apply Array.ext'
    simp [List.replicate_succ]
theorem op_mulS {X : Cx} : OpR X (binaryOp .Mult) rMulS := by
  intro pins s σ H x y v u Q I rx ry h
  obtain ⟨c, n, rfl, rfl, h2, hn, q⟩ := h
  obtain ⟨t, rfl⟩ := rx
  obtain ⟨t', rfl⟩ := ry
  have l1 : (⟨#[c]⟩ : Str).length = 1 := rfl
  have e1 : (((n : Nat) : Int) == 1 || (⟨#[c]⟩ : Str).length == 0) = false := by
    rw [Bool.or_eq_false_iff]
    exact ⟨by rw [beq_eq_false_iff_ne]; omega, rfl⟩
  have small : n ≤ sizeLine := Nat.le_of_lt (Nat.lt_of_le_of_lt hn (Nat.lt_of_lt_of_le (by decide : 1000 < 1000000) (by rw [sizeLine_eq]; decide)))
  refine P.mul_str ?_ (fun _ _ => ?_) (fun _ _ => ?_) ?_
  · rw [decide_eq_false (by omega), decide_eq_false (by omega)]
    rfl
  · rw [l1]
    have : (1 : Int) ≤ (2 ^ 63 - 1) / (n : Nat) := by
      rw [Int.le_ediv_iff_mul_le (by omega)]
      omega
    omega
  · rw [l1, Nat.one_mul, Int.toNat_natCast]
    unfold Builtin.Str.tooLong
    exact decide_eq_false (by omega)
  · rw [if_neg (by omega), if_neg (by rw [e1]; decide), Int.toNat_natCast, rep_sign]
    refine ⟨?_, .str (SX.S (List.replicate n c)), H, I.tok _, ⟨s.toks, ?_⟩, q⟩
    · simp [Str.length]
      omega
    · simp [SX.S]
end Sv
set_option maxHeartbeats 4000000
namespace Sv
open PySem PySem.Spec PyProof.Rows L2 LamX NdefX
section
variable {X : Cx}
theorem lcI_core {pins : List (Addr × Obj)} {s : Shared} {σ : L2.St} {H : Hp} {Q : VK} {use : Option (Value → Sem Unit)} {Qf : Value → Shared → Prop} {pos' : Pos} {elt tg iter : Expr} {ifs : List Expr} {scope : Scope} {own : List (Str × Nat)} {pos : Pos} {wi : TI} {g : TG} {tt : L2.St → TT} {te : L2.St → TE} (hc : X.calm = true) (hN : X.N.Nodup) (hi : PI X tg iter wi) (ok : BlkOk X.N X.env.scope scope own)
    (hg : ∀ (s : Shared) (H : Hp) (C : Addr) (cl : List (Str × Addr)) (fp : List Addr), PG (X.blk s H scope (compEnvC scope cl C X.env) fp) tg g)
    (ht : ∀ (σ : L2.St) (s : Shared) (H : Hp) (C : Addr) (cl : List (Str × Addr)) (fp : List Addr), Blk0 X σ s H cl fp → PTs (X.blk s H scope (compEnvC scope cl C X.env) fp) ifs (tt σ))
    (he : ∀ (σ : L2.St) (s : Shared) (H : Hp) (C : Addr) (cl : List (Str × Addr)) (fp : List Addr), Blk0 X σ s H cl fp → PE (X.blk s H scope (compEnvC scope cl C X.env) fp) elt (te σ))
    (hs : ∀ x, foldedSetIterable iter X.env x = pure x) (I : Inv X pins σ H s) (h : tLc wi g (tt σ) (te σ) (own.map (·.2)) σ H Q)
    (fin0 : ∀ (D C : Addr) (s' : Shared) (m : Str → Option Value) (H' : Hp), Inv X pins σ H' s' → Q (.ref D) H' → s'.heap.Ns C m → FpOk X pins H' C → compPost (model X.prog X.w) X.A X.xe use Qf (.ref D) C (.ok .next) s') :
    wpAny (model X.prog X.w) X.A (comprehension (.ListComp elt [⟨tg, iter, ifs, 0⟩] scope pos) scope X.env pos' (newList []) false (eval iter X.env) use) Qf X.xe s := by
  have hfree : ∀ y ∈ scope.names, y.2 = .free → ∃ c, X.env.cells.lookup y.1 = some c := fun y hy e => (ok.free y hy e).elim (fun k => I.ok.has _ (.inl k)) fun k => I.ok.has _ (.inr k)
  refine wpAny_comprehension_free (use := use) rfl hs (closure_ok hfree) ok.kind (fun y hy e => by rw [ok.uniq y hy, e]) (thn (hi.run pins s σ H _ I h) fun xv s1 hx => thn hx fun itv s2 h2 => ?_)
  obtain ⟨it, fp, tn, J, H2, rfl, I2, T, st2, f2, q⟩ := h2
  refine wpAny_newObj_type (newEnv_comp ?_) (by show 0 ≤ sizeLine; decide)
  have nD : H2 s2.heap.objs.size = none := I2.hok.fresh (Nat.le_refl _)
  obtain ⟨W, ⟨m0, w0⟩, turn⟩ := q _ nD
  generalize hD : s2.heap.objs.size = D at nD w0 turn ⊢
  generalize hs3 : ({ s2 with heap := s2.heap.push { cls := .type "list", data := .seq ([] : List Value).toArray } } : Shared) = s3
  have h3 : s3.heap = s2.heap.push { cls := .type "list", data := .seq ([] : List Value).toArray } := by rw [← hs3]
  have I3 : Inv X pins σ (upd H2 D (.lst [])) s3 := by
    rw [← hs3]
    refine I2.laid (t' := s2.toks) (fun b o e => Heap.get?_push_of_some _ e) (Nat.le_of_eq hD) ⟨Nat.zero_le _, [], 0, .nil, ?_⟩
    rw [← hD]
    exact Heap.get?_push_size _ rfl
  have f3 : ∀ b ∈ fp, FpOk X pins (upd H2 D (.lst [])) b ∧ b < s3.heap.objs.size := fun b hb => by
    obtain ⟨o, e, _⟩ := T.obj _ _ st2 b hb
    have hlt := Heap.lt_size e
    refine ⟨⟨?_, (f2 b hb).2⟩, by rw [h3, Heap.size_push]; exact Nat.lt_succ_of_lt hlt⟩
    rw [upd_ne (by rw [← hD]; exact Nat.ne_of_lt hlt)]
    exact (f2 b hb).1
  have st3 : tn 0 s3.heap := T.keep _ _ _ st2 fun b _ o e => by rw [h3]; exact Heap.get?_push_of_some _ e
  have I4 := block_start I3 ok hN f3
  have K0 : Blk0 X σ s3 (upd H2 D (.lst [])) (cellsFrom (s3.heap.objs.size + 1) scope.names (cloFrom X.env.cells scope.names [])) fp := ⟨⟨pins, I3, fun b hb => (f3 b hb).1⟩, blk_far I3 hfree⟩
  have pg := hg s3 (upd H2 D (.lst [])) s3.heap.objs.size (cellsFrom (s3.heap.objs.size + 1) scope.names (cloFrom X.env.cells scope.names [])) fp
  have pt := ht σ s3 (upd H2 D (.lst [])) s3.heap.objs.size _ fp K0
  have pe := he σ s3 (upd H2 D (.lst [])) s3.heap.objs.size _ fp K0
  have nfp : ∀ b ∈ fp, (upd H2 D (.lst [])) b = none := fun b hb => (f3 b hb).1.1
  generalize hce : compEnvC scope (cellsFrom (s3.heap.objs.size + 1) scope.names (cloFrom X.env.cells scope.names [])) s3.heap.objs.size X.env = ce at I4 pg pt pe
  have cL : ce.locals = s3.heap.objs.size := by subst hce; rfl
  generalize hH3 : upd H2 D (.lst []) = H3 at I3 I4 pg pt pe w0 nfp f3
  show codeAny _ _ (.compStart (.ListComp elt [⟨tg, iter, ifs, 0⟩] scope pos) 0 (.ref it) (.ref D) (compEnvC scope (cellsFrom (s3.heap.objs.size + 1) scope.names (cloFrom X.env.cells scope.names [])) s3.heap.objs.size X.env)) (compPost (model X.prog X.w) X.A X.xe use Qf (.ref D) s3.heap.objs.size) { s3 with heap := pushCells (s3.heap.push { cls := .type "dict", data := .dict #[] }) scope.names }
  rw [hce]
  generalize hs4 : ({ s3 with heap := pushCells (s3.heap.push { cls := .type "dict", data := .dict #[] }) scope.names } : Shared) = s4 at I4 ⊢
  have st4 : tn 0 s4.heap := T.keep _ _ _ st3 fun b _ o e => by rw [← hs4]; exact pushCells_keeps _ _ _ _ (Heap.get?_push_of_some _ e)
  let Y : Cx := X.blk s3 H3 scope ce fp
  have stat : ∀ {σ' : L2.St} {H' : Hp} {s' : Shared}, Inv Y [] σ' H' s' → (∀ b ∈ fp, H' b = none) → ∀ b ∈ fp, FpOk Y [] H' b := fun {σ' H' s'} I' hn b hb =>
    ⟨hn b hb, (I'.ok.exf b hb).1, I'.ok.exfs b hb, .inl hb, fun x c e => (I'.ok.exf b hb).2 x c e, fun p hp => absurd (show p ∈ ([] : List (Addr × Obj)) ++ [] from hp) (by simp)⟩
  refine codeAny_compStart_list ?loop (T.self X.A 0 _ _ _ st4 ?loop)
  refine compLoop_any (fun n s' => ∃ i H', Inv Y [] (wipe σ (own.map (·.2))) H' s' ∧ tn i s'.heap ∧ (∀ b ∈ fp, H' b = none) ∧ W i n H') ?_ m0 ⟨0, H3, I4, st4, nfp, w0⟩
  rintro n s5 ⟨i, H5, I5, st5, n5, w5⟩
  rcases turn i n H5 w5 with ⟨stop, qq⟩ | ⟨go, Nx, hNx, step⟩
  · refine thnF (T.done Y rfl rfl rfl hc i [] s5 _ H5 (fun _ _ => False) I5 (stat I5 n5) st5 stop) fun r s6 ⟨hr, I6⟩ => ?_
    subst hr
    have I7 : Inv X pins σ H5 s6 := I3.call' (ch := fp) I6.os I6.base I6.hok I6.bare fun b hb => ⟨(f3 b hb).1.2.2.2.1, (f3 b hb).1.2.1, (f3 b hb).1.2.2.2.2.1, (f3 b hb).1.2.2.2.2.2⟩
    have nC : H5 s3.heap.objs.size = none := by
      have z : H5 ce.locals = none := I6.free
      rw [cL] at z
      exact z
    obtain ⟨m, hn, _⟩ := I6.loc
    have hn : s6.heap.Ns ce.locals m := hn
    rw [cL] at hn
    exact fin0 D s3.heap.objs.size s6 m H5 I7 qq hn (I3.fpOk (Nat.le_refl _) nC)
  · refine thnF (T.item Y rfl rfl rfl hc i [] s5 _ H5 (fun _ _ => False) I5 (stat I5 n5) st5 go) fun r s6 ⟨u, hr, h6⟩ => ?_
    subst hr
    refine thnF h6 fun _ s7 ⟨x, H7, I7, r7, y7, st7, n7⟩ => ?_
    have I7' := I7.pinned (stat I7 n7) (T.obj _ _ st7)
    refine thnF (pg.run _ s7 _ H7 x u _ I7' r7 (step x H7 y7)) fun _ s8 ⟨σ8, H8, I8, hw8, q8⟩ => ?_
    refine thnF (pt.run _ s8 σ8 H8 _ I8 q8) fun b s9 ⟨H9, I9, q9⟩ => ?_
    have fin : ∀ {s' : Shared} {H' : Hp}, Inv Y ([] ++ pinsAt fp s7.heap) σ8 H' s' → Nx H' → ∃ m, m < n ∧ ∃ i H', Inv Y [] (wipe σ (own.map (·.2))) H' s' ∧ tn i s'.heap ∧ (∀ b ∈ fp, H' b = none) ∧ W i m H' := fun {s' H'} I' nx => by
      obtain ⟨m', hm, w'⟩ := hNx H' nx
      have pin' : ∀ b ∈ fp, ∀ o, s7.heap.get? b = some o → s'.heap.get? b = some o ∧ H' b = none := fun b hb o e =>
        let z := I'.pin (b, o) (List.mem_append_right _ (List.mem_append_right _ (mem_pinsAt hb e)))
        ⟨z.1, z.2.1⟩
      refine ⟨m', hm, i + 1, H', (I'.unpinned (pins := [])).weak (by rw [← hw8, wipe_length]) (fun j v e => ?_), T.keep _ _ _ st7 fun b hb o e => (pin' b hb o e).1, fun b hb => ?_, w'⟩
      · rw [← hw8] at e
        exact (wipe_some e).1
      · obtain ⟨o, e, _⟩ := T.obj _ _ st7 b hb
        exact (pin' b hb o e).2
    cases b with
    | false =>
      simp only [Bool.false_eq_true, if_false] at q9 ⊢
      exact fin I9 q9
    | true =>
      simp only [if_true] at q9 ⊢
      refine thnF (pe.run _ s9 σ8 H9 _ I9 q9) fun z s10 ⟨yv, H10, I10, r10, acc, hD10, hz10, nx⟩ => ?_
      exact app_ok (X := Y) I10 hD10 hz10 r10 fun s11 I11 => fin I11 nx
theorem ps_setLcI {i : Nat} {y : Str} {py spos : Pos} {elt tg iter : Expr} {ifs : List Expr} {scope : Scope} {own : List (Str × Nat)} {pos : Pos} {wi : TI} {g : TG} {tt : L2.St → TT} {te : L2.St → TE} (hc : X.calm = true) (hN : X.N.Nodup) (hy : X.N[i]? = some y)
    (hyl : X.env.scope.names.lookup y = some .local) (hsw : swapsWith (.ListComp elt [⟨tg, iter, ifs, 0⟩] scope pos) (some (.Name y py)) spos.line X.env = pure true) (hi : PI X tg iter wi) (ok : BlkOk X.N X.env.scope scope own)
    (hg : ∀ (s : Shared) (H : Hp) (C : Addr) (cl : List (Str × Addr)) (fp : List Addr), PG (X.blk s H scope (compEnvC scope cl C X.env) fp) tg g)
    (ht : ∀ (σ : L2.St) (s : Shared) (H : Hp) (C : Addr) (cl : List (Str × Addr)) (fp : List Addr), Blk0 X σ s H cl fp → PTs (X.blk s H scope (compEnvC scope cl C X.env) fp) ifs (tt σ))
    (he : ∀ (σ : L2.St) (s : Shared) (H : Hp) (C : Addr) (cl : List (Str × Addr)) (fp : List Addr), Blk0 X σ s H cl fp → PE (X.blk s H scope (compEnvC scope cl C X.env) fp) elt (te σ))
    (hs : ∀ x, foldedSetIterable iter X.env x = pure x := by intro _; rfl) :
    PS X (.Assign [.Name y py] (.ListComp elt [⟨tg, iter, ifs, 0⟩] scope pos) spos) (tAsg (fun σ H Q => tLc wi g (tt σ) (te σ) (own.map (·.2)) σ H Q) (gName i)) := by
  refine ⟨fun pn s σ H D I h => ?_⟩
  rw [exec_Assign_Name_used _ _ _ _ hsw]
  have h : tLc wi g (tt σ) (te σ) (own.map (·.2)) σ H (fun x H1 => gName i x σ H1 D.nx) := h
  refine wpAny_bind (wpAny_standAt (wpAny_bind ?_))
  refine wpAny_bind (thn (lcI_core (use := some (assign (.Name y py) X.env)) (Qf := fun _ t => SP X pn D .next t) hc hN hi ok hg ht he hs I h fun L C t m K J q hn f => ?_) fun _ t hq => wpAny_pure (wpAny_pure hq))
  show wpAny _ _ (assign (.Name y py) X.env (.ref L)) _ _ _
  refine wpAny_assign_Name (store_ok2 (v := V.ref L) J hN hy (.inl hyl) rfl (fun t2 J2 ⟨a, sb, ha⟩ => ?_) (.inr hyl))
  have far : C ≠ a := ha.elim (fun z => by rw [z]; exact f.2.1) fun z e => f.2.2.2.2.1 y a z e.symm
  exact ⟨m, hn.sameBut sb far, fun h3 sb3 => ⟨_, K, J2.turned (t' := t2.toks) (fun b o hb z => (sb3.2 b hb).trans z) f.1 f.2.1 f.2.2.2.1 f.2.2.2.2.1 f.2.2.2.2.2, q⟩⟩
end
end Sv
set_option maxHeartbeats 4000000
set_option maxHeartbeats 4000000
namespace Sv
open PySem PySem.Spec PyProof.Rows L2
theorem look_map {f : Str → NameKind → NameKind} : ∀ {l : List (Str × NameKind)} {y : Str} {k : NameKind}, l.lookup y = some k → (l.map fun (n, q) => (n, f n q)).lookup y = some (f y k)
  | [], _, _, h => by cases h
  | (n, q) :: l, y, k, h => by
    rw [List.map_cons]
    rw [List.lookup_cons] at h ⊢
    by_cases e : (y == n) = true
    · rw [e] at h ⊢
      have e2 : y = n := eq_of_beq e
      cases h
      rw [e2]
    · have e3 : (y == n) = false := by simpa using e
      rw [e3] at h ⊢
      exact look_map h
theorem blk_in {N : List Str} {s1 s2 : Scope} {own : List (Str × Nat)} (env : Env) (h : BlkOk N s1 s2 own) : BlkOk N (relabel s1 env) s2 own := by
  refine ⟨h.kind, h.uniq, h.ix, fun y hy e => ?_, h.own⟩
  have e0 : (relabel s1 env).names = s1.names.map fun (n, k) => (n, if (k == .free && env.scope.kind == .function && env.kindOf n == some .cell) then NameKind.cell else k) := by
    unfold relabel
    refine List.map_congr_left fun p _ => ?_
    obtain ⟨n, k⟩ := p
    dsimp only
    split <;> rfl
  rw [e0]
  rcases h.free y hy e with k | k
  · exact .inl ((look_map (f := fun n k => if (k == .free && env.scope.kind == .function && env.kindOf n == some .cell) then NameKind.cell else k) k).trans (by simp))
  · have := look_map (f := fun n k => if (k == .free && env.scope.kind == .function && env.kindOf n == some .cell) then NameKind.cell else k) k
    rw [this]
    split
    · exact .inl rfl
    · exact .inr rfl
end Sv
set_option maxHeartbeats 4000000
namespace Sv
open PySem PySem.Spec PyProof.Rows L2 LamX NdefX
def rJoinK (K : PySem.W.Frag) (x : V) (xs : List V) (H : Hp) (Q : VK) : Prop :=
  ∃ (a : Str) (p : Addr) (ys : List Str), x = .str a ∧ xs = [.ref p] ∧ (SqL K H p (ys.map V.str) ∨ SqT K H p (ys.map V.str)) ∧ (ys.map (·.length)).sum + ys.length * a.length ≤ 16777216 ∧ Q (.str (Txt.join a ys)) H
def tStrI (j : Nat) : TE := tCB (fun xs H Q => ∃ i : Int, xs = [V.int i] ∧ i.natAbs.log2 < 1920 ∧ Q (.str (toString i)) H) (tCons (tVar j) tNil)
def tShelf (K : PySem.W.Frag) : TE := tM1 (rJoinK K) (tC (.str " ")) (tOp rCat (tLst (tCons (tC (.str "shelf")) tNil)) (tLc (iTup K (tVar 17)) (gName 16) tYes (tStrI 16) [16]))
def lwQ : Str := (envOfC "law" (defScope sLaw) 0 0 .none).qual ++ "<lambda>"
def EX (h : Addr) (H H1 : Hp) : Prop := ∀ b o, b ≠ h → H b = some o → (∀ ps, o ≠ .tbl ps) → H1 b = some o
theorem EX.trans {h : Addr} {H H1 H2 : Hp} (a : EX h H H1) (b : EX h H1 H2) : EX h H H2 := fun c o n e m => b c o n (a c o n e m) m
theorem EX.s {h : Addr} {H H1 : Hp} (e : Same H H1) : EX h H H1 := fun b o _ q _ => e b o q
theorem EX.d {h : Addr} {H H1 : Hp} (e : SameD h H H1) : EX h H H1 := fun b o n q _ => e b o n q
theorem EX.n {h : Addr} {H H1 : Hp} (e : ExtN H H1) : EX h H H1 := fun b o _ q m => e b o q m
theorem sqT_ex {K : PySem.W.Frag} {H H1 : Hp} {h sc a : Addr} {xs : List V} (L : LawD K H h sc) (e : EX h H H1) (s : SqT K H a xs) : SqT K H1 a xs := by
  obtain ⟨_, _, _, _, e1, _⟩ := L.ex
  rcases s with (s | ⟨o, s⟩) | s
  · exact .inl (.inl (e _ _ (fun z => by rw [z, e1] at s; cases s) s (fun _ z => nomatch z)))
  · exact .inl (.inr ⟨o, e _ _ (fun z => by rw [z, e1] at s; cases s) s (fun _ z => nomatch z)⟩)
  · exact .inr s
theorem paired_ex {K : PySem.W.Frag} {H H' : Hp} (e : ∀ a xs, SqT K H a xs → SqT K H' a xs) : ∀ {qs : List Addr} {rs : List Ro}, Paired (fun q r => SqT K H q (rV r)) qs rs → Paired (fun q r => SqT K H' q (rV r)) qs rs
  | _, _, .nil => .nil
  | _, _, .cons h t => .cons (e _ _ h) (paired_ex e t)
theorem plan_ex {K : PySem.W.Frag} {H H' : Hp} (e : ∀ a xs, SqT K H a xs → SqT K H' a xs) {p : Addr} {zs : List Int} {rs : List Ro} (x : PlanAt K H p zs rs) : PlanAt K H' p zs rs := by
  obtain ⟨a, b, h1, h2, h3⟩ := x.ex
  obtain ⟨qs, q1, q2⟩ := h3.ex
  exact ⟨a, b, e _ _ h1, e _ _ h2, ⟨qs, e _ _ q1, paired_ex e q2⟩⟩
theorem tabs_d {T : List (Addr × Str)} {K : PySem.W.Frag} {H H1 : Hp} {h sc : Addr} (L : LawD K H h sc) (t : Tabs T H) (e : SameD h H H1) : Tabs T H1 := fun y hy => by
  obtain ⟨_, _, _, _, e1, _⟩ := L.ex
  obtain ⟨ps, h1, h2, h3⟩ := t y hy
  refine ⟨ps, e _ _ (fun z => by rw [z, e1] at h1; cases h1) h1, h2, fun pos cv hcv => ?_⟩
  obtain ⟨c, q1, q2⟩ := h3 pos cv hcv
  refine ⟨c, q1, e _ _ (fun z => ?_) q2⟩
  rw [z, e1] at q2
  have := Option.some.inj q2
  unfold CodeO at this
  cases this
theorem LawD.ext {K : PySem.W.Frag} {H H1 : Hp} {h sc : Addr} (L : LawD K H h sc) (e : ExtN H H1) : LawD K H1 h sc := by
  obtain ⟨i, m, d, cs, e1, e2, e3⟩ := L.ex
  refine ⟨i, m, d, cs, e _ _ e1 (fun _ z => nomatch z), ?_, e3⟩
  rcases e2 with (x | ⟨o, x⟩) | x
  · exact .inl (.inl (e _ _ x (fun _ z => nomatch z)))
  · exact .inl (.inr ⟨o, e _ _ x (fun _ z => nomatch z)⟩)
  · exact .inr x
/-- the law's source and its table -/
structure LG (K : PySem.W.Frag) (T : List (Addr × Str)) (h sc : Addr) (H : Hp) : Prop where
  l : LawD K H h sc
  t : Tabs T H
section
variable {K : PySem.W.Frag} {T : List (Addr × Str)} {h sc p st : Addr} {zs : List Int} {rs : List Ro} {t : Int} {L : Lay Int} {H H1 : Hp}
theorem LG.sm (a : LG K T h sc H) (e : Same H H1) : LG K T h sc H1 := ⟨a.l.same e, a.t.ext e⟩
theorem LG.d (a : LG K T h sc H) (e : StD K h sc H H1) : LG K T h sc H1 := ⟨e.law, tabs_d a.l a.t e.k⟩
theorem LG.n (a : LG K T h sc H) (e : ExtN H H1) (tt : Tabs T H1) : LG K T h sc H1 := ⟨a.l.ext e, tt⟩
/-- .. with a plan and a state -/
structure LQ (K : PySem.W.Frag) (T : List (Addr × Str)) (h sc p st : Addr) (zs : List Int) (rs : List Ro) (t : Int) (L : Lay Int) (H : Hp) : Prop where
  g : LG K T h sc H
  p : PlanAt K H p zs rs
  s : StateAt K H st t L
theorem LQ.x (a : LQ K T h sc p st zs rs t L H) (g : LG K T h sc H1) (e : EX h H H1) : LQ K T h sc p st zs rs t L H1 := ⟨g, plan_ex (fun _ _ => sqT_ex a.g.l e) a.p, a.s.imp fun _ _ => sqT_ex a.g.l e⟩
theorem LQ.sm (a : LQ K T h sc p st zs rs t L H) (e : Same H H1) : LQ K T h sc p st zs rs t L H1 := a.x (a.g.sm e) (.s e)
theorem LQ.d (a : LQ K T h sc p st zs rs t L H) (e : StD K h sc H H1) : LQ K T h sc p st zs rs t L H1 := a.x (a.g.d e) (.d e.k)
theorem LQ.n (a : LQ K T h sc p st zs rs t L H) (e : ExtN H H1) (tt : Tabs T H1) : LQ K T h sc p st zs rs t L H1 := a.x (a.g.n e tt) (.n e)
end
/-- a number as a text -/
theorem ent_str (i : Int) : Str.ofString (toString i) = SX.S (entS (some i)) := by
  show Str.ofString (toString i) = SX.S (if i < 0 then 45 :: TL.numL (-i).toNat else TL.numL i.toNat)
  cases i with
  | ofNat n =>
    rw [if_neg (by show ¬ ((n : Nat) : Int) < 0; omega)]
    exact SX.num_S n
  | negSucc m =>
    rw [if_pos (Int.negSucc_lt_zero m)]
    exact neg_S m
theorem join_l {K : PySem.W.Frag} {H : Hp} {p : Addr} {ys : List (List Nat)} (h : H p = some (.lst (ys.map fun a => V.str (SX.S a)))) : SqL K H p ((ys.map SX.S).map V.str) ∨ SqT K H p ((ys.map SX.S).map V.str) := by
  refine .inl (.inl (.inl ?_))
  rw [h, List.map_map]
  rfl
theorem join_n {sep : List Nat} {ys : List (List Nat)} (hl : (ys.map List.length).sum + ys.length * sep.length ≤ 16777216) : ((ys.map SX.S).map (·.length)).sum + (ys.map SX.S).length * (SX.S sep).length ≤ 16777216 := by
  have e : ((ys.map SX.S).map (·.length)) = ys.map List.length := by
    rw [List.map_map]
    exact List.map_congr_left fun a _ => SX.S_len a
  rw [e, List.length_map, SX.S_len]
  exact hl
theorem log_small {i : Int} (h : i.natAbs < 2 ^ 200) : i.natAbs.log2 < 1920 := by
  by_cases hz : i.natAbs = 0
  · rw [hz]
    decide
  · exact Nat.lt_of_lt_of_le ((Nat.log2_lt (k := 200) hz).mpr h) (by decide)
theorem line_sum {w : List Nat} {r : Ro} {k : Nat} (h : ∀ e ∈ r, (entS e).length ≤ k) : ((w :: r.map entS).map List.length).sum + (w :: r.map entS).length * 1 ≤ w.length + r.length * k + r.length + 1 := by
  have h2 := sum_le (k := k) (l := r.map entS) fun x hx => by
    obtain ⟨e, he, rfl⟩ := List.mem_map.mp hx
    exact h e he
  rw [List.length_map] at h2
  rw [List.map_cons, List.sum_cons, List.length_cons, List.length_map]
  omega
/-- the turns of a comprehension of one list, at the list D -/
def LcAt (K : PySem.W.Frag) (a : Addr) (g : TG) (te : TE) (vs : List Nat) (σ : L2.St) (H1 : Hp) (D : Addr) (A : Hp → Prop) : Prop :=
  ∃ W : Nat → Nat → Hp → Prop, (∃ m, W 0 m (upd H1 D (.lst []))) ∧ ∀ (i m : Nat) (G : Hp), W i m G → ((Itt K a).stop i G ∧ A G) ∨
    ((Itt K a).go i G ∧ ∃ Nx : Hp → Prop, (∀ G', Nx G' → ∃ m', m' < m ∧ W (i + 1) m' G') ∧ ∀ (x : V) (G' : Hp), (Itt K a).yld i G x G' → g x (L2.wipe σ vs) G' fun σ2 G2 => L2.wipe σ2 vs = L2.wipe σ vs ∧ tYes σ2 G2 fun b G3 =>
      if b = true then te σ2 G3 fun y G4 => ∃ acc, G4 D = some (.lst acc) ∧ acc.length < sizeLine ∧ Nx (upd G4 D (.lst (acc ++ [y]))) else Nx G3)
theorem lc_strs {K : PySem.W.Frag} {a D : Addr} {j : Nat} {xs : List V} {ys : List (List Nat)} {te : TE} {σ : L2.St} {H : Hp} {A : Hp → Prop} (hA : SqT K H a xs) (he : xs.length = ys.length) (hl : xs.length ≤ 1000)
    (ht : ∀ (i : Nat) (x : V) (y : List Nat) (G : Hp) (R : VK), xs[i]? = some x → ys[i]? = some y → Same H G → (∀ G', Same G G' → R (.str (SX.S y)) G') → te ((σ.set j none).set j (some x)) G R) (hD : H D = none)
    (q : ∀ H', Same H H' → H' D = some (.lst (ys.map fun a => V.str (SX.S a))) → A H') : LcAt K a (gName j) te [j] σ H D A := by
  refine lc_tup (xs := xs) (fun i G => Same H G ∧ G D = some (.lst ((ys.take i).map fun a => V.str (SX.S a)))) ⟨same_upd hD, upd_same⟩ (fun i G _ g => sqT_same g.1 hA) (fun i v G hv ⟨sm, kD⟩ => ?_) (fun G ⟨sm, kD⟩ => ?_)
  · have il := (List.getElem?_eq_some_iff.mp hv).1
    have hy : ys[i]? = some (ys[i]'(by omega)) := List.getElem?_eq_getElem (by omega)
    refine ⟨?_, yes_go (ht i v _ G _ hv hy sm fun G' s' => ⟨_, s' _ _ kD, ?_, same_of (sm.trans s') hD, ?_⟩)⟩
    · show (((σ.set j none).set j (some v)).set j none) = σ.set j none
      rw [List.set_set, List.set_set]
    · rw [List.length_map, List.length_take]
      exact small1000 (by omega)
    · rw [upd_same, List.take_add_one, hy, List.map_append]
      rfl
  · rw [he, List.take_length] at kD
    exact q G sm kD
theorem strs_lc {K : PySem.W.Frag} {a D : Addr} {j : Nat} {xs : List Int} {σ : L2.St} {H : Hp} {A : Hp → Prop} (hj : j < σ.length) (hA : SqT K H a (xs.map V.int)) (hl : xs.length ≤ 1000) (hs : ∀ z ∈ xs, z.natAbs < 2 ^ 200)
    (hD : H D = none) (q : ∀ H', Same H H' → H' D = some (.lst (((xs.map some).map entS).map fun a => V.str (SX.S a))) → A H') : LcAt K a (gName j) (tStrI j) [j] σ H D A := by
  refine lc_strs (xs := xs.map V.int) (ys := (xs.map some).map entS) hA (by rw [List.length_map, List.length_map, List.length_map]) (by rw [List.length_map]; exact hl) (fun i v y G R hv hy sm r => ?_) hD q
  obtain ⟨z, hz, rfl⟩ := iV_lt hv
  have hzm := List.mem_of_getElem? hz
  have : y = entS (some z) := by
    rw [List.getElem?_map, List.getElem?_map, hz] at hy
    exact (Option.some.inj hy).symm
  subst this
  refine ⟨.int z, ?_, z, rfl, log_small (hs z hzm), ?_⟩
  · rw [List.getElem?_set_self (by simpa using hj)]
  · rw [ent_str]
    exact r G (fun _ _ e => e)
def tEntI (j : Nat) : TE := tIf (tTest (tOp (fun x y H Q => y = V.non ∧ Q (V.bl (decide (x = V.non))) H) (tVar j) (tC .non))) (tC (.str "rest")) (tStrI j)
theorem ents_lc {K : PySem.W.Frag} {a D : Addr} {j : Nat} {r : Ro} {σ : L2.St} {H : Hp} {A : Hp → Prop} (hj : j < σ.length) (hA : SqT K H a (rV r)) (hl : r.length ≤ 1000) (hs : ∀ z, some z ∈ r → z.natAbs < 2 ^ 200)
    (hD : H D = none) (q : ∀ H', Same H H' → H' D = some (.lst ((r.map entS).map fun a => V.str (SX.S a))) → A H') : LcAt K a (gName j) (tEntI j) [j] σ H D A := by
  refine lc_strs (xs := rV r) (ys := r.map entS) hA (by rw [rV_len, List.length_map]) (by rw [rV_len]; exact hl) (fun i v y G R hv hy sm rr => ?_) hD q
  obtain ⟨e, he, rfl⟩ := rV_lt hv
  have hm := List.mem_of_getElem? he
  have : y = entS e := by
    rw [List.getElem?_map, he] at hy
    exact (Option.some.inj hy).symm
  subst this
  have g1 : ((σ.set j none).set j (some (eV e)))[j]? = some (some (eV e)) := List.getElem?_set_self (by simpa using hj)
  refine tif_go ⟨_, g1, rfl, _, rfl, ?_⟩
  cases e with
  | none => exact rr G (fun _ _ e => e)
  | some z =>
    refine ⟨_, g1, z, rfl, log_small (hs z hm), ?_⟩
    rw [ent_str]
    exact rr G (fun _ _ e => e)
theorem time_str (t : Int) : (Str.ofString "time ") ++ Str.ofString (toString t) = SX.S (lineS tmW [some t]) := by
  rw [ent_str]
  exact (SX.S_cat [116, 105, 109, 101, 32] (entS (some t))).trans (congrArg SX.S (by unfold lineS; rfl))
theorem catW_go {w : List Nat} {r : Ro} {Hp0 : Nat} (hl : r.length ≤ 200) (h : SmallE r) (hw : w.length ≤ 20) : ((w :: r.map entS).map List.length).sum + (w :: r.map entS).length * ([32] : List Nat).length ≤ 16777216 := by
  have := line_sum (w := w) (r := r) (k := 41) (entS_len h)
  show _ + _ * 1 ≤ _
  omega
theorem shelf_lc {K : PySem.W.Frag} {a D : Addr} {qs : List Addr} {ss : List (List Int)} {σ : L2.St} {H : Hp} {A : Hp → Prop} (hj : 17 < σ.length) (hA : SqT K H a (qs.map V.ref)) (hP : Paired (fun q s => SqT K H q (s.map V.int)) qs ss) (hl : ss.length ≤ 1000)
    (hs : ∀ s ∈ ss, s.length ≤ 9) (hb : ∀ s ∈ ss, ∀ z ∈ s, 1 ≤ z ∧ z ≤ 999) (hD : H D = none) (q : ∀ H', Same H H' → H' D = some (.lst ((ss.map fun s => lineS shW (s.map some)).map fun a => V.str (SX.S a))) → A H') : LcAt K a (gName 17) (tShelf K) [17] σ H D A := by
  have hql := segT_len hP
  refine lc_strs (xs := qs.map V.ref) (ys := ss.map fun s => lineS shW (s.map some)) hA (by rw [List.length_map, List.length_map, hql]) (by rw [List.length_map, hql]; exact hl) (fun i v y G R hv hy sm r => ?_) hD q
  obtain ⟨u, hu, rfl⟩ := refs_lt hv
  obtain ⟨x, hx, hux⟩ := segT_at hP hu
  have hm := List.mem_of_getElem? hx
  have h9 := hs x hm
  have hb9 := hb x hm
  have : y = lineS shW (x.map some) := by
    rw [List.getElem?_map, hx] at hy
    exact (Option.some.inj hy).symm
  subst this
  have g1 : ((σ.set 17 none).set 17 (some (V.ref u)))[17]? = some (some (V.ref u)) := List.getElem?_set_self (by simpa using hj)
  refine ⟨⟨_, rfl⟩, (by show 1 ≤ sizeLine; decide), fun u1 hu1 => ?_⟩
  have t1 := same_upd (o := .lst [.str "shelf"]) hu1
  have k1 : (upd G u1 (.lst [.str "shelf"])) u1 = some (.lst [.str (SX.S shW)]) := upd_same
  generalize upd G u1 (.lst [.str "shelf"]) = G1 at t1 k1 ⊢
  have hux1 := sqT_same (sm.trans t1) hux
  refine ⟨.ref u, g1, u, rfl, ⟨_, hux1⟩, fun D1 hD1 => strs_lc (j := 16) (by rw [List.length_set, List.length_set]; omega) hux1 (by omega) (fun z hz => Nat.lt_of_le_of_lt (show z.natAbs ≤ 999 by have := hb9 z hz; omega) (by decide)) hD1 fun G2 t2 k2 => ?_⟩
  refine ⟨u1, D1, _, _, rfl, rfl, t2 _ _ k1, k2, ?_, fun u2 hu2 => ⟨SX.S [32], u2, (shW :: (x.map some).map entS).map SX.S, rfl, rfl, join_l upd_same, join_n (catW_go (Hp0 := 0) (by rw [List.length_map]; omega) (smallE_p hb9) (by decide)), ?_⟩⟩
  · rw [List.length_map, List.length_map, List.length_map]
    exact Nat.le_of_lt (small1000 (show 1 + x.length ≤ 1000 by omega))
  rw [SX.join_S]
  exact r _ ((t1.trans t2).trans (same_upd hu2))
theorem ne_str {x : V} {A B : Prop} (b : B) : if (!decide (x = x)) = true then A else B := by
  rw [if_neg (by rw [decide_eq_true rfl]; decide)]
  exact b
theorem map_some_inj : ∀ {a b : List Int}, a.map some = b.map some → a = b
  | [], [], _ => rfl
  | [], _ :: _, e => nomatch e
  | _ :: _, [], e => nomatch e
  | x :: a, y :: b, e => by
    rw [List.map_cons, List.map_cons] at e
    injection e with e1 e2
    cases e1
    rw [map_some_inj e2]
theorem map_some_inj2 : ∀ {a b : List (List Int)}, (a.map fun s => s.map some) = (b.map fun s => s.map some) → a = b
  | [], [], _ => rfl
  | [], _ :: _, e => nomatch e
  | _ :: _, [], e => nomatch e
  | x :: a, y :: b, e => by
    rw [List.map_cons, List.map_cons] at e
    injection e with e1 e2
    rw [map_some_inj e1, map_some_inj2 e2]
theorem dpAll_routes7 {K : PySem.W.Frag} {H : Hp} : ∀ {qs : List Addr} {rs : List Ro}, Paired (fun q r => SqT K H q (rV r)) qs rs → DpAll K H (qs.map V.ref) (rs.map dR)
  | _, _, .nil => .nil
  | _, _, .cons h t => .cons (dp_rV h) (dpAll_routes7 t)
theorem dp_plan7 {K : PySem.W.Frag} {H : Hp} {p : Addr} {zs : List Int} {rs : List Ro} (x : PlanAt K H p zs rs) : Dp K H (.ref p) (dPlan (zs.map some) rs) := by
  obtain ⟨a, b, h1, h2, h3⟩ := x.ex
  obtain ⟨qs, h4, h5⟩ := h3.ex
  exact .tup h1 (.cons (dp_rV (by rw [rV_some]; exact h2)) (.cons (.tup h4 (dpAll_routes7 h5)) .nil))
theorem okD_dE7 (n : Nat) : ∀ e : Option Int, okD n (dE e) = true
  | none => by cases n <;> rfl
  | some i => okD_i n i
theorem okDs_dRs7 (n : Nat) : ∀ r : Ro, okDs n (dRs r) = true
  | [] => by unfold dRs; unfold okDs; rfl
  | e :: r => by
    show okDs n (dE e :: dRs r) = true
    unfold okDs
    rw [okDs_dRs7 n r, Bool.and_true]
    exact okD_dE7 n e
theorem okD_dR7 {n : Nat} {r : Ro} (h : r.length ≤ 1000) : okD (n + 1) (dR r) = true := by
  unfold dR okD
  rw [okDs_dRs7, show (dRs r).length = r.length by unfold dRs; rw [List.length_map], decide_eq_true h]
  rfl
theorem okDs_routes7 {n : Nat} : ∀ {rs : List Ro}, (∀ r ∈ rs, r.length ≤ 1000) → okDs (n + 1) (rs.map dR) = true
  | [], _ => by unfold okDs; rfl
  | r :: rs, h => by
    rw [List.map_cons]
    unfold okDs
    rw [okD_dR7 (h r (List.mem_cons_self ..)), okDs_routes7 fun x hx => h x (List.mem_cons_of_mem _ hx)]
    rfl
theorem okD_plan7 {n : Nat} {zs : List Int} {rs : List Ro} (v : Small zs rs) : okD (n + 3) (dPlan (zs.map some) rs) = true := by
  have e2 : okD (n + 2) (dR (zs.map some)) = true := okD_dR7 (by rw [List.length_map]; exact v.1)
  have e3 : okD (n + 2) (.tuple (rs.map dR)) = true := by
    unfold okD
    rw [okDs_routes7 v.2.2, List.length_map, decide_eq_true v.2.1]
    rfl
  unfold dPlan okD
  have : okDs (n + 2) [dR (zs.map some), .tuple (rs.map dR)] = true := by
    simp only [okDs, e2, e3]
    rfl
  rw [this]
  rfl
theorem TxB.len900 {n m : Nat} {a : List Nat} (x : TxB n m a) (h : n ≤ 900) : a.length ≤ 900 := Nat.le_trans x.n h
/-- how long a text gets by changes -/
def mB : Nat → Nat
  | 0 => 50
  | n + 1 => 2 * mB n + 1
def nB : Nat → Nat
  | 0 => 600
  | n + 1 => nB n + mB n + 2
theorem TxB.mono {n m n' m' : Nat} {a : List Nat} (x : TxB n m a) (h1 : n ≤ n') (h2 : m ≤ m') : TxB n' m' a := ⟨Nat.le_trans x.n h1, fun p hp => Nat.le_trans (x.m p hp) h2, x.c⟩
theorem zsOf_some : ∀ zs : List Int, zsOf (zs.map some) = zs
  | [] => rfl
  | z :: zs => congrArg (z :: ·) (zsOf_some zs)
theorem zsOf_some2 : ∀ ss : List (List Int), (ss.map fun s => s.map some).map zsOf = ss
  | [] => rfl
  | s :: ss => by
    rw [List.map_cons, List.map_cons, zsOf_some, zsOf_some2 ss]
theorem okD_text (i : Nat) : okD 6 (dText i) = true := by
  unfold dText okD
  simp only [okDs, okD_i]
  rfl
theorem okD_bad (part : Str) (i : Int) : okD 6 (dBad part i) = true := by
  unfold dBad okD
  simp only [okDs, okD_i]
  rfl
theorem bad_fits {zs : List Int} {rs : List Ro} (h : bad zs rs = none) : okD 6 (dPlan (zs.map some) rs) = true := okD_plan7 (val_of h).small
theorem out_plan {K : PySem.W.Frag} {C CS CT : Addr} {a : List Nat} {H : Hp} {Q : VK} (hl : a.length ≤ 900) (q : ∀ H' x, Same H H' → Dp K H' x (planD a) → okD 6 (planD a) = true → Q x H') : spPp K C CT [.str (SX.S a)] H Q (OutE C CS CT Q) := by
  refine ⟨a, rfl, hl, fun i e H1 dd fs s1 hx hr => .inr (.inr ⟨rfl, dd, fs, _, rfl, hx, hr, fun H2 p s2 _ h2 => ?_⟩), fun zs rs e => ⟨fun hb H1 p s1 PA => ?_, fun part i hb H1 dd fs s1 hx h1 h2 => .inl ⟨rfl, dd, fs, _, _, rfl, hx, h1, h2, fun H2 p s2 _ hp => ?_⟩⟩⟩
  · have ed : planD a = dText i := by unfold planD; rw [e]
    refine q H2 _ (s1.trans s2) ?_ (by rw [ed]; exact okD_text i)
    rw [ed]
    exact .tup (.inl (.inl h2)) (.cons (.str _) (.cons (.int _) .nil))
  · have ed : planD a = dPlan (zs.map some) rs := by
      unfold planD
      rw [e]
      show dOf _ _ = _
      unfold dOf
      rw [zsOf_some, hb]
    refine q H1 _ s1 ?_ (by rw [ed]; exact bad_fits hb)
    rw [ed]
    exact dp_plan7 PA
  · have ed : planD a = dBad part i := by
      unfold planD
      rw [e]
      show dOf _ _ = _
      unfold dOf
      rw [zsOf_some, hb]
    refine q H2 _ (s1.trans s2) ?_ (by rw [ed]; exact okD_bad part i)
    rw [ed]
    exact .tup (.inl (.inl hp)) (.cons (.str _) (.cons (.str _) (.cons (.int _) .nil)))
theorem st_fits {zs : List Int} {rs : List Ro} {t : Int} {L : Lay Int} (v : Val zs rs) (ok : StOk zs rs t L) : okD 6 (dSt t L) = true := by
  have f1 := ok.f.1
  have z12 := v.z1
  have r6 := v.r1
  have f2 := congrArg List.length ok.f.2
  rw [List.length_map, List.length_map] at f2
  have fs : ∀ x ∈ L.2, x.length ≤ 9 := fun x hx => by
    have h1 : x.length ∈ L.2.map List.length := List.mem_map.mpr ⟨x, hx, rfl⟩
    rw [ok.f.2] at h1
    obtain ⟨z, hz, e⟩ := List.mem_map.mp h1
    have := v.z2 z hz
    omega
  exact okD_st (by omega) (by omega) fun x hx => by have := fs x hx; omega
theorem out_state {K : PySem.W.Frag} {C CS CT p : Addr} {a : List Nat} {zs : List Int} {rs : List Ro} {H : Hp} {Q : VK} (PA : PlanAt K H p zs rs) (v : Val zs rs) (hl : a.length ≤ 900) (q : ∀ H' x, Same H H' → Dp K H' x (stD zs rs a) → okD 6 (stD zs rs a) = true → Q x H') : spPs K CS CT [.ref p, .str (SX.S a)] H Q (OutE C CS CT Q) := by
  refine ⟨p, a, zs, rs, rfl, PA, v, hl, fun i e H1 dd fs s1 hx hr => .inr (.inr ⟨rfl, dd, fs, _, rfl, hx, hr, fun H2 p s2 _ h2 => ?_⟩), fun t cs ss e => ?_⟩
  · have ed : stD zs rs a = dText i := by unfold stD; rw [e]
    refine q H2 _ (s1.trans s2) ?_ (by rw [ed]; exact okD_text i)
    rw [ed]
    exact .tup (.inl (.inl h2)) (.cons (.str _) (.cons (.int _) .nil))
  · have ed : stD zs rs a = if StOk zs rs t (cs, ss) then dSt t (cs, ss) else dNoSt := by
      unfold stD
      rw [e]
      show (if StOk zs rs t (zsOf (cs.map some), (ss.map fun s => s.map some).map zsOf) then dSt t (zsOf (cs.map some), (ss.map fun s => s.map some).map zsOf) else dNoSt) = _
      rw [zsOf_some, zsOf_some2]
    refine ⟨fun ok H1 s s1 SA => ?_, fun no H1 s1 => .inr (.inl ⟨rfl, fun H2 p s2 _ h2 => ?_⟩)⟩
    · rw [if_pos ok] at ed
      refine q H1 _ s1 ?_ (by rw [ed]; exact st_fits v ok)
      rw [ed]
      exact dp_state SA
    · rw [if_neg no] at ed
      refine q H2 _ (s1.trans s2) ?_ (by rw [ed]; rfl)
      rw [ed]
      exact .tup (.inl (.inl h2)) (.cons (.str _) .nil)
/-- the five texts that no plan takes -/
def fiveT : List (List Nat) := [[116, 105, 109, 101, 32, 49, 10, 99, 97, 114, 114, 105, 101, 100, 32, 49, 10, 115, 104, 101, 108, 102, 32, 50, 10], [116, 105, 109, 101, 32, 49, 32, 49, 10, 99, 97, 114, 114, 105, 101, 100, 32, 49, 10, 115, 104, 101, 108, 102, 32, 50], [116, 105, 109, 101, 32, 45, 48, 10, 99, 97, 114, 114, 105, 101, 100, 32, 49, 10, 115, 104, 101, 108, 102, 32, 50], [116, 105, 109, 101, 32, 49, 10, 99, 97, 114, 114, 105, 101, 100, 32, 49, 10, 115, 104, 101, 108, 102, 32, 49], [116, 105, 109, 101, 32, 57, 57, 57, 57, 57, 57, 57, 57, 57, 57, 57, 57, 57, 57, 57, 57, 57, 57, 57, 57, 57, 57, 57, 57, 57, 57, 57, 57, 57, 57, 57, 10, 99, 97, 114, 114, 105, 101, 100, 32, 49, 10, 115, 104, 101, 108, 102, 32, 50]]
/-- what is said of them -/
def vS (a : List Nat) : List V := match stateR 1 a with
  | .error i => [.str "InvalidText", .int (i : Nat)]
  | .ok _ => [.str "InvalidState"]
theorem out_vs {K : PySem.W.Frag} {C CS CT p : Addr} {a : List Nat} {rs : List Ro} {x : Int} {H : Hp} {Q : VK} (PA : PlanAt K H p [x] rs) (v : Val [x] rs) (hl : a.length ≤ 900) (no : ∀ t cs ss, stateR 1 a = .ok (t, cs.map some, ss.map fun s => s.map some) → ¬ StOk [x] rs t (cs, ss)) (q : ∀ H' q, Same H H' → H' q = some (.tup (vS a)) → Q (.ref q) H') : spPs K CS CT [.ref p, .str (SX.S a)] H Q (OutE C CS CT Q) := by
  refine ⟨p, a, [x], rs, rfl, PA, v, hl, fun i e H1 dd fs s1 hx hr => .inr (.inr ⟨rfl, dd, fs, _, rfl, hx, hr, fun H2 p s2 _ h2 => q H2 p (s1.trans s2) ?_⟩), fun t cs ss e => ⟨fun ok => absurd ok (no t cs ss e), fun _ H1 s1 => .inr (.inl ⟨rfl, fun H2 p s2 _ h2 => q H2 p (s1.trans s2) ?_⟩)⟩⟩
  · have e : stateR 1 a = .error i := e
    have : vS a = [.str "InvalidText", .int (i : Nat)] := by unfold vS; rw [e]
    rw [this]
    exact h2
  · have e : stateR 1 a = .ok _ := e
    have : vS a = [.str "InvalidState"] := by unfold vS; rw [e]
    rw [this]
    exact h2
theorem smallV : Val [1] [[some 0]] := val_of (by decide)
theorem no_ok {t0 : Int} {cs0 : List Int} {ss0 : List (List Int)} {a : List Nat} (e0 : stateR 1 a = .ok (t0, cs0.map some, ss0.map fun s => s.map some)) (h : ¬ StOk [1] [[some 0]] t0 (cs0, ss0)) : ∀ t cs ss, stateR 1 a = .ok (t, cs.map some, ss.map fun s => s.map some) → ¬ StOk [1] [[some 0]] t (cs, ss) := fun t cs ss e => by
  rw [e0] at e
  injection e with e
  injection e with e1 e2
  injection e2 with e2 e3
  obtain rfl := e1
  obtain rfl := map_some_inj e2
  obtain rfl := map_some_inj2 e3
  exact h
theorem err_ok {i : Nat} {a : List Nat} (e0 : stateR 1 a = .error i) : ∀ t cs ss, stateR 1 a = .ok (t, cs.map some, ss.map fun s => s.map some) → ¬ StOk [1] [[some 0]] t (cs, ss) := fun t cs ss e => by
  rw [e0] at e
  cases e
theorem five_no : ∀ (i : Nat) (a : List Nat), fiveT[i]? = some a → a.length ≤ 900 ∧ ∀ t cs ss, stateR 1 a = .ok (t, cs.map some, ss.map fun s => s.map some) → ¬ StOk [1] [[some 0]] t (cs, ss)
  | 0, a, h => by
    obtain rfl := Option.some.inj h
    exact ⟨by decide, err_ok (i := 3) (by rfl)⟩
  | 1, a, h => by
    obtain rfl := Option.some.inj h
    exact ⟨by decide, err_ok (i := 0) (by rfl)⟩
  | 2, a, h => by
    obtain rfl := Option.some.inj h
    exact ⟨by decide, err_ok (i := 0) (by rfl)⟩
  | 3, a, h => by
    obtain rfl := Option.some.inj h
    exact ⟨by decide, no_ok (t0 := 1) (cs0 := [1]) (ss0 := [[1]]) (by rfl) (by decide)⟩
  | 4, a, h => by
    obtain rfl := Option.some.inj h
    exact ⟨by decide, no_ok (t0 := 9999999999999999999999999999999) (cs0 := [1]) (ss0 := [[2]]) (by rfl) (by decide)⟩
  | i + 5, a, h => nomatch h
theorem five_vs : fiveT.map vS = [[.str "InvalidText", .int 3], [.str "InvalidText", .int 0], [.str "InvalidText", .int 0], [.str "InvalidState"], [.str "InvalidState"]] := by rfl
theorem extn_upd {G0 G : Hp} {D : Addr} {o : HO} (e : ExtN G0 G) (hD : G0 D = none) : ExtN G0 (upd G D o) := fun b x hb ht => by
  rw [upd_ne (fun z => by rw [z, hD] at hb; cases hb)]
  exact e b x hb ht
theorem extn_same {H H1 H2 : Hp} (a : ExtN H H1) (b : Same H1 H2) : ExtN H H2 := fun c o h m => b c o (a c o h m)
theorem extn_trans {H H1 H2 : Hp} (a : ExtN H H1) (b : ExtN H1 H2) : ExtN H H2 := fun c o h m => b c o (a c o h m) m
theorem sqT_exn {K : PySem.W.Frag} {H H1 : Hp} {a : Addr} {xs : List V} (e : ExtN H H1) (s : SqT K H a xs) : SqT K H1 a xs := by
  rcases s with (s | ⟨o, s⟩) | s
  · exact .inl (.inl (e _ _ s (fun _ z => nomatch z)))
  · exact .inl (.inr ⟨o, e _ _ s (fun _ z => nomatch z)⟩)
  · exact .inr s
theorem sqT_exD {K : PySem.W.Frag} {H H1 : Hp} {a D : Addr} {xs l : List V} (hd : H D = some (.lst l)) (e : EX D H H1) (s : SqT K H a xs) : SqT K H1 a xs := by
  rcases s with (s | ⟨o, s⟩) | s
  · exact .inl (.inl (e _ _ (fun z => by rw [z, hd] at s; cases s) s (fun _ z => nomatch z)))
  · exact .inl (.inr ⟨o, e _ _ (fun z => by rw [z, hd] at s; cases s) s (fun _ z => nomatch z)⟩)
  · exact .inr s
theorem tabs_upd7 {T : List (Addr × Str)} {H : Hp} {D : Addr} {l : List V} {o : HO} (hd : H D = some (.lst l)) (t : Tabs T H) : Tabs T (upd H D o) := fun y hy => by
  obtain ⟨ps, h1, h2, h3⟩ := t y hy
  refine ⟨ps, ?_, h2, fun pos cv hcv => ?_⟩
  · rw [upd_ne (fun z => by rw [z, hd] at h1; cases h1)]
    exact h1
  obtain ⟨c, q1, q2⟩ := h3 pos cv hcv
  refine ⟨c, q1, ?_⟩
  rw [upd_ne (fun z => ?_)]
  · exact q2
  · rw [z, hd] at q2
    have := Option.some.inj q2
    unfold CodeO at this
    cases this
theorem tups_snoc {K : PySem.W.Frag} {H : Hp} {q : Addr} {s : List V} (h : SqT K H q s) : ∀ {qs : List Addr} {ss : List (List V)}, Paired (fun q s => SqT K H q s) qs ss → Paired (fun q s => SqT K H q s) (qs ++ [q]) (ss ++ [s])
  | _, _, .nil => .cons h .nil
  | _, _, .cons a t => .cons a (tups_snoc h t)
theorem tups_imp {K : PySem.W.Frag} {H H' : Hp} (e : ∀ a xs, SqT K H a xs → SqT K H' a xs) : ∀ {qs : List Addr} {ss : List (List V)}, Paired (fun q s => SqT K H q s) qs ss → Paired (fun q s => SqT K H' q s) qs ss
  | _, _, .nil => .nil
  | _, _, .cons a t => .cons (e _ _ a) (tups_imp e t)
def dFive : PyData := .list [.tuple [.str "InvalidText", .int 3], .tuple [.str "InvalidText", .int 0], .tuple [.str "InvalidText", .int 0], .tuple [.str "InvalidState"], .tuple [.str "InvalidState"]]
theorem dp_five {K : PySem.W.Frag} {H : Hp} {D : Addr} {qs : List Addr} (kD : H D = some (.lst (qs.map V.ref))) (hP : Paired (fun q s => SqT K H q s) qs [[V.str "InvalidText", .int 3], [V.str "InvalidText", .int 0], [V.str "InvalidText", .int 0], [V.str "InvalidState"], [V.str "InvalidState"]]) : Dp K H (.ref D) dFive := by
  cases hP with | cons a1 t =>
  cases t with | cons a2 t =>
  cases t with | cons a3 t =>
  cases t with | cons a4 t =>
  cases t with | cons a5 t =>
  cases t with | nil =>
  exact .lst (.inl (.inl kD)) (.cons (.tup a1 (.cons (.str _) (.cons (.int _) .nil))) (.cons (.tup a2 (.cons (.str _) (.cons (.int _) .nil))) (.cons (.tup a3 (.cons (.str _) (.cons (.int _) .nil))) (.cons (.tup a4 (.cons (.str _) .nil)) (.cons (.tup a5 (.cons (.str _) .nil)) .nil)))))
theorem out_fp {K : PySem.W.Frag} {C CS CT p : Addr} {H : Hp} {Q : VK} (PA : PlanAt K H p [] []) (q : ∀ H' x, Same H H' → H' x = some (.tup [.str "InvalidPlan", .str "sizes", .int (-1)]) → Q (.ref x) H') : spFp K C [.ref p] H Q (OutE C CS CT Q) := by
  have eb : bad [] [] = some (("sizes" : Str), (-1 : Int)) := by rfl
  refine ⟨p, [], [], rfl, PA, ⟨by decide, by decide, fun r h => nomatch h⟩, fun h => ?_, fun part i hb H1 dd fs s1 hx h1 h2 => .inl ⟨rfl, dd, fs, _, _, rfl, hx, h1, h2, fun H2 u s2 _ hp => q H2 u (s1.trans s2) ?_⟩⟩
  · rw [eb] at h
    cases h
  · rw [eb] at hb
    cases hb
    exact hp
theorem out_fs {K : PySem.W.Frag} {C CS CT p s : Addr} {zs : List Int} {rs : List Ro} {H : Hp} {Q : VK} (PA : PlanAt K H p zs rs) (v : Val zs rs) (SA : StateAt K H s 0 ([], [])) (q : ∀ H' x, Same H H' → H' x = some (.tup [.str "InvalidState"]) → Q (.ref x) H') : spFs K CS [.ref p, .ref s] H Q (OutE C CS CT Q) := by
  have no : ¬ StOk zs rs 0 ([], []) := fun ok => by
    have f1 := ok.f.1
    have r6 := v.r1
    have : ([] : List Int).length = 0 := rfl
    simp at f1
    omega
  exact ⟨p, s, zs, rs, 0, ([], []), rfl, PA, v, SA, fun ok => absurd ok no, fun _ H1 s1 => .inr (.inl ⟨rfl, fun H2 x s2 _ h2 => q H2 x (s1.trans s2) h2⟩)⟩
theorem pld_five : pld dFive = true := by
  unfold dFive
  simp only [pld, pldAll, PyData.canLay0, PyData.strOk]
  decide +kernel
theorem pld_bad : pld (dBad "sizes" (-1)) = true := by
  unfold dBad
  simp only [pld, pldAll, PyData.canLay0, PyData.strOk]
  decide +kernel
theorem pld_nost : pld dNoSt = true := by
  unfold dNoSt
  simp only [pld, pldAll, PyData.canLay0, PyData.strOk]
  decide +kernel
section
variable {P : Program} {w : World} {K : PySem.W.Frag} {mg : Str → Option Value} {base : Heap}
theorem scLaw : FnScope ["_law_script", "_law_state", "_law_turn", "_law_position", "_law_lines", "_law_route", "_law_change", "_law_texts", "_law_actual", "_law_expected", "_law_other", "_law_plan", "_law_small", "_law_text", "_law_size", "_law_entry", "_law_one", "_law_shelf"] ["_law_script"] (defScope sLaw) := ⟨rfl, rfl, rfl, by decide +kernel, rfl, by decide +kernel, by decide +kernel⟩
def spLaw (K : PySem.W.Frag) (Pt : Addr) : Sp := fun vs H Q _ => ∃ (a : Addr) (ns : List Int), vs = [.ref a] ∧ SqL K H a (ns.map V.int) ∧ ns.length ≤ 63 ∧ Tabs [(Pt, lwQ)] H ∧ ∀ H', Q (.bl true) H'
theorem ok_law {f c Pt : Addr} {fd : FuncData} (T : Bd P K mg) (F : Df K mg "law" sLaw ["_law_script"] f fd) (hc : fd.code = .ref c) (TB : TabB base mg c Pt) (O : OutK K T.C T.CS T.CTx) (gp : mg "InvalidPlan" = some (.ref T.C)) (gs : mg "InvalidState" = some (.ref T.CS)) :
    FnOk P w K mg base CX0 14 f fd ["_law_script"] (spLaw K Pt) := by
  have GST : FnOk P w K mg base CX0 1 T.aLStart T.dLStart ["_law_script"] (spStart K) := ok_start T.LStart.F T.bt
  have GN : FnOk P w K mg base CX0 1 T.aLDrawn T.dLDrawn ["_law_state", "_law_count"] (qDrawn K) := by unfold qDrawn; exact ok_drawn T.LDrawn.F T.bt
  have GRP : FnOk P w K mg base CX0 3 T.aLRndPlan T.dLRndPlan ["_law_state", "_law_shelves", "_law_size"] (spRp K) := ok_rp T
  have GRS : FnOk P w K mg base CX0 2 T.aLRndState T.dLRndState ["_law_state", "_law_plan"] (spRs K) := ok_rs T
  have GFP : FnOk P w K mg base (L2.CX P w) 5 T.aFormatPlan T.dFormatPlan ["plan"] (spFp K T.C) := ok_fp T
  have GFS : FnOk P w K mg base (L2.CX P w) 5 T.aFormatState T.dFormatState ["plan", "state"] (spFs K T.CS) := ok_fs T
  have GPP : FnOk P w K mg base (L2.CX P w) 5 T.aParsePlan T.dParsePlan ["text"] (spPp K T.C T.CTx) := ok_pp T
  have GPS : FnOk P w K mg base (L2.CX P w) 5 T.aParseState T.dParseState ["plan", "text"] (spPs K T.CS T.CTx) := ok_ps T
  have GSA : FnOk P w K mg base CX0 7 T.aLSame T.dLSame ["_law_result", "_law_expected"] (spAlike K 6) := ok_same T.LSame T.bt 6
  have GCH : FnOk P w K mg base CX0 2 T.aLChanged T.dLChanged ["_law_state", "_law_text"] (spCh K) := ok_ch T
  have GPO : FnOk P w K mg base CX0 2 T.aLPlanOf T.dLPlanOf ["_law_text"] (spPo K) := ok_po T
  have GSO : FnOk P w K mg base CX0 2 T.aLStOf T.dLStOf ["_law_plan", "_law_text"] (spSo K) := ok_so T
  have GX : FnSt P w K mg base 7 T.aLOutcome (KnOut P w K mg base 6 T.C T.CS T.CTx) := ok_out T O gp gs
  refine fun_okC F.F hc scLaw (fun vs H Q E h => ?_) (fun A outer s H vs Q E hr h => ?_)
  · obtain ⟨a, ns, rfl, _⟩ := h
    rfl
  · obtain ⟨sc, nsc, rfl, hA, hl, hT, q⟩ := h
    have LT : LamT (cxOf CX0 P w K mg base ["_law_script", "_law_state", "_law_turn", "_law_position", "_law_lines", "_law_route", "_law_change", "_law_texts", "_law_actual", "_law_expected", "_law_other", "_law_plan", "_law_small", "_law_text", "_law_size", "_law_entry", "_law_one", "_law_shelf"] "law" (defScope sLaw) f (.ref c) A outer s H E).nox [(Pt, lwQ)] c Pt := ⟨TB, rfl, List.mem_singleton.mpr rfl, fun p hp _ => by rw [List.mem_singleton.mp hp]; rfl⟩
    have far0 : ∀ (pins : List (Addr × Obj)) (σ : L2.St) (H' : Hp) (s' : Shared), Inv (cxOf CX0 P w K mg base ["_law_script", "_law_state", "_law_turn", "_law_position", "_law_lines", "_law_route", "_law_change", "_law_texts", "_law_actual", "_law_expected", "_law_other", "_law_plan", "_law_small", "_law_text", "_law_size", "_law_entry", "_law_one", "_law_shelf"] "law" (defScope sLaw) f (.ref c) A outer s H E).nox pins σ H' s' → Far (cxOf CX0 P w K mg base ["_law_script", "_law_state", "_law_turn", "_law_position", "_law_lines", "_law_route", "_law_change", "_law_texts", "_law_actual", "_law_expected", "_law_other", "_law_plan", "_law_small", "_law_text", "_law_size", "_law_entry", "_law_one", "_law_shelf"] "law" (defScope sLaw) f (.ref c) A outer s H E).nox := fun _ _ _ _ I => far_def I fun _ => rfl
    refine ⟨_, pss_cons (ps_set (i := 1) scLaw.nd rfl (Or.inl rfl) (pe_call (E := E0) GST (hr.mono (by decide)) (by rfl) T.LStart.g T.LStart.F.kp T.LStart.b .nil pass0 (pa_cons (pv 0) pa_nil)))
      (pss_cons (ps_for PassesOwn.never rfl (pi_range1 (by rfl) T.bt.range (pa_cons (pe_int) pa_nil)) (pg_name (i := 2) scLaw.nd rfl (Or.inl rfl))
        (pss_cons (ps_set (i := 11) scLaw.nd rfl (Or.inr rfl) (pe_call (E := E0) GRP (hr.mono (by decide)) (by rfl) T.LRndPlan.g T.LRndPlan.F.kp T.LRndPlan.b .nil pass0 (pa_cons (pv 1) (pa_cons (pe_ix ix_list (pe_lst (pa_cons (pe_int) (pa_cons (pe_int) pa_nil))) (pe_call (E := E0) GN (hr.mono (by decide)) (by rfl) T.LDrawn.g T.LDrawn.F.kp T.LDrawn.b .nil pass0 (pa_cons (pv 1) (pa_cons (pe_int) pa_nil))) (fun _ _ => rfl)) (pa_cons (pe_ifExp (pt_cmpR op_eq (pv 2) pe_int (nomark _)) (pe_int) (pe_int)) pa_nil)))))
      (pss_cons (ps_set (i := 3) scLaw.nd rfl (Or.inl rfl) (pe_call (E := E0) GRS (hr.mono (by decide)) (by rfl) T.LRndState.g T.LRndState.F.kp T.LRndState.b .nil pass0 (pa_cons (pv 1) (pa_cons (pv 11) pa_nil))))
      (pss_cons (ps_set (i := 4) scLaw.nd rfl (Or.inl rfl) (pe_lst (pa_cons (pe_join pe_str (pe_op op_cat (pe_lst (pa_cons (pe_str) pa_nil)) (pe_lc (own := [("_law_size", 14)]) (g := gName 14) (tt := tYes) (te := _) rfl scLaw.nd (pi_tup (pe_ix ix_tup (pv 11) (pe_int) (fun _ _ => rfl))) (blkOk_by (N := ["_law_script", "_law_state", "_law_turn", "_law_position", "_law_lines", "_law_route", "_law_change", "_law_texts", "_law_actual", "_law_expected", "_law_other", "_law_plan", "_law_small", "_law_text", "_law_size", "_law_entry", "_law_one", "_law_shelf"]) (sc := defScope sLaw) (by decide +kernel)) (fun _ _ _ _ _ => pg_name (i := 14) scLaw.nd rfl (Or.inl rfl)) (fun _ _ _ _ _ => pts_nil) (fun _ _ _ _ _ => pe_callTy call_str_int (by rfl) T.bt.str b_str (pa_cons (pv 14) pa_nil))))) pa_nil)))
      (pss_cons (ps_for PassesOwn.never rfl (pi_tup (pe_ix ix_tup (pv 11) (pe_int) (fun _ _ => rfl))) (pg_name (i := 5) scLaw.nd rfl (Or.inl rfl))
        (pss_one (ps_expr (pe_bm PySem.F.plainAttrs_list PySem.F.slot_list_append PySem.F.type_list_append mt_append (pv 4) (pa_cons (pe_join pe_str (pe_op op_cat (pe_lst (pa_cons (pe_str) pa_nil)) (pe_lc (own := [("_law_entry", 15)]) (g := gName 15) (tt := tYes) (te := _) rfl scLaw.nd (pi_tup (pv 5)) (blkOk_by (N := ["_law_script", "_law_state", "_law_turn", "_law_position", "_law_lines", "_law_route", "_law_change", "_law_texts", "_law_actual", "_law_expected", "_law_other", "_law_plan", "_law_small", "_law_text", "_law_size", "_law_entry", "_law_one", "_law_shelf"]) (sc := defScope sLaw) (by decide +kernel)) (fun _ _ _ _ _ => pg_name (i := 15) scLaw.nd rfl (Or.inl rfl)) (fun _ _ _ _ _ => pts_nil) (fun _ _ _ _ _ => pe_ifExp (pt_cmpR op_isN (pv 15) pe_non (nomark _)) (pe_str) (pe_callTy call_str_int (by rfl) T.bt.str b_str (pa_cons (pv 15) pa_nil)))))) pa_nil)))))
      (pss_cons (ps_set (i := 13) scLaw.nd rfl (Or.inr rfl) (pe_join pe_str (pv 4)))
      (pss_cons (ps_set (i := 4) scLaw.nd rfl (Or.inl rfl) (pe_lst (pa_cons (pe_op op_add_str (pe_str) (pe_callTy call_str_int (by rfl) T.bt.str b_str (pa_cons (pe_ix ix_tup (pv 3) (pe_int) (fun _ _ => rfl)) pa_nil))) (pa_cons (pe_join pe_str (pe_op op_cat (pe_lst (pa_cons (pe_str) pa_nil)) (pe_lc (own := [("_law_one", 16)]) (g := gName 16) (tt := tYes) (te := _) rfl scLaw.nd (pi_tup (pe_ix ix_tup (pv 3) (pe_int) (fun _ _ => rfl))) (blkOk_by (N := ["_law_script", "_law_state", "_law_turn", "_law_position", "_law_lines", "_law_route", "_law_change", "_law_texts", "_law_actual", "_law_expected", "_law_other", "_law_plan", "_law_small", "_law_text", "_law_size", "_law_entry", "_law_one", "_law_shelf"]) (sc := defScope sLaw) (by decide +kernel)) (fun _ _ _ _ _ => pg_name (i := 16) scLaw.nd rfl (Or.inl rfl)) (fun _ _ _ _ _ => pts_nil) (fun _ _ _ _ _ => pe_callTy call_str_int (by rfl) T.bt.str b_str (pa_cons (pv 16) pa_nil))))) pa_nil))))
      (pss_cons (ps_set (i := 10) scLaw.nd rfl (Or.inr rfl) (pe_join pe_str (pe_op op_cat (pv 4) (pe_lc (own := [("_law_shelf", 17)]) (g := gName 17) (tt := tYes) (te := tShelf K) rfl scLaw.nd (pi_tup (pe_ix ix_tup (pv 3) (pe_int) (fun _ _ => rfl))) (blkOk_by (N := ["_law_script", "_law_state", "_law_turn", "_law_position", "_law_lines", "_law_route", "_law_change", "_law_texts", "_law_actual", "_law_expected", "_law_other", "_law_plan", "_law_small", "_law_text", "_law_size", "_law_entry", "_law_one", "_law_shelf"]) (sc := defScope sLaw) (by decide +kernel)) (fun _ _ _ _ _ => pg_name (i := 17) scLaw.nd rfl (Or.inl rfl)) (fun _ _ _ _ _ => pts_nil) (fun _ _ _ _ _ => pe_join pe_str (pe_op op_cat (pe_lst (pa_cons (pe_str) pa_nil)) (pe_lc (own := [("_law_one", 16)]) (g := gName 16) (tt := tYes) (te := tStrI 16) rfl scLaw.nd (pi_tup (pv 17)) (blk_in _ (blkOk_by (N := ["_law_script", "_law_state", "_law_turn", "_law_position", "_law_lines", "_law_route", "_law_change", "_law_texts", "_law_actual", "_law_expected", "_law_other", "_law_plan", "_law_small", "_law_text", "_law_size", "_law_entry", "_law_one", "_law_shelf"]) (sc := { kind := .function, names := [(".0", .local), ("_law_shelf", .local)], isGenerator := false, isCoroutine := false }) (by decide +kernel))) (fun _ _ _ _ _ => pg_name (i := 16) scLaw.nd rfl (Or.inl rfl)) (fun _ _ _ _ _ => pts_nil) (fun _ _ _ _ _ => pe_callTy call_str_int (by rfl) T.bt.str b_str (pa_cons (pv 16) pa_nil)))))))))
      (pss_cons (ps_if ((pw_or (pt_cmpR op_ne (pe_call (E := E0) GFP (hr.mono (by decide)) (by rfl) T.FormatPlan.g T.FormatPlan.F.kp T.FormatPlan.b .nil passL (pa_cons (pv 11) pa_nil)) (pv 13) (nomark _)) (pw_or1 (pt_cmpR op_ne (pe_call (E := E0) GFS (hr.mono (by decide)) (by rfl) T.FormatState.g T.FormatState.F.kp T.FormatState.b .nil passL (pa_cons (pv 11) (pa_cons (pv 3) pa_nil))) (pv 10) (nomark _)))).pt) pss_never pss_nil)
      (pss_cons (ps_if ((pw_or (pt_not (pt_val (pe_call (E := E0) GSA (hr.mono (by decide)) (by rfl) T.LSame.g T.LSame.F.kp T.LSame.b .nil pass0 (pa_cons (pe_call (E := E0) GPP (hr.mono (by decide)) (by rfl) T.ParsePlan.g T.ParsePlan.F.kp T.ParsePlan.b .nil passL (pa_cons (pv 13) pa_nil)) (pa_cons (pv 11) pa_nil))))) (pw_or1 (pt_not (pt_val (pe_call (E := E0) GSA (hr.mono (by decide)) (by rfl) T.LSame.g T.LSame.F.kp T.LSame.b .nil pass0 (pa_cons (pe_call (E := E0) GPS (hr.mono (by decide)) (by rfl) T.ParseState.g T.ParseState.F.kp T.ParseState.b .nil passL (pa_cons (pv 11) (pa_cons (pv 10) pa_nil))) (pa_cons (pv 3) pa_nil))))))).pt) pss_never pss_nil)
      (pss_cons (ps_for PassesOwn.never rfl (pi_range1 (by rfl) T.bt.range (pa_cons (pe_op op_add (pe_int) (pe_call (E := E0) GN (hr.mono (by decide)) (by rfl) T.LDrawn.g T.LDrawn.F.kp T.LDrawn.b .nil pass0 (pa_cons (pv 1) (pa_cons (pe_int) pa_nil)))) pa_nil)) (pg_name (i := 6) scLaw.nd rfl (Or.inl rfl))
        (pss_one (ps_asg (pe_tup (pa_cons (pe_call (E := E0) GCH (hr.mono (by decide)) (by rfl) T.LChanged.g T.LChanged.F.kp T.LChanged.b .nil pass0 (pa_cons (pv 1) (pa_cons (pv 13) pa_nil))) (pa_cons (pe_call (E := E0) GCH (hr.mono (by decide)) (by rfl) T.LChanged.g T.LChanged.F.kp T.LChanged.b .nil pass0 (pa_cons (pv 1) (pa_cons (pv 10) pa_nil))) pa_nil))) (pg_tup rfl (pgs_cons (pg_name (i := 13) scLaw.nd rfl (.inr rfl)) (pgs_cons (pg_name (i := 10) scLaw.nd rfl (.inr rfl)) pgs_nil))))))
      (pss_cons (ps_if (pt_not (pt_val (pe_call (E := E0) GSA (hr.mono (by decide)) (by rfl) T.LSame.g T.LSame.F.kp T.LSame.b .nil pass0 (pa_cons (pe_outLam GX (hr.mono (by decide)) (by rfl) T.LOutcome.g T.LOutcome.F.kp far0 (pe_lamK0 (js := [13]) LT (lb1 T))) (pa_cons (pe_call (E := E0) GPO (hr.mono (by decide)) (by rfl) T.LPlanOf.g T.LPlanOf.F.kp T.LPlanOf.b .nil pass0 (pa_cons (pv 13) pa_nil)) pa_nil))))) pss_never pss_nil)
      (pss_cons (ps_if (pt_not (pt_val (pe_call (E := E0) GSA (hr.mono (by decide)) (by rfl) T.LSame.g T.LSame.F.kp T.LSame.b .nil pass0 (pa_cons (pe_outLam GX (hr.mono (by decide)) (by rfl) T.LOutcome.g T.LOutcome.F.kp far0 (pe_lamK1 (js := [10, 11]) LT (lb2 T) hbn2)) (pa_cons (pe_call (E := E0) GSO (hr.mono (by decide)) (by rfl) T.LStOf.g T.LStOf.F.kp T.LStOf.b .nil pass0 (pa_cons (pv 11) (pa_cons (pv 10) pa_nil))) pa_nil))))) pss_never pss_nil)
      (pss_cons (ps_set (i := 12) scLaw.nd rfl (Or.inr rfl) (pe_tup (pa_cons (pe_tup (pa_cons (pe_int) pa_nil)) (pa_cons (pe_tup (pa_cons (pe_tup (pa_cons (pe_int) pa_nil)) pa_nil)) pa_nil))))
      (pss_cons (ps_set (i := 7) scLaw.nd rfl (Or.inl rfl) (pe_lst (pa_cons (pe_str) (pa_cons (pe_str) (pa_cons (pe_str) pa_nil)))))
      (pss_cons (ps_set (i := 7) scLaw.nd rfl (Or.inl rfl) (pe_op op_cat (pv 7) (pe_lst (pa_cons (pe_str) (pa_cons (pe_op op_add_str (pe_op op_add_str (pe_str) (pe_op op_mulS (pe_str) (pe_int))) (pe_str)) pa_nil)))))
      (pss_cons (ps_setLcI (i := 8) (own := [("_law_one", 16)]) (g := gName 16) (tt := fun _ => tYes) (te := fun _ => tOutL [(Pt, lwQ)] [16, 12] (tl2 K T.CS T.CTx) T.C T.CS T.CTx) rfl scLaw.nd rfl rfl (sw_true rfl rfl rfl (by decide +kernel)) (pi_list (pv 7)) (blkOk_by (N := ["_law_script", "_law_state", "_law_turn", "_law_position", "_law_lines", "_law_route", "_law_change", "_law_texts", "_law_actual", "_law_expected", "_law_other", "_law_plan", "_law_small", "_law_text", "_law_size", "_law_entry", "_law_one", "_law_shelf"]) (sc := defScope sLaw) (by decide +kernel)) (fun _ _ _ _ _ => pg_name (i := 16) scLaw.nd rfl (Or.inr rfl)) (fun _ _ _ _ _ _ _ => pts_nil) (fun _ _ _ _ _ _ B0 => pe_outLam GX (hr.mono (by decide)) (by rfl) T.LOutcome.g T.LOutcome.F.kp (fun _ _ _ _ _ => far_blk51 (fun _ => rfl) B0) (pe_lamK0 (js := [16, 12]) (fr := ["_law_one", "_law_small"]) (N := ["_law_one", "_law_small"]) (k := 5) (tl := tl2 K T.CS T.CTx) (lt_blk LT) (by refine lb3 ?_))))
      (pss_cons (ps_set (i := 9) scLaw.nd rfl (Or.inl rfl) (pe_lst (pa_cons (pe_tup (pa_cons (pe_str) (pa_cons (pe_int) pa_nil))) (pa_cons (pe_tup (pa_cons (pe_str) (pa_cons (pe_int) pa_nil))) (pa_cons (pe_tup (pa_cons (pe_str) (pa_cons (pe_int) pa_nil))) (pa_cons (pe_tup (pa_cons (pe_str) pa_nil)) (pa_cons (pe_tup (pa_cons (pe_str) pa_nil)) pa_nil)))))))
      (pss_cons (ps_if ((pw_or (pt_cmpR (op_neQ hr.units) (pv 8) (pv 9) (nomark _)) (pw_or1 (pt_cmpR (op_neQ hr.units) (pe_outLam GX (hr.mono (by decide)) (by rfl) T.LOutcome.g T.LOutcome.F.kp far0 (pe_lamK0 (js := []) LT (lb4 T))) (pe_tup (pa_cons (pe_str) (pa_cons (pe_str) (pa_cons (pe_op op_sub (pe_int) (pe_int)) pa_nil)))) (nomark _)))).pt) pss_never pss_nil)
      (pss_one (ps_if (pt_cmpR (op_neQ hr.units) (pe_outLam GX (hr.mono (by decide)) (by rfl) T.LOutcome.g T.LOutcome.F.kp far0 (pe_lamK0 (js := [11]) LT (lb5 T))) (pe_tup (pa_cons (pe_str) pa_nil)) (nomark _)) pss_never pss_nil)))))))))))))))))))))
      (pss_one (ps_ret (pe_bl)))), ?_⟩
    refine ⟨.ref sc, rfl, sc, nsc, rfl, hA, hl, fun H1 h L1 s1 hh => ?_⟩
    have G1 : LG K [(Pt, lwQ)] h sc H1 := ⟨L1, hT.ext s1⟩
    refine ⟨4, rfl, by decide, by decide, for_range (lo := 0) (n := 4) (fun k σ G => (∃ y2 y3 y4 y5 y6 y7 y8 y9 y10 y11 y12 y13, σ = [some (.ref sc), some (.ref h), y2, y3, y4, y5, y6, y7, y8, y9, y10, y11, y12, y13, none, none, none, none]) ∧ LG K [(Pt, lwQ)] h sc G) ⟨⟨_, _, _, _, _, _, _, _, _, _, _, _, rfl⟩, G1⟩ (fun k σ G hk ⟨⟨y2, y3, y4, y5, y6, y7, y8, y9, y10, y11, y12, y13, eσ⟩, GG⟩ => ?_) (fun σ G _ => q G)⟩
    subst eσ
    clear G1 L1 s1 hA hT
    -- the plan
    refine seq_ways2 (B := fun σ' H' => ∃ (p : Addr) (zs : List Int) (rs : List Ro), σ' = [some (.ref sc), some (.ref h), some (.int (0 + (k : Nat))), y3, y4, y5, y6, y7, y8, y9, y10, some (.ref p), y12, y13, none, none, none, none] ∧ LG K [(Pt, lwQ)] h sc H' ∧ PlanAt K H' p zs rs ∧ Val zs rs) (fun σ' G2 ⟨p, zs, rs, eσ, GG2, PA, v⟩ => ?_) (fun tail => ?_)
    rotate_left
    · refine ⟨.ref h, rfl, (by show 2 ≤ sizeLine; decide), fun D hD => ⟨.ref h, rfl, ?_⟩⟩
      have t1 := same_upd (o := .lst [.int 3, .int 12]) hD
      have kD : (upd G D (.lst [.int 3, .int 12])) D = some (.lst [.int 3, .int 12]) := upd_same
      have Dh := GG.l.nh hD
      have GA := GG.sm t1
      show qDrawn _ _ _ _ _
      generalize upd G D (.lst [.int 3, .int 12]) = G1 at t1 kD GA ⊢
      refine go_drawn GA.l (by decide) (by decide) fun u G2 hu L2' x2 => ?_
      have GB := GA.d ⟨GA.l, L2', x2⟩
      obtain ⟨lim, l1, l2, hat⟩ : ∃ lim : Int, 1 ≤ lim ∧ lim ≤ 12 ∧ atI [V.int 3, V.int 12] (u : Nat) = some (.int lim) := by
        have : u = 0 ∨ u = 1 := by omega
        rcases this with rfl | rfl
        · exact ⟨3, by decide, by decide, rfl⟩
        · exact ⟨12, by decide, by decide, rfl⟩
      refine ⟨D, _, _, _, rfl, rfl, .inl (.inl (x2 _ _ Dh kD)), hat, .int (0 + (k : Nat)), rfl, rfl, _, rfl, ?_⟩
      exact ite2 (fun _ => ⟨h, sc, lim, 9, rfl, GB.l, ⟨l1, l2⟩, by decide, fun H' p zs rs St PA v _ _ _ => tail _ _ ⟨p, zs, rs, rfl, GB.d St, PA, v⟩⟩) (fun _ => ⟨h, sc, lim, 3, rfl, GB.l, ⟨l1, l2⟩, by decide, fun H' p zs rs St PA v _ _ _ => tail _ _ ⟨p, zs, rs, rfl, GB.d St, PA, v⟩⟩)
    subst eσ
    -- the state
    refine ⟨.ref h, rfl, .ref p, rfl, h, sc, p, zs, rs, rfl, GG2.l, PA, v, fun G3 st t L St SA ok ht _ => ?_⟩
    have Q3 : LQ K [(Pt, lwQ)] h sc p st zs rs t L G3 := ⟨GG2.d St, plan_ex (fun _ _ => sqT_ex GG2.l (.d St.k)) PA, SA⟩
    clear St SA PA GG2
    have z12 := v.z1
    have r6 := v.r1
    have pok := ok.p.1
    -- the text of the plan: its first line
    obtain ⟨az, bz, hp1, hpz, hpb⟩ := Q3.p.ex
    refine ⟨⟨_, rfl⟩, (by show 1 ≤ sizeLine; decide), fun u1 hu1 => ?_⟩
    have t1 := same_upd (o := .lst [.str "sizes"]) hu1
    have k1 : (upd G3 u1 (.lst [.str "sizes"])) u1 = some (.lst [.str (SX.S szW)]) := upd_same
    generalize upd G3 u1 (.lst [.str "sizes"]) = G4 at t1 k1 ⊢
    have Q4 := Q3.sm t1
    refine ⟨.ref p, rfl, p, _, 0, .ref az, rfl, rfl, sqT_same t1 hp1, rfl, az, rfl, ⟨_, sqT_same t1 hpz⟩, fun D hD => strs_lc (j := 14) (show 14 < 18 by decide) (sqT_same t1 hpz) (by omega) (fun z hz => Nat.lt_of_le_of_lt (show z.natAbs ≤ 9 by have := v.z2 z hz; omega) (by decide)) hD fun G5 t5 kD => ?_⟩
    refine ⟨u1, D, _, _, rfl, rfl, t5 _ _ k1, kD, ?_, fun u2 hu2 => ⟨SX.S [32], u2, (szW :: (zs.map some).map entS).map SX.S, rfl, rfl, join_l upd_same, join_n ?_, ?_⟩⟩
    · rw [List.length_map, List.length_map, List.length_map]
      exact Nat.le_of_lt (small1000 (show 1 + zs.length ≤ 1000 by omega))
    · have := line_sum (w := szW) (r := zs.map some) (k := 41) (entS_len (smallE_z v.z2))
      rw [List.length_map] at this
      have e : szW.length = 5 := rfl
      show _ + _ * 1 ≤ _
      omega
    rw [SX.join_S]
    have t2 := same_upd (o := .lst ([V.str (SX.S szW)] ++ ((zs.map some).map entS).map fun a => V.str (SX.S a))) hu2
    have Q5 := (Q4.sm t5).sm t2
    generalize upd G5 u2 (.lst ([V.str (SX.S szW)] ++ ((zs.map some).map entS).map fun a => V.str (SX.S a))) = G6 at t2 Q5 ⊢
    refine ⟨(by show 1 ≤ sizeLine; decide), fun b hb => ?_⟩
    clear Q4 t1 t5 t2 kD k1 hD hu1 hu2
    refine gName_nx ?_
    have kb : (upd G6 b (.lst [.str (SX.S (TL.joinL [32] (szW :: (zs.map some).map entS)))])) b = some (.lst ((lineS szW (zs.map some) :: (rs.take 0).map (lineS rtW)).map fun a => V.str (SX.S a))) := upd_same
    have t3 := same_upd (o := .lst [.str (SX.S (TL.joinL [32] (szW :: (zs.map some).map entS)))]) hb
    generalize upd G6 b (.lst [.str (SX.S (TL.joinL [32] (szW :: (zs.map some).map entS)))]) = G7 at kb t3 ⊢
    obtain ⟨_, bz2, hp2, _, hB⟩ := Q5.p.ex
    obtain ⟨qs, hB2, hP⟩ := hB.ex
    have hql := paired_len hP
    refine seq_ways2 (B := fun σ' H' => ∃ y5, σ' = [some (.ref sc), some (.ref h), some (.int (0 + (k : Nat))), some (.ref st), some (.ref b), y5, y6, y7, y8, y9, y10, some (.ref p), y12, y13, none, none, none, none] ∧ Same G6 H' ∧ H' b = some (.lst ((lineS szW (zs.map some) :: rs.map (lineS rtW)).map fun a => V.str (SX.S a)))) (fun σ' G8 ⟨y5', eσ, t8, k8⟩ => ?_) (fun tail => ?_)
    rotate_left
    · refine ⟨.ref p, rfl, p, _, 1, .ref bz2, rfl, rfl, sqT_same t3 hp2, rfl, bz2, rfl, ⟨_, sqT_same t3 hB2⟩, for_tup (xs := qs.map V.ref) (fun i σ G => (∃ y5, σ = [some (.ref sc), some (.ref h), some (.int (0 + (k : Nat))), some (.ref st), some (.ref b), y5, y6, y7, y8, y9, y10, some (.ref p), y12, y13, none, none, none, none]) ∧ Same G6 G ∧ G b = some (.lst ((lineS szW (zs.map some) :: (rs.take i).map (lineS rtW)).map fun a => V.str (SX.S a)))) ⟨⟨_, rfl⟩, t3, kb⟩ (fun i σ G _ g => sqT_same g.2.1 hB2) (fun i x σ G hx ⟨⟨y5', eσ⟩, t9, k9⟩ => ?_) (fun σ G ⟨⟨y5', eσ⟩, t9, k9⟩ => tail _ _ ⟨y5', eσ, t9, ?_⟩)⟩
      · subst eσ
        obtain ⟨u, hu, rfl⟩ := refs_lt hx
        obtain ⟨r, hr2, hur⟩ := paired_at hP hu
        have hm := List.mem_of_getElem? hr2
        have hil := (List.getElem?_eq_some_iff.mp hr2).1
        have h7 := (v.r2 r hm).2
        refine ⟨.ref b, rfl, .inl ⟨rfl, _, .inl (.inl k9)⟩, ⟨_, rfl⟩, (by show 1 ≤ sizeLine; decide), fun u1 hu1 => ?_⟩
        have t1 := same_upd (o := .lst [.str "route"]) hu1
        have k1 : (upd G u1 (.lst [.str "route"])) u1 = some (.lst [.str (SX.S rtW)]) := upd_same
        have nb : u1 ≠ b := fun e => by rw [e, k9] at hu1; cases hu1
        generalize upd G u1 (.lst [.str "route"]) = G1 at t1 k1 ⊢
        have t1' := t9.trans t1
        have hur1 := sqT_same t1' (sqT_same (fun _ _ e => e) hur)
        refine ⟨.ref u, rfl, u, rfl, ⟨_, hur1⟩, fun D hD => ents_lc (j := 15) (show 15 < 18 by decide) hur1 (by omega) (fun z hz => Nat.lt_of_lt_of_le (smallE_r (by omega) (v.e r hm) z hz) (by decide)) hD fun G2 t2 k2 => ?_⟩
        refine ⟨u1, D, _, _, rfl, rfl, t2 _ _ k1, k2, ?_, fun u2 hu2 => ⟨SX.S [32], u2, (rtW :: r.map entS).map SX.S, rfl, rfl, join_l upd_same, join_n ?_, ?_⟩⟩
        · rw [List.length_map, List.length_map]
          exact Nat.le_of_lt (small1000 (show 1 + r.length ≤ 1000 by omega))
        · have := line_sum (w := rtW) (r := r) (k := 41) (entS_len (smallE_r (by omega) (v.e r hm)))
          have e : rtW.length = 5 := rfl
          show _ + _ * 1 ≤ _
          omega
        rw [SX.join_S]
        have t3 := (t1.trans t2).trans (same_upd (o := .lst ([V.str (SX.S rtW)] ++ (r.map entS).map fun a => V.str (SX.S a))) hu2)
        generalize upd G2 u2 (.lst ([V.str (SX.S rtW)] ++ (r.map entS).map fun a => V.str (SX.S a))) = G3 at t3 ⊢
        refine ⟨b, _, _, rfl, rfl, t3 _ _ k9, ?_, ⟨_, rfl⟩, same_of (t9.trans t3) hb, ?_⟩
        · rw [List.length_map, List.length_cons, List.length_map, List.length_take]
          exact small1000 (by omega)
        · show (upd G3 b (.lst (_ ++ [V.str (SX.S (lineS rtW r))]))) b = _
          rw [upd_same, List.take_add_one, hr2, List.map_append]
          show _ = some (HO.lst (List.map _ (_ :: (_ ++ [lineS rtW r]))))
          rw [← List.cons_append, List.map_append]
          rfl
      · rw [List.length_map, hql, List.take_length] at k9
        exact k9
    subst eσ
    have Q8 := Q5.sm t8
    clear Q5 Q3 hP hB2 hp2 hql hB
    refine ⟨⟨_, rfl⟩, .ref b, rfl, SX.S [10], b, (lineS szW (zs.map some) :: rs.map (lineS rtW)).map SX.S, rfl, rfl, join_l k8, join_n ?_, ?_⟩
    · have h1 := sum_le (k := 9000) (l := (lineS szW (zs.map some) :: rs.map (lineS rtW))) (fun y hy => by
        rcases List.mem_cons.mp hy with rfl | hy
        · exact lineS_len (by decide) (by rw [List.length_map]; omega) (smallE_z v.z2)
        · obtain ⟨r, hr9, rfl⟩ := List.mem_map.mp hy
          exact lineS_len (by decide) (by have := (v.r2 r hr9).2; omega) (smallE_r (by omega) (v.e r hr9)))
      have h2 : (lineS szW (zs.map some) :: rs.map (lineS rtW)).length = rs.length + 1 := by simp
      have h3 : ([10] : List Nat).length = 1 := rfl
      rw [h2] at h1 ⊢
      rw [h3]
      omega
    rw [SX.join_S]
    show gName 13 (.str (SX.S (planS zs rs))) _ _ _
    refine gName_nx ?_
    clear kb t3 k8
    -- the text of the state
    obtain ⟨ca, sh, hs1, hL⟩ := Q8.s.ex
    have f1 := ok.f.1
    have f2 := congrArg List.length ok.f.2
    rw [List.length_map, List.length_map] at f2
    have fs : ∀ x ∈ L.2, x.length ≤ 9 := fun x hx => by
      have h1 : x.length ∈ L.2.map List.length := List.mem_map.mpr ⟨x, hx, rfl⟩
      rw [ok.f.2] at h1
      obtain ⟨z, hz, e⟩ := List.mem_map.mp h1
      have := v.z2 z hz
      omega
    have p1 : ∀ x ∈ L.1, 1 ≤ x ∧ x ≤ 999 := fun x hx => ok.p.1 x (List.mem_append_left _ hx)
    have p2 : ∀ r ∈ L.2, ∀ x ∈ r, 1 ≤ x ∧ x ≤ 999 := fun r hr x hx => ok.p.1 x (List.mem_append_right _ (List.mem_flatten.mpr ⟨r, hr, hx⟩))
    have b9 : ∀ {z : Int}, 1 ≤ z ∧ z ≤ 999 → z.natAbs < 2 ^ 200 := fun {z} hz => Nat.lt_of_le_of_lt (show z.natAbs ≤ 999 by omega) (by decide)
    have st1 : SmallE [some t] := fun i hi => by
      have e := Option.some.inj (List.mem_singleton.mp hi)
      subst e
      exact Nat.lt_of_le_of_lt (show i.natAbs ≤ 1000000000000 by omega) (by decide)
    refine ⟨.ref st, rfl, st, _, 0, .int t, rfl, rfl, hs1, rfl, t, rfl, log_small (Nat.lt_of_le_of_lt (show t.natAbs ≤ 1000000000000 by omega) (by decide)), _, _, rfl, rfl, ?_, ?_⟩
    · rw [ent_str, SX.S_len]
      have := entS_len st1 _ List.mem_cons_self
      exact Nat.le_of_lt (small1000 (show 5 + (entS (some t)).length ≤ 1000 by omega))
    rw [time_str]
    refine ⟨⟨_, rfl⟩, (by show 1 ≤ sizeLine; decide), fun u1 hu1 => ?_⟩
    have t1 := same_upd (o := .lst [.str "carried"]) hu1
    have k1 : (upd G8 u1 (.lst [.str "carried"])) u1 = some (.lst [.str (SX.S caW)]) := upd_same
    generalize upd G8 u1 (.lst [.str "carried"]) = G9 at t1 k1 ⊢
    refine ⟨.ref st, rfl, st, _, 1, .ref ca, rfl, rfl, sqT_same t1 hs1, rfl, ca, rfl, ⟨_, sqT_same t1 hL.c⟩, fun D hD => strs_lc (j := 16) (show 16 < 18 by decide) (sqT_same t1 hL.c) (by omega) (fun z hz => b9 (p1 z hz)) hD fun G10 t2 k2 => ?_⟩
    refine ⟨u1, D, _, _, rfl, rfl, t2 _ _ k1, k2, ?_, fun u2 hu2 => ⟨SX.S [32], u2, (caW :: (L.1.map some).map entS).map SX.S, rfl, rfl, join_l upd_same, join_n (catW_go (Hp0 := 0) (by rw [List.length_map]; omega) (smallE_p p1) (by decide)), ?_⟩⟩
    · rw [List.length_map, List.length_map, List.length_map]
      exact Nat.le_of_lt (small1000 (show 1 + L.1.length ≤ 1000 by omega))
    rw [SX.join_S]
    have t3 := (t1.trans t2).trans (same_upd (o := .lst ([V.str (SX.S caW)] ++ ((L.1.map some).map entS).map fun a => V.str (SX.S a))) hu2)
    generalize upd G10 u2 (.lst ([V.str (SX.S caW)] ++ ((L.1.map some).map entS).map fun a => V.str (SX.S a))) = G11 at t3 ⊢
    refine ⟨(by show 2 ≤ sizeLine; decide), fun z hz => ?_⟩
    refine gName_nx ?_
    have t4 := t3.trans (same_upd (o := .lst [.str (SX.S (lineS tmW [some t])), .str (SX.S (TL.joinL [32] (caW :: (L.1.map some).map entS)))]) hz)
    have kz : (upd G11 z (.lst [.str (SX.S (lineS tmW [some t])), .str (SX.S (TL.joinL [32] (caW :: (L.1.map some).map entS)))])) z = some (.lst [.str (SX.S (lineS tmW [some t])), .str (SX.S (lineS caW (L.1.map some)))]) := upd_same
    generalize upd G11 z (.lst [.str (SX.S (lineS tmW [some t])), .str (SX.S (TL.joinL [32] (caW :: (L.1.map some).map entS)))]) = G12 at t4 kz ⊢
    have Q12 := Q8.sm t4
    clear t1 t2 t3 t4 k1 k2 hu1 hu2 hz hs1 hL Q8 hD
    obtain ⟨ca2, sh2, hs2, hL2⟩ := Q12.s.ex
    obtain ⟨qs, hS1, hS2⟩ := hL2.s
    refine ⟨⟨_, rfl⟩, .ref z, rfl, .ref st, rfl, st, _, 2, .ref sh2, rfl, rfl, hs2, rfl, sh2, rfl, ⟨_, hS1⟩, fun D hD => shelf_lc (show 17 < 18 by decide) hS1 hS2 (by omega) fs p2 hD fun G13 t2 k2 => ?_⟩
    refine ⟨z, D, _, _, rfl, rfl, t2 _ _ kz, k2, ?_, fun u2 hu2 => ⟨SX.S [10], u2, (lineS tmW [some t] :: lineS caW (L.1.map some) :: L.2.map fun s => lineS shW (s.map some)).map SX.S, rfl, rfl, join_l upd_same, join_n ?_, ?_⟩⟩
    · rw [List.length_map, List.length_map]
      exact Nat.le_of_lt (small1000 (show 2 + L.2.length ≤ 1000 by omega))
    · have h1 := sum_le (k := 9000) (l := (lineS tmW [some t] :: lineS caW (L.1.map some) :: L.2.map fun s => lineS shW (s.map some))) (fun y hy => by
        rcases List.mem_cons.mp hy with rfl | hy
        · exact lineS_len (by decide) (by show 1 ≤ 200; decide) st1
        rcases List.mem_cons.mp hy with rfl | hy
        · exact lineS_len (by decide) (by rw [List.length_map]; omega) (smallE_p p1)
        · obtain ⟨r, hr9, rfl⟩ := List.mem_map.mp hy
          exact lineS_len (by decide) (by rw [List.length_map]; have := fs r hr9; omega) (smallE_p (p2 r hr9)))
      have h2 : (lineS tmW [some t] :: lineS caW (L.1.map some) :: L.2.map fun s => lineS shW (s.map some)).length = L.2.length + 2 := by simp
      have h3 : ([10] : List Nat).length = 1 := rfl
      rw [h2] at h1 ⊢
      rw [h3]
      omega
    rw [SX.join_S]
    show gName 10 (.str (SX.S (stateS t L))) _ _ _
    refine gName_nx ?_
    have Q14 := Q12.sm (t2.trans (same_upd (o := .lst ([.str (SX.S (lineS tmW [some t])), .str (SX.S (lineS caW (L.1.map some)))] ++ (L.2.map fun s => lineS shW (s.map some)).map fun a => V.str (SX.S a))) hu2))
    generalize upd G13 u2 (.lst ([.str (SX.S (lineS tmW [some t])), .str (SX.S (lineS caW (L.1.map some)))] ++ (L.2.map fun s => lineS shW (s.map some)).map fun a => V.str (SX.S a))) = G14 at Q14 ⊢
    clear t2 k2 hu2 hD kz Q12 hS1 hS2 hs2 hL2 fs p1 p2 b9 st1 f1 f2
    -- both texts are the program's
    have bn := v.bad
    refine seq_if (or_go ⟨.ref p, rfl, p, zs, rs, rfl, Q14.p, v.small, fun _ G15 t15 => ⟨.str (SX.S (planS zs rs)), rfl, rfl, _, rfl, ne_str ?_⟩, (fun part i e => by rw [bn] at e; cases e)⟩)
    refine ⟨.ref p, rfl, .ref st, rfl, p, st, zs, rs, t, L, rfl, Q14.p.same t15, v, Q14.s.same t15, fun _ G16 t16 => ⟨.str (SX.S (stateS t L)), rfl, rfl, _, rfl, ne_str (tNext_nx ?_)⟩, fun no => absurd ok no⟩
    have Q16 := Q14.sm (t15.trans t16)
    clear Q14 t15 t16
    -- .. and are read back
    have xp := txb_plan v
    have xs := txb_state v ok
    have f1 := ok.f.1
    have f2 := congrArg List.length ok.f.2
    rw [List.length_map, List.length_map] at f2
    have fs : ∀ x ∈ L.2, x.length ≤ 9 := fun x hx => by
      have h1 : x.length ∈ L.2.map List.length := List.mem_map.mpr ⟨x, hx, rfl⟩
      rw [ok.f.2] at h1
      obtain ⟨z, hz, e⟩ := List.mem_map.mp h1
      have := v.z2 z hz
      omega
    have okp : okD 6 (dPlan (zs.map some) rs) = true := okD_plan7 v.small
    have oks : okD 6 (dSt t L) = true := okD_st (by omega) (by omega) fun x hx => by have := fs x hx; omega
    refine seq_if (or_go ⟨.str (SX.S (planS zs rs)), rfl, planS zs rs, rfl, xp.len900 (by decide), (fun i e => by rw [planR_planS v] at e; cases e), fun z2 r2 e => ?_⟩)
    rw [planR_planS v] at e
    injection e with e
    injection e with e1 e2
    obtain rfl := map_some_inj e1
    subst e2
    refine ⟨fun _ G17 p' t17 PA' => ⟨.ref p, rfl, .ref p', .ref p, _, rfl, dp_plan7 PA', dp_plan7 (Q16.p.same t17), okp, fun G18 t18 => ⟨true, rfl, ?_⟩⟩, fun part i e => by rw [bn] at e; cases e⟩
    have Q18 := Q16.sm (t17.trans t18)
    clear Q16 t17 t18 PA'
    refine ⟨.ref p, rfl, .str (SX.S (stateS t L)), rfl, p, stateS t L, zs, rs, rfl, Q18.p, v, xs.len900 (by decide), (fun i e => by rw [stateR_stateS ok] at e; cases e), fun t2 cs ss e => ?_⟩
    rw [stateR_stateS ok] at e
    injection e with e
    injection e with e1 e2
    injection e2 with e2 e3
    obtain rfl := e1
    obtain rfl := map_some_inj e2
    obtain rfl := map_some_inj2 e3
    refine ⟨fun _ G19 s' t19 SA' => ⟨.ref st, rfl, .ref s', .ref st, _, rfl, dp_state SA', dp_state (Q18.s.same t19), oks, fun G20 t20 => ⟨true, rfl, tNext_nx ?_⟩⟩, fun no => absurd ok no⟩
    have Q20 := Q18.sm (t19.trans t20)
    clear Q18 t19 t20 SA'
    clear f1 f2 fs
    -- one or two changes
    refine seq_ways2 (B := fun σ' H' => ∃ (a b : List Nat) (y6 : Option V), σ' = [some (.ref sc), some (.ref h), some (.int (0 + (k : Nat))), some (.ref st), some (.ref z), y5', y6, y7, y8, y9, some (.str (SX.S b)), some (.ref p), y12, some (.str (SX.S a)), none, none, none, none] ∧ LQ K [(Pt, lwQ)] h sc p st zs rs t L H' ∧ TxB 755 203 a ∧ TxB 755 203 b) (fun σ' G21 ⟨a, b, y6, eσ, Q21, xa, xb⟩ => ?_) (fun tail => ?_)
    rotate_left
    · refine ⟨.ref h, rfl, ?_⟩
      show qDrawn _ _ _ _ _
      refine go_drawn Q20.g.l (by decide) (by decide) fun u G21 hu L' x2 => ?_
      have Q21 := Q20.d ⟨Q20.g.l, L', x2⟩
      refine ⟨1, (u : Nat), rfl, rfl, 1 + (u : Int), rfl, by omega, by omega, ?_⟩
      refine for_range (lo := 0) (n := ((1 : Int) + (u : Nat)).toNat) (fun i σ H' => ∃ (a b : List Nat) (y6 : Option V), σ = [some (.ref sc), some (.ref h), some (.int (0 + (k : Nat))), some (.ref st), some (.ref z), y5', y6, y7, y8, y9, some (.str (SX.S b)), some (.ref p), y12, some (.str (SX.S a)), none, none, none, none] ∧ LQ K [(Pt, lwQ)] h sc p st zs rs t L H' ∧ TxB (nB i) (mB i) a ∧ TxB (nB i) (mB i) b) ⟨_, _, _, rfl, Q21, xp, xs⟩ (fun i σ G22 hi ⟨a, b, y6', eσ, Q22, xa, xb⟩ => ?_) (fun σ G22 ⟨a, b, y6', eσ, Q22, xa, xb⟩ => tail _ _ ⟨a, b, y6', eσ, Q22, ?_, ?_⟩)
      · subst eσ
        have hb2 : nB i ≤ 800 ∧ mB i ≤ 300 := by
          have : i = 0 ∨ i = 1 := by omega
          rcases this with rfl | rfl
          · exact ⟨by decide, by decide⟩
          · exact ⟨by decide, by decide⟩
        refine ⟨.ref h, rfl, .str (SX.S a), rfl, h, sc, a, nB i, mB i, rfl, Q22.g.l, xa, hb2.1, hb2.2, fun G23 a' d23 xa' => ?_⟩
        have Q23 := Q22.d d23
        refine ⟨.ref h, rfl, .str (SX.S b), rfl, h, sc, b, nB i, mB i, rfl, Q23.g.l, xb, hb2.1, hb2.2, fun G24 b' d24 xb' => ?_⟩
        have Q24 := Q23.d d24
        refine ⟨(by show 2 ≤ sizeLine; decide), fun w hw => ?_⟩
        have Q25 := Q24.sm (same_upd (o := .tup [.str (SX.S a'), .str (SX.S b')]) hw)
        exact ⟨w, _, rfl, .inl (.inl upd_same), rfl, _, _, rfl, _, _, rfl, rfl, a', b', _, rfl, Q25, xa', xb'⟩
      · exact xa.mono (by have : ((1 : Int) + (u : Nat)).toNat = 1 ∨ ((1 : Int) + (u : Nat)).toNat = 2 := by omega
                          rcases this with e | e <;> rw [e] <;> decide) (by have : ((1 : Int) + (u : Nat)).toNat = 1 ∨ ((1 : Int) + (u : Nat)).toNat = 2 := by omega
                                                                            rcases this with e | e <;> rw [e] <;> decide)
      · exact xb.mono (by have : ((1 : Int) + (u : Nat)).toNat = 1 ∨ ((1 : Int) + (u : Nat)).toNat = 2 := by omega
                          rcases this with e | e <;> rw [e] <;> decide) (by have : ((1 : Int) + (u : Nat)).toNat = 1 ∨ ((1 : Int) + (u : Nat)).toNat = 2 := by omega
                                                                            rcases this with e | e <;> rw [e] <;> decide)
    subst eσ
    clear Q20 xp xs okp
    -- both readings of the changed texts
    refine seq_if ⟨Q21.g.t, fun H1 e1 _ tt => ⟨_, rfl, out_plan (xa.len900 (by decide)) fun H2 x s2 dx ox => ⟨.str (SX.S a), rfl, a, rfl, xa.len900 (by decide), (fun l hl => Nat.le_trans (xa.m l hl) (by decide)), xa.c, fun H3 p' s3 d3 => ⟨x, .ref p', planD a, rfl, dp_same s3 _ _ dx, by rw [planD_F]; exact d3, ox, fun H4 s4 => ⟨true, rfl, tNext_nx ?_⟩⟩⟩⟩⟩
    have Q22 := (Q21.n e1 tt).sm (s2.trans (s3.trans s4))
    clear Q21 e1 tt s2 s3 s4 d3 dx ox
    refine seq_if ⟨Q22.g.t, fun H1 e1 _ tt => ⟨_, _, rfl, out_state (Q22.n e1 tt).p v (xb.len900 (by decide)) fun H2 x s2 dx ox => ⟨.ref p, rfl, .str (SX.S b), rfl, p, b, zs, rs, rfl, (Q22.n e1 tt).p.same s2, v, xb.len900 (by decide), (fun l hl => Nat.le_trans (xb.m l hl) (by decide)), xb.c, fun H3 p' s3 d3 => ⟨x, .ref p', stD zs rs b, rfl, dp_same s3 _ _ dx, by rw [stD_F]; exact d3, ox, fun H4 s4 => ⟨true, rfl, tNext_nx ?_⟩⟩⟩⟩⟩
    have Q23 := (Q22.n e1 tt).sm (s2.trans (s3.trans s4))
    clear Q22 e1 tt s2 s3 s4 d3 dx ox
    -- a small plan
    refine ⟨(by show 1 ≤ sizeLine; decide), fun q1 h1 => ⟨(by show 1 ≤ sizeLine; decide), fun q2 h2 => ⟨(by show 1 ≤ sizeLine; decide), fun q3 h3 => ⟨(by show 2 ≤ sizeLine; decide), fun q4 h4 => gName_nx ?_⟩⟩⟩⟩
    have s1 := same_upd (o := .tup [.int 1]) h1
    have s2 := same_upd (o := .tup [.int 0]) h2
    have s3 := same_upd (o := .tup [.ref q2]) h3
    have s4 := same_upd (o := .tup [.ref q1, .ref q3]) h4
    have Q24 := Q23.sm (s1.trans (s2.trans (s3.trans s4)))
    have PS : PlanAt K (upd (upd (upd (upd H4 q1 (.tup [.int 1])) q2 (.tup [.int 0])) q3 (.tup [.ref q2])) q4 (.tup [.ref q1, .ref q3])) q4 [1] [[some 0]] :=
      ⟨q1, q3, .inl (.inl upd_same), .inl (.inl (s4 _ _ (s3 _ _ (s2 _ _ upd_same)))), ⟨[q2], .inl (.inl (s4 _ _ upd_same)), .cons (.inl (.inl (s4 _ _ (s3 _ _ upd_same)))) .nil⟩⟩
    generalize upd (upd (upd (upd H4 q1 (.tup [.int 1])) q2 (.tup [.int 0])) q3 (.tup [.ref q2])) q4 (.tup [.ref q1, .ref q3]) = G24 at Q24 PS ⊢
    clear s1 s2 s3 s4 h1 h2 h3 h4 Q23
    -- the five texts
    refine ⟨(by show 3 ≤ sizeLine; decide), fun l1 hl1 => gName_nx ?_⟩
    have s1 := same_upd (o := .lst [.str "time 1\ncarried 1\nshelf 2\n", .str "time 1 1\ncarried 1\nshelf 2", .str "time -0\ncarried 1\nshelf 2"]) hl1
    have k1 : (upd G24 l1 (.lst [.str "time 1\ncarried 1\nshelf 2\n", .str "time 1 1\ncarried 1\nshelf 2", .str "time -0\ncarried 1\nshelf 2"])) l1 = some (.lst ((fiveT.take 3).map fun a => V.str (SX.S a))) := upd_same
    generalize upd G24 l1 (.lst [.str "time 1\ncarried 1\nshelf 2\n", .str "time 1 1\ncarried 1\nshelf 2", .str "time -0\ncarried 1\nshelf 2"]) = G25 at s1 k1 ⊢
    refine ⟨.ref l1, rfl, 57, 31, rfl, rfl, by decide, by decide, _, _, rfl, rfl, ?_, _, _, rfl, rfl, ?_, (by show 2 ≤ sizeLine; decide), fun l2 hl2 => ?_⟩
    · exact Nat.le_of_lt (small1000 (by decide))
    · exact Nat.le_of_lt (small1000 (by decide))
    have s2 := same_upd (o := .lst [.str "time 1\ncarried 1\nshelf 1", .str ((Str.ofString "time " ++ SX.S (List.replicate 31 57)) ++ Str.ofString "\ncarried 1\nshelf 2")]) hl2
    have k2 : (upd G25 l2 (.lst [.str "time 1\ncarried 1\nshelf 1", .str ((Str.ofString "time " ++ SX.S (List.replicate 31 57)) ++ Str.ofString "\ncarried 1\nshelf 2")])) l2 = some (.lst ((fiveT.drop 3).map fun a => V.str (SX.S a))) := by
      rw [upd_same]
      rfl
    generalize upd G25 l2 (.lst [.str "time 1\ncarried 1\nshelf 1", .str ((Str.ofString "time " ++ SX.S (List.replicate 31 57)) ++ Str.ofString "\ncarried 1\nshelf 2")]) = G26 at s2 k2 ⊢
    refine ⟨l1, l2, _, _, rfl, rfl, s2 _ _ k1, k2, (by show 5 ≤ sizeLine; exact Nat.le_of_lt (small1000 (by decide))), fun l3 hl3 => gName_nx ?_⟩
    have s3 := same_upd (o := .lst (((fiveT.take 3).map fun a => V.str (SX.S a)) ++ (fiveT.drop 3).map fun a => V.str (SX.S a))) hl3
    have k3 : (upd G26 l3 (.lst (((fiveT.take 3).map fun a => V.str (SX.S a)) ++ (fiveT.drop 3).map fun a => V.str (SX.S a)))) l3 = some (.lst (fiveT.map fun a => V.str (SX.S a))) := upd_same
    have Q27 := Q24.sm (s1.trans (s2.trans s3))
    have PS27 := PS.same (s1.trans (s2.trans s3))
    generalize upd G26 l3 (.lst (((fiveT.take 3).map fun a => V.str (SX.S a)) ++ (fiveT.drop 3).map fun a => V.str (SX.S a))) = G27 at Q27 PS27 k3 ⊢
    clear s1 s2 s3 k1 k2 hl1 hl2 hl3 PS Q24
    -- what is said of each
    refine ⟨.ref l3, rfl, l3, rfl, ⟨_, .inl (.inl k3)⟩, fun D hD => lc_list (xs := fiveT.map fun a => V.str (SX.S a)) (fun i G => ExtN G27 G ∧ Tabs [(Pt, lwQ)] G ∧ ∃ qs : List Addr, qs.length = i ∧ G D = some (.lst (qs.map V.ref)) ∧ Paired (fun q s => SqT K G q s) qs ((fiveT.map vS).take i)) ⟨fun b o q _ => same_upd hD b o q, Q27.g.t.ext (same_upd hD), [], rfl, upd_same, .nil⟩ (fun _ G _ g => .inl (.inl (g.1 _ _ k3 (fun _ z => nomatch z)))) (fun i x G hx ⟨e5, t5, qs, hq, kD, hP⟩ => ?_) (fun G ⟨e5, t5, qs, hq, kD, hP⟩ => ?_)⟩
    · rw [List.getElem?_map] at hx
      obtain ⟨a5, ha5, rfl⟩ : ∃ a5, fiveT[i]? = some a5 ∧ x = V.str (SX.S a5) := by
        cases hf : fiveT[i]? with
        | none => rw [hf] at hx; cases hx
        | some a5 => rw [hf] at hx; exact ⟨a5, rfl, (Option.some.inj hx).symm⟩
      have il := (List.getElem?_eq_some_iff.mp ha5).1
      have il5 : i < 5 := il
      obtain ⟨hl9, hno⟩ := five_no i a5 ha5
      refine ⟨rfl, yes_go ⟨t5, fun H1 e1 _ t1 => ⟨_, _, rfl, out_vs ((plan_ex (fun _ _ => sqT_exn (extn_trans e5 e1)) PS27)) smallV hl9 hno fun H2 q s2 h2 => ⟨_, s2 _ _ (e1 _ _ kD (fun _ z => nomatch z)), ?_, ?_, ?_, qs ++ [q], ?_, ?_, ?_⟩⟩⟩⟩
      · rw [List.length_map, hq]
        exact small1000 (by omega)
      · exact extn_upd (extn_same (extn_trans e5 e1) s2) hD
      · exact tabs_upd7 (s2 _ _ (e1 _ _ kD (fun _ z => nomatch z))) (t1.ext s2)
      · rw [List.length_append, hq]
        rfl
      · rw [upd_same, List.map_append]
        rfl
      · have hv : (fiveT.map vS)[i]? = some (vS a5) := by rw [List.getElem?_map, ha5]; rfl
        rw [List.take_add_one, hv]
        have nq : q ≠ D := fun z => by
          rw [z, s2 _ _ (e1 _ _ kD (fun _ z => nomatch z))] at h2
          cases h2
        refine tups_snoc (.inl (.inl ?_)) (tups_imp (fun a xs => sqT_exD kD ((EX.n e1).trans ((EX.s s2).trans (fun b o hb hbo _ => ?_)))) hP)
        · rw [upd_ne nq]
          exact h2
        · rw [upd_ne hb]
          exact hbo
    have Q28 := Q27.n e5 t5
    clear Q27
    refine gName_nx ?_
    -- what is due
    have kDp : Dp K G (.ref D) dFive := dp_five kD (by
      have : (fiveT.map fun a => V.str (SX.S a)).length = 5 := rfl
      rw [this, five_vs] at hP
      exact hP)
    clear hP kD hq t5 e5 hD
    refine ⟨(by show 2 ≤ sizeLine; decide), fun u1 h1 => ⟨(by show 2 ≤ sizeLine; decide), fun u2 h2 => ⟨(by show 2 ≤ sizeLine; decide), fun u3 h3 => ⟨(by show 1 ≤ sizeLine; decide), fun u4 h4 => ⟨(by show 1 ≤ sizeLine; decide), fun u5 h5 => ⟨(by show 5 ≤ sizeLine; decide), fun el hel => gName_nx ?_⟩⟩⟩⟩⟩⟩
    have s1 := same_upd (o := .tup [.str "InvalidText", .int 3]) h1
    have s2 := same_upd (o := .tup [.str "InvalidText", .int 0]) h2
    have s3 := same_upd (o := .tup [.str "InvalidText", .int 0]) h3
    have s4 := same_upd (o := .tup [.str "InvalidState"]) h4
    have s5 := same_upd (o := .tup [.str "InvalidState"]) h5
    have s6 := same_upd (o := .lst [.ref u1, .ref u2, .ref u3, .ref u4, .ref u5]) hel
    have s56 := s5.trans s6
    have s46 := s4.trans s56
    have s36 := s3.trans s46
    have s26 := s2.trans s36
    have Q29 := Q28.sm (s1.trans s26)
    have kEl := dp_five (K := K) (qs := [u1, u2, u3, u4, u5]) (upd_same (o := .lst [.ref u1, .ref u2, .ref u3, .ref u4, .ref u5])) (.cons (.inl (.inl (s26 _ _ (upd_same (o := .tup [.str "InvalidText", .int 3]))))) (.cons (.inl (.inl (s36 _ _ (upd_same (o := .tup [.str "InvalidText", .int 0]))))) (.cons (.inl (.inl (s46 _ _ (upd_same (o := .tup [.str "InvalidText", .int 0]))))) (.cons (.inl (.inl (s56 _ _ (upd_same (o := .tup [.str "InvalidState"]))))) (.cons (.inl (.inl (s6 _ _ (upd_same (o := .tup [.str "InvalidState"]))))) .nil)))))
    have kD2 := dp_same (s1.trans s26) _ _ kDp
    generalize upd (upd (upd (upd (upd (upd G u1 (.tup [.str "InvalidText", .int 3])) u2 (.tup [.str "InvalidText", .int 0])) u3 (.tup [.str "InvalidText", .int 0])) u4 (.tup [.str "InvalidState"])) u5 (.tup [.str "InvalidState"])) el (.lst [.ref u1, .ref u2, .ref u3, .ref u4, .ref u5]) = G30 at Q29 kEl kD2 ⊢
    clear s1 s2 s3 s4 s5 s6 s56 s46 s36 s26 h1 h2 h3 h4 h5 hel kDp Q28
    refine seq_if (or_go ⟨.ref D, rfl, .ref el, rfl, ne_same kD2 kEl pld_five (n := 6) (by rfl) (by decide) ⟨false, rfl, iteF ?_⟩⟩)
    refine ⟨Q29.g.t, fun H1 e1 _ tt => ⟨rfl, fun H2 pp s2 PA => out_fp PA fun H3 x s3 hx => ?_⟩⟩
    have Q30 := (Q29.n e1 tt).sm (s2.trans s3)
    clear Q29 e1 tt s2 s3 kD2 kEl PA
    refine ⟨0, 1, rfl, rfl, (by show 3 ≤ sizeLine; decide), fun u hu => ?_⟩
    have s1 := same_upd (o := .tup [.str "InvalidPlan", .str "sizes", .int (-1)]) hu
    have d1 : Dp K (upd H3 u (.tup [.str "InvalidPlan", .str "sizes", .int (-1)])) (.ref x) (dBad "sizes" (-1)) := .tup (.inl (.inl (s1 _ _ hx))) (.cons (.str _) (.cons (.str _) (.cons (.int _) .nil)))
    have d2 : Dp K (upd H3 u (.tup [.str "InvalidPlan", .str "sizes", .int (-1)])) (.ref u) (dBad "sizes" (-1)) := .tup (.inl (.inl upd_same)) (.cons (.str _) (.cons (.str _) (.cons (.int _) .nil)))
    refine ne_same d1 d2 pld_bad (n := 6) (okD_bad _ _) (by decide) ⟨false, rfl, iteF (tNext_nx ?_)⟩
    have Q31 := Q30.sm s1
    clear Q30 s1 d1 d2 hx hu
    refine if_go ⟨Q31.g.t, fun H1 e1 _ tt => ⟨_, rfl, fun H2 ss s2 SA => out_fs ((Q31.n e1 tt).p.same s2) v SA fun H3 x s3 hx => ⟨(by show 1 ≤ sizeLine; decide), fun u hu => ?_⟩⟩⟩
    have Q32 := (Q31.n e1 tt).sm (s2.trans s3)
    have s4 := same_upd (o := .tup [.str "InvalidState"]) hu
    have d1 : Dp K (upd H3 u (.tup [.str "InvalidState"])) (.ref x) dNoSt := .tup (.inl (.inl (s4 _ _ hx))) (.cons (.str _) .nil)
    have d2 : Dp K (upd H3 u (.tup [.str "InvalidState"])) (.ref u) dNoSt := .tup (.inl (.inl upd_same)) (.cons (.str _) .nil)
    exact ne_same d1 d2 pld_nost (n := 6) (by rfl) (by decide) ⟨false, rfl, iteF (tNext_nx ⟨⟨_, _, _, _, _, _, _, _, _, _, _, _, rfl⟩, (Q32.sm s4).g⟩)⟩
end
end Sv
set_option maxHeartbeats 8000000
namespace Sv
open PySem PySem.Spec PyProof.Rows L2 LamX NdefX
theorem walk_ofTsX {l : PySem.W.OpenLaw} {n k : Nat} {q : Program} {loose : List Str} {XP : (Str → Option Value) → Heap → Prop} {YP : World → Heap → Prop} {d : DefRec} {K : Params → PySem.W.Frag} {CX : World → CXT} {x : Str}
    (hn : l.most = some n) (hn2 : n ≤ sizeLine) (hdf : d.params.defaults = []) (hr : Room k callerA) (hY : ∀ (w : World) (h : Heap), YP w h → (K w.params).In h)
    (F : ∀ (w : World) (mg : Str → Option Value) (fa : Addr) (h : Heap), XP mg h → YP w h → (K w.params).In h → h.Ns mainGlobals mg → mg d.name = some (.ref fa) → LawAtS l w (K w.params) (CX w) k n x mg fa h)
    (hCX : ∀ (w : World) (H : Hp) (s : Shared) (e : Value) (s' : Shared), CX w [] H s (fun _ _ _ => False) e s' → False) :
    PySem.W.WalkO q loose XP YP l.row.toRowW d [] (fun f vs => PySem.call f vs) := by
  refine Att.attach_callB hn hdf fun w s₀ s₁ mg mb fa o pm cd doc a vs ns G Y ho hd hcd hmg hobj hints hlen hbits hg => ?_
  have KX := hY w _ Y
  obtain ⟨fd, cs, sp, hT, nT, C, hb, hsp, hF⟩ := F w mg fa _ G.X Y KX G.T.g hmg
  exact law_callTs KX G.T.g G.T.b G.T.builtins G.T.nolimit hg hT nT C G.T.bmain hobj hints (Nat.le_trans hlen hn2) hr hF hb (fun H hH hS => hsp H a ns hlen hbits hH hS) fun H e s' => hCX w H s₁ e s'
section
variable {K : PySem.W.Frag} {h : Heap} {mg : Str → Option Value}
theorem df_mk {x : Str} {st : Stmt} {f : Addr} {oc : Value} {od an : Option Addr} {osl : Array (Option Value)} {kV doc pm cdv ct : Value} {ps : List Str} (X : K.In h) (G : h.Ns mainGlobals mg) (a : PySem.W.nsIn K mainGlobals x = some (some (.ref f)))
    (l : K.lookup f = some ⟨oc, od, .func (PySem.W.fnOf x x (defArgs st) (defBody st) (defScope st) .none kV doc pm an cdv ct), osl⟩) (c : PySem.W.codeIn K cdv x = true) (k : PySem.W.keepIn K (.ref f) = true)
    (b : ∀ (kV doc pm : Value) (an : Option Addr) (cdv ct : Value) (us : List Value), us.length = ps.length → bindArgs (PySem.W.fnOf x x (defArgs st) (defBody st) (defScope st) .none kV doc pm an cdv ct) ⟨us, []⟩ = pure (ps.zip us)) :
    Df K mg x st ps f (PySem.W.fnOf x x (defArgs st) (defBody st) (defScope st) .none kV doc pm an cdv ct) := ⟨fun_mk l c k, (fun_mk l c k).binds b, PySem.W.mg_of X G a⟩
theorem lstN1 {fd : FuncData} {n0 : Str} (h : ∀ a0 : Value, bindArgs fd { pos := [a0] } = pure (([n0] : List Str).zip [a0])) : ∀ us : List Value, us.length = 1 → bindArgs fd { pos := us } = pure (([n0] : List Str).zip us)
  | [a0], _ => h a0
theorem lstN2 {fd : FuncData} {n0 n1 : Str} (h : ∀ a0 a1 : Value, bindArgs fd { pos := [a0, a1] } = pure (([n0, n1] : List Str).zip [a0, a1])) : ∀ us : List Value, us.length = 2 → bindArgs fd { pos := us } = pure (([n0, n1] : List Str).zip us)
  | [a0, a1], _ => h a0 a1
theorem lstN3 {fd : FuncData} {n0 n1 n2 : Str} (h : ∀ a0 a1 a2 : Value, bindArgs fd { pos := [a0, a1, a2] } = pure (([n0, n1, n2] : List Str).zip [a0, a1, a2])) : ∀ us : List Value, us.length = 3 → bindArgs fd { pos := us } = pure (([n0, n1, n2] : List Str).zip us)
  | [a0, a1, a2], _ => h a0 a1 a2
theorem all_mk {P : Program} {w : World} {fa : Addr} {fWithin : Addr} {ocWithin kVWithin dcWithin pmWithin cdWithin ctWithin : Value} {odWithin anWithin : Option Addr} {slWithin : Array (Option Value)}
    {fCheckPlan : Addr} {ocCheckPlan kVCheckPlan dcCheckPlan pmCheckPlan cdCheckPlan ctCheckPlan : Value} {odCheckPlan anCheckPlan : Option Addr} {slCheckPlan : Array (Option Value)}
    {fCheckSizes : Addr} {ocCheckSizes kVCheckSizes dcCheckSizes pmCheckSizes cdCheckSizes ctCheckSizes : Value} {odCheckSizes anCheckSizes : Option Addr} {slCheckSizes : Array (Option Value)}
    {fCheckRoutes : Addr} {ocCheckRoutes kVCheckRoutes dcCheckRoutes pmCheckRoutes cdCheckRoutes ctCheckRoutes : Value} {odCheckRoutes anCheckRoutes : Option Addr} {slCheckRoutes : Array (Option Value)}
    {fIsRoute : Addr} {ocIsRoute kVIsRoute dcIsRoute pmIsRoute cdIsRoute ctIsRoute : Value} {odIsRoute anIsRoute : Option Addr} {slIsRoute : Array (Option Value)}
    {fJoin : Addr} {ocJoin kVJoin dcJoin pmJoin cdJoin ctJoin : Value} {odJoin anJoin : Option Addr} {slJoin : Array (Option Value)}
    {fCheckState : Addr} {ocCheckState kVCheckState dcCheckState pmCheckState cdCheckState ctCheckState : Value} {odCheckState anCheckState : Option Addr} {slCheckState : Array (Option Value)}
    {fFits : Addr} {ocFits kVFits dcFits pmFits cdFits ctFits : Value} {odFits anFits : Option Addr} {slFits : Array (Option Value)}
    {fTupOf : Addr} {ocTupOf kVTupOf dcTupOf pmTupOf cdTupOf ctTupOf : Value} {odTupOf anTupOf : Option Addr} {slTupOf : Array (Option Value)}
    {fParcels : Addr} {ocParcels kVParcels dcParcels pmParcels cdParcels ctParcels : Value} {odParcels anParcels : Option Addr} {slParcels : Array (Option Value)}
    {fFormatPlan : Addr} {ocFormatPlan kVFormatPlan dcFormatPlan pmFormatPlan cdFormatPlan ctFormatPlan : Value} {odFormatPlan anFormatPlan : Option Addr} {slFormatPlan : Array (Option Value)}
    {fParsePlan : Addr} {ocParsePlan kVParsePlan dcParsePlan pmParsePlan cdParsePlan ctParsePlan : Value} {odParsePlan anParsePlan : Option Addr} {slParsePlan : Array (Option Value)}
    {fFormatState : Addr} {ocFormatState kVFormatState dcFormatState pmFormatState cdFormatState ctFormatState : Value} {odFormatState anFormatState : Option Addr} {slFormatState : Array (Option Value)}
    {fParseState : Addr} {ocParseState kVParseState dcParseState pmParseState cdParseState ctParseState : Value} {odParseState anParseState : Option Addr} {slParseState : Array (Option Value)}
    {fLineOf : Addr} {ocLineOf kVLineOf dcLineOf pmLineOf cdLineOf ctLineOf : Value} {odLineOf anLineOf : Option Addr} {slLineOf : Array (Option Value)}
    {fTextOfEntry : Addr} {ocTextOfEntry kVTextOfEntry dcTextOfEntry pmTextOfEntry cdTextOfEntry ctTextOfEntry : Value} {odTextOfEntry anTextOfEntry : Option Addr} {slTextOfEntry : Array (Option Value)}
    {fItemsOfLine : Addr} {ocItemsOfLine kVItemsOfLine dcItemsOfLine pmItemsOfLine cdItemsOfLine ctItemsOfLine : Value} {odItemsOfLine anItemsOfLine : Option Addr} {slItemsOfLine : Array (Option Value)}
    {fItemOfText : Addr} {ocItemOfText kVItemOfText dcItemOfText pmItemOfText cdItemOfText ctItemOfText : Value} {odItemOfText anItemOfText : Option Addr} {slItemOfText : Array (Option Value)}
    {fTimeOfLine : Addr} {ocTimeOfLine kVTimeOfLine dcTimeOfLine pmTimeOfLine cdTimeOfLine ctTimeOfLine : Value} {odTimeOfLine anTimeOfLine : Option Addr} {slTimeOfLine : Array (Option Value)}
    {fIsNumber : Addr} {ocIsNumber kVIsNumber dcIsNumber pmIsNumber cdIsNumber ctIsNumber : Value} {odIsNumber anIsNumber : Option Addr} {slIsNumber : Array (Option Value)}
    {fNumberOfText : Addr} {ocNumberOfText kVNumberOfText dcNumberOfText pmNumberOfText cdNumberOfText ctNumberOfText : Value} {odNumberOfText anNumberOfText : Option Addr} {slNumberOfText : Array (Option Value)}
    {fLStart : Addr} {ocLStart kVLStart dcLStart pmLStart cdLStart ctLStart : Value} {odLStart anLStart : Option Addr} {slLStart : Array (Option Value)}
    {fLDrawn : Addr} {ocLDrawn kVLDrawn dcLDrawn pmLDrawn cdLDrawn ctLDrawn : Value} {odLDrawn anLDrawn : Option Addr} {slLDrawn : Array (Option Value)}
    {fLSame : Addr} {ocLSame kVLSame dcLSame pmLSame cdLSame ctLSame : Value} {odLSame anLSame : Option Addr} {slLSame : Array (Option Value)}
    {fLOutcome : Addr} {ocLOutcome kVLOutcome dcLOutcome pmLOutcome cdLOutcome ctLOutcome : Value} {odLOutcome anLOutcome : Option Addr} {slLOutcome : Array (Option Value)}
    {fLRndPlan : Addr} {ocLRndPlan kVLRndPlan dcLRndPlan pmLRndPlan cdLRndPlan ctLRndPlan : Value} {odLRndPlan anLRndPlan : Option Addr} {slLRndPlan : Array (Option Value)}
    {fLRndRoute : Addr} {ocLRndRoute kVLRndRoute dcLRndRoute pmLRndRoute cdLRndRoute ctLRndRoute : Value} {odLRndRoute anLRndRoute : Option Addr} {slLRndRoute : Array (Option Value)}
    {fLRndState : Addr} {ocLRndState kVLRndState dcLRndState pmLRndState cdLRndState ctLRndState : Value} {odLRndState anLRndState : Option Addr} {slLRndState : Array (Option Value)}
    {fLInteger : Addr} {ocLInteger kVLInteger dcLInteger pmLInteger cdLInteger ctLInteger : Value} {odLInteger anLInteger : Option Addr} {slLInteger : Array (Option Value)}
    {fLPlanOf : Addr} {ocLPlanOf kVLPlanOf dcLPlanOf pmLPlanOf cdLPlanOf ctLPlanOf : Value} {odLPlanOf anLPlanOf : Option Addr} {slLPlanOf : Array (Option Value)}
    {fLStOf : Addr} {ocLStOf kVLStOf dcLStOf pmLStOf cdLStOf ctLStOf : Value} {odLStOf anLStOf : Option Addr} {slLStOf : Array (Option Value)}
    {fLChanged : Addr} {ocLChanged kVLChanged dcLChanged pmLChanged cdLChanged ctLChanged : Value} {odLChanged anLChanged : Option Addr} {slLChanged : Array (Option Value)}
    {fLaw : Addr} {ocLaw kVLaw dcLaw pmLaw cdLaw ctLaw : Value} {odLaw anLaw : Option Addr} {slLaw : Array (Option Value)}
    {tm1 : Tok}
    {tm2 : Tok}
    {tm3 : Tok}
    {tm4 : Tok}
    {tlP : Tok}
    {tdg : Tok}
    {tden : Tok}
    {C0 C1 : Addr}
    {pnm pq : Str} {pN : Addr} {pbs pbm : List Value} {psn : List Str} {psub : List Value} {pab : Bool} {pcol : Option Bool} {pdd : Option Addr} {pk0 pk1 pk2 pk3 pk5 : Option Value}
    {fI cc c0 : Addr} {ocI docI pmI ctI : Value} {odI : Option Addr} {slI : Array (Option Value)}
    {ccl : Value} {ccd : Option Addr} {ccs : Array (Option Value)}
    {kcl : Value} {kcd : Option Addr} {kvs : Array Value} {kcs : Array (Option Value)} {kfl : Str} {ktf : Tok}
    {CT : Addr} {vnm vq : Str} {vN : Addr} {vbs vbm : List Value} {vsn : List Str} {vsub : List Value} {vab : Bool} {vcol : Option Bool} {vdd : Option Addr} {vk0 vk1 vk2 vk3 vk5 : Option Value}
    {fT ccv c0v : Addr} {ocT docT pmT ctT : Value} {odT : Option Addr} {slT : Array (Option Value)}
    {vccl : Value} {vccd : Option Addr} {vccs : Array (Option Value)}
    {vkcl : Value} {vkcd : Option Addr} {vkvs : Array Value} {vkcs : Array (Option Value)} {vkfl : Str} {vktf : Tok}
    {c Pt : Addr} (X : K.In h) (G : h.Ns mainGlobals mg) (hfa : mg "law" = some (.ref fa)) (hPt : h.get? Pt = some { cls := .none, data := .fields #[] }) (htlim : ∃ t, mg "TIME_LIMIT" = some (.int 1000000000000000000000000000000 t))
    (aWithin : PySem.W.nsIn K mainGlobals "is_within" = some (some (.ref fWithin)))
    (lWithin : K.lookup fWithin = some ⟨ocWithin, odWithin, .func (PySem.W.fnOf "is_within" "is_within" (defArgs sWithin) (defBody sWithin) (defScope sWithin) .none kVWithin dcWithin pmWithin anWithin cdWithin ctWithin), slWithin⟩)
    (cWithin : PySem.W.codeIn K cdWithin "is_within" = true)
    (kWithin : PySem.W.keepIn K (.ref fWithin) = true)
    (aCheckPlan : PySem.W.nsIn K mainGlobals "check_plan" = some (some (.ref fCheckPlan)))
    (lCheckPlan : K.lookup fCheckPlan = some ⟨ocCheckPlan, odCheckPlan, .func (PySem.W.fnOf "check_plan" "check_plan" (defArgs sCheckPlan) (defBody sCheckPlan) (defScope sCheckPlan) .none kVCheckPlan dcCheckPlan pmCheckPlan anCheckPlan cdCheckPlan ctCheckPlan), slCheckPlan⟩)
    (cCheckPlan : PySem.W.codeIn K cdCheckPlan "check_plan" = true)
    (kCheckPlan : PySem.W.keepIn K (.ref fCheckPlan) = true)
    (aCheckSizes : PySem.W.nsIn K mainGlobals "check_sizes" = some (some (.ref fCheckSizes)))
    (lCheckSizes : K.lookup fCheckSizes = some ⟨ocCheckSizes, odCheckSizes, .func (PySem.W.fnOf "check_sizes" "check_sizes" (defArgs sCheckSizes) (defBody sCheckSizes) (defScope sCheckSizes) .none kVCheckSizes dcCheckSizes pmCheckSizes anCheckSizes cdCheckSizes ctCheckSizes), slCheckSizes⟩)
    (cCheckSizes : PySem.W.codeIn K cdCheckSizes "check_sizes" = true)
    (kCheckSizes : PySem.W.keepIn K (.ref fCheckSizes) = true)
    (aCheckRoutes : PySem.W.nsIn K mainGlobals "check_routes" = some (some (.ref fCheckRoutes)))
    (lCheckRoutes : K.lookup fCheckRoutes = some ⟨ocCheckRoutes, odCheckRoutes, .func (PySem.W.fnOf "check_routes" "check_routes" (defArgs sCheckRoutes) (defBody sCheckRoutes) (defScope sCheckRoutes) .none kVCheckRoutes dcCheckRoutes pmCheckRoutes anCheckRoutes cdCheckRoutes ctCheckRoutes), slCheckRoutes⟩)
    (cCheckRoutes : PySem.W.codeIn K cdCheckRoutes "check_routes" = true)
    (kCheckRoutes : PySem.W.keepIn K (.ref fCheckRoutes) = true)
    (aIsRoute : PySem.W.nsIn K mainGlobals "is_route" = some (some (.ref fIsRoute)))
    (lIsRoute : K.lookup fIsRoute = some ⟨ocIsRoute, odIsRoute, .func (PySem.W.fnOf "is_route" "is_route" (defArgs sIsRoute) (defBody sIsRoute) (defScope sIsRoute) .none kVIsRoute dcIsRoute pmIsRoute anIsRoute cdIsRoute ctIsRoute), slIsRoute⟩)
    (cIsRoute : PySem.W.codeIn K cdIsRoute "is_route" = true)
    (kIsRoute : PySem.W.keepIn K (.ref fIsRoute) = true)
    (aJoin : PySem.W.nsIn K mainGlobals "join_layout" = some (some (.ref fJoin)))
    (lJoin : K.lookup fJoin = some ⟨ocJoin, odJoin, .func (PySem.W.fnOf "join_layout" "join_layout" (defArgs sJoin) (defBody sJoin) (defScope sJoin) .none kVJoin dcJoin pmJoin anJoin cdJoin ctJoin), slJoin⟩)
    (cJoin : PySem.W.codeIn K cdJoin "join_layout" = true)
    (kJoin : PySem.W.keepIn K (.ref fJoin) = true)
    (aCheckState : PySem.W.nsIn K mainGlobals "check_state" = some (some (.ref fCheckState)))
    (lCheckState : K.lookup fCheckState = some ⟨ocCheckState, odCheckState, .func (PySem.W.fnOf "check_state" "check_state" (defArgs sCheckState) (defBody sCheckState) (defScope sCheckState) .none kVCheckState dcCheckState pmCheckState anCheckState cdCheckState ctCheckState), slCheckState⟩)
    (cCheckState : PySem.W.codeIn K cdCheckState "check_state" = true)
    (kCheckState : PySem.W.keepIn K (.ref fCheckState) = true)
    (aFits : PySem.W.nsIn K mainGlobals "fits_plan" = some (some (.ref fFits)))
    (lFits : K.lookup fFits = some ⟨ocFits, odFits, .func (PySem.W.fnOf "fits_plan" "fits_plan" (defArgs sFits) (defBody sFits) (defScope sFits) .none kVFits dcFits pmFits anFits cdFits ctFits), slFits⟩)
    (cFits : PySem.W.codeIn K cdFits "fits_plan" = true)
    (kFits : PySem.W.keepIn K (.ref fFits) = true)
    (aTupOf : PySem.W.nsIn K mainGlobals "is_tuple_of" = some (some (.ref fTupOf)))
    (lTupOf : K.lookup fTupOf = some ⟨ocTupOf, odTupOf, .func (PySem.W.fnOf "is_tuple_of" "is_tuple_of" (defArgs sTupOf) (defBody sTupOf) (defScope sTupOf) .none kVTupOf dcTupOf pmTupOf anTupOf cdTupOf ctTupOf), slTupOf⟩)
    (cTupOf : PySem.W.codeIn K cdTupOf "is_tuple_of" = true)
    (kTupOf : PySem.W.keepIn K (.ref fTupOf) = true)
    (aParcels : PySem.W.nsIn K mainGlobals "are_parcels" = some (some (.ref fParcels)))
    (lParcels : K.lookup fParcels = some ⟨ocParcels, odParcels, .func (PySem.W.fnOf "are_parcels" "are_parcels" (defArgs sParcels) (defBody sParcels) (defScope sParcels) .none kVParcels dcParcels pmParcels anParcels cdParcels ctParcels), slParcels⟩)
    (cParcels : PySem.W.codeIn K cdParcels "are_parcels" = true)
    (kParcels : PySem.W.keepIn K (.ref fParcels) = true)
    (aFormatPlan : PySem.W.nsIn K mainGlobals "format_plan" = some (some (.ref fFormatPlan)))
    (lFormatPlan : K.lookup fFormatPlan = some ⟨ocFormatPlan, odFormatPlan, .func (PySem.W.fnOf "format_plan" "format_plan" (defArgs sFormatPlan) (defBody sFormatPlan) (defScope sFormatPlan) .none kVFormatPlan dcFormatPlan pmFormatPlan anFormatPlan cdFormatPlan ctFormatPlan), slFormatPlan⟩)
    (cFormatPlan : PySem.W.codeIn K cdFormatPlan "format_plan" = true)
    (kFormatPlan : PySem.W.keepIn K (.ref fFormatPlan) = true)
    (aParsePlan : PySem.W.nsIn K mainGlobals "parse_plan" = some (some (.ref fParsePlan)))
    (lParsePlan : K.lookup fParsePlan = some ⟨ocParsePlan, odParsePlan, .func (PySem.W.fnOf "parse_plan" "parse_plan" (defArgs sParsePlan) (defBody sParsePlan) (defScope sParsePlan) .none kVParsePlan dcParsePlan pmParsePlan anParsePlan cdParsePlan ctParsePlan), slParsePlan⟩)
    (cParsePlan : PySem.W.codeIn K cdParsePlan "parse_plan" = true)
    (kParsePlan : PySem.W.keepIn K (.ref fParsePlan) = true)
    (aFormatState : PySem.W.nsIn K mainGlobals "format_state" = some (some (.ref fFormatState)))
    (lFormatState : K.lookup fFormatState = some ⟨ocFormatState, odFormatState, .func (PySem.W.fnOf "format_state" "format_state" (defArgs sFormatState) (defBody sFormatState) (defScope sFormatState) .none kVFormatState dcFormatState pmFormatState anFormatState cdFormatState ctFormatState), slFormatState⟩)
    (cFormatState : PySem.W.codeIn K cdFormatState "format_state" = true)
    (kFormatState : PySem.W.keepIn K (.ref fFormatState) = true)
    (aParseState : PySem.W.nsIn K mainGlobals "parse_state" = some (some (.ref fParseState)))
    (lParseState : K.lookup fParseState = some ⟨ocParseState, odParseState, .func (PySem.W.fnOf "parse_state" "parse_state" (defArgs sParseState) (defBody sParseState) (defScope sParseState) .none kVParseState dcParseState pmParseState anParseState cdParseState ctParseState), slParseState⟩)
    (cParseState : PySem.W.codeIn K cdParseState "parse_state" = true)
    (kParseState : PySem.W.keepIn K (.ref fParseState) = true)
    (aLineOf : PySem.W.nsIn K mainGlobals "line_of" = some (some (.ref fLineOf)))
    (lLineOf : K.lookup fLineOf = some ⟨ocLineOf, odLineOf, .func (PySem.W.fnOf "line_of" "line_of" (defArgs sLineOf) (defBody sLineOf) (defScope sLineOf) .none kVLineOf dcLineOf pmLineOf anLineOf cdLineOf ctLineOf), slLineOf⟩)
    (cLineOf : PySem.W.codeIn K cdLineOf "line_of" = true)
    (kLineOf : PySem.W.keepIn K (.ref fLineOf) = true)
    (aTextOfEntry : PySem.W.nsIn K mainGlobals "text_of_entry" = some (some (.ref fTextOfEntry)))
    (lTextOfEntry : K.lookup fTextOfEntry = some ⟨ocTextOfEntry, odTextOfEntry, .func (PySem.W.fnOf "text_of_entry" "text_of_entry" (defArgs sTextOfEntry) (defBody sTextOfEntry) (defScope sTextOfEntry) .none kVTextOfEntry dcTextOfEntry pmTextOfEntry anTextOfEntry cdTextOfEntry ctTextOfEntry), slTextOfEntry⟩)
    (cTextOfEntry : PySem.W.codeIn K cdTextOfEntry "text_of_entry" = true)
    (kTextOfEntry : PySem.W.keepIn K (.ref fTextOfEntry) = true)
    (aItemsOfLine : PySem.W.nsIn K mainGlobals "items_of_line" = some (some (.ref fItemsOfLine)))
    (lItemsOfLine : K.lookup fItemsOfLine = some ⟨ocItemsOfLine, odItemsOfLine, .func (PySem.W.fnOf "items_of_line" "items_of_line" (defArgs sItemsOfLine) (defBody sItemsOfLine) (defScope sItemsOfLine) .none kVItemsOfLine dcItemsOfLine pmItemsOfLine anItemsOfLine cdItemsOfLine ctItemsOfLine), slItemsOfLine⟩)
    (cItemsOfLine : PySem.W.codeIn K cdItemsOfLine "items_of_line" = true)
    (kItemsOfLine : PySem.W.keepIn K (.ref fItemsOfLine) = true)
    (aItemOfText : PySem.W.nsIn K mainGlobals "item_of_text" = some (some (.ref fItemOfText)))
    (lItemOfText : K.lookup fItemOfText = some ⟨ocItemOfText, odItemOfText, .func (PySem.W.fnOf "item_of_text" "item_of_text" (defArgs sItemOfText) (defBody sItemOfText) (defScope sItemOfText) .none kVItemOfText dcItemOfText pmItemOfText anItemOfText cdItemOfText ctItemOfText), slItemOfText⟩)
    (cItemOfText : PySem.W.codeIn K cdItemOfText "item_of_text" = true)
    (kItemOfText : PySem.W.keepIn K (.ref fItemOfText) = true)
    (aTimeOfLine : PySem.W.nsIn K mainGlobals "time_of_line" = some (some (.ref fTimeOfLine)))
    (lTimeOfLine : K.lookup fTimeOfLine = some ⟨ocTimeOfLine, odTimeOfLine, .func (PySem.W.fnOf "time_of_line" "time_of_line" (defArgs sTimeOfLine) (defBody sTimeOfLine) (defScope sTimeOfLine) .none kVTimeOfLine dcTimeOfLine pmTimeOfLine anTimeOfLine cdTimeOfLine ctTimeOfLine), slTimeOfLine⟩)
    (cTimeOfLine : PySem.W.codeIn K cdTimeOfLine "time_of_line" = true)
    (kTimeOfLine : PySem.W.keepIn K (.ref fTimeOfLine) = true)
    (aIsNumber : PySem.W.nsIn K mainGlobals "is_number" = some (some (.ref fIsNumber)))
    (lIsNumber : K.lookup fIsNumber = some ⟨ocIsNumber, odIsNumber, .func (PySem.W.fnOf "is_number" "is_number" (defArgs sIsNumber) (defBody sIsNumber) (defScope sIsNumber) .none kVIsNumber dcIsNumber pmIsNumber anIsNumber cdIsNumber ctIsNumber), slIsNumber⟩)
    (cIsNumber : PySem.W.codeIn K cdIsNumber "is_number" = true)
    (kIsNumber : PySem.W.keepIn K (.ref fIsNumber) = true)
    (aNumberOfText : PySem.W.nsIn K mainGlobals "number_of_text" = some (some (.ref fNumberOfText)))
    (lNumberOfText : K.lookup fNumberOfText = some ⟨ocNumberOfText, odNumberOfText, .func (PySem.W.fnOf "number_of_text" "number_of_text" (defArgs sNumberOfText) (defBody sNumberOfText) (defScope sNumberOfText) .none kVNumberOfText dcNumberOfText pmNumberOfText anNumberOfText cdNumberOfText ctNumberOfText), slNumberOfText⟩)
    (cNumberOfText : PySem.W.codeIn K cdNumberOfText "number_of_text" = true)
    (kNumberOfText : PySem.W.keepIn K (.ref fNumberOfText) = true)
    (aLStart : PySem.W.nsIn K mainGlobals "_law_start" = some (some (.ref fLStart)))
    (lLStart : K.lookup fLStart = some ⟨ocLStart, odLStart, .func (PySem.W.fnOf "_law_start" "_law_start" (defArgs sStart) (defBody sStart) (defScope sStart) .none kVLStart dcLStart pmLStart anLStart cdLStart ctLStart), slLStart⟩)
    (cLStart : PySem.W.codeIn K cdLStart "_law_start" = true)
    (kLStart : PySem.W.keepIn K (.ref fLStart) = true)
    (aLDrawn : PySem.W.nsIn K mainGlobals "_law_drawn" = some (some (.ref fLDrawn)))
    (lLDrawn : K.lookup fLDrawn = some ⟨ocLDrawn, odLDrawn, .func (PySem.W.fnOf "_law_drawn" "_law_drawn" (defArgs sDrawn) (defBody sDrawn) (defScope sDrawn) .none kVLDrawn dcLDrawn pmLDrawn anLDrawn cdLDrawn ctLDrawn), slLDrawn⟩)
    (cLDrawn : PySem.W.codeIn K cdLDrawn "_law_drawn" = true)
    (kLDrawn : PySem.W.keepIn K (.ref fLDrawn) = true)
    (aLSame : PySem.W.nsIn K mainGlobals "_law_same" = some (some (.ref fLSame)))
    (lLSame : K.lookup fLSame = some ⟨ocLSame, odLSame, .func (PySem.W.fnOf "_law_same" "_law_same" (defArgs sSame) (defBody sSame) (defScope sSame) .none kVLSame dcLSame pmLSame anLSame cdLSame ctLSame), slLSame⟩)
    (cLSame : PySem.W.codeIn K cdLSame "_law_same" = true)
    (kLSame : PySem.W.keepIn K (.ref fLSame) = true)
    (aLOutcome : PySem.W.nsIn K mainGlobals "_law_outcome" = some (some (.ref fLOutcome)))
    (lLOutcome : K.lookup fLOutcome = some ⟨ocLOutcome, odLOutcome, .func (PySem.W.fnOf "_law_outcome" "_law_outcome" (defArgs sOutcome) (defBody sOutcome) (defScope sOutcome) .none kVLOutcome dcLOutcome pmLOutcome anLOutcome cdLOutcome ctLOutcome), slLOutcome⟩)
    (cLOutcome : PySem.W.codeIn K cdLOutcome "_law_outcome" = true)
    (kLOutcome : PySem.W.keepIn K (.ref fLOutcome) = true)
    (aLRndPlan : PySem.W.nsIn K mainGlobals "_law_random_plan" = some (some (.ref fLRndPlan)))
    (lLRndPlan : K.lookup fLRndPlan = some ⟨ocLRndPlan, odLRndPlan, .func (PySem.W.fnOf "_law_random_plan" "_law_random_plan" (defArgs sRndPlan) (defBody sRndPlan) (defScope sRndPlan) .none kVLRndPlan dcLRndPlan pmLRndPlan anLRndPlan cdLRndPlan ctLRndPlan), slLRndPlan⟩)
    (cLRndPlan : PySem.W.codeIn K cdLRndPlan "_law_random_plan" = true)
    (kLRndPlan : PySem.W.keepIn K (.ref fLRndPlan) = true)
    (aLRndRoute : PySem.W.nsIn K mainGlobals "_law_random_route" = some (some (.ref fLRndRoute)))
    (lLRndRoute : K.lookup fLRndRoute = some ⟨ocLRndRoute, odLRndRoute, .func (PySem.W.fnOf "_law_random_route" "_law_random_route" (defArgs sRndRoute) (defBody sRndRoute) (defScope sRndRoute) .none kVLRndRoute dcLRndRoute pmLRndRoute anLRndRoute cdLRndRoute ctLRndRoute), slLRndRoute⟩)
    (cLRndRoute : PySem.W.codeIn K cdLRndRoute "_law_random_route" = true)
    (kLRndRoute : PySem.W.keepIn K (.ref fLRndRoute) = true)
    (aLRndState : PySem.W.nsIn K mainGlobals "_law_random_state" = some (some (.ref fLRndState)))
    (lLRndState : K.lookup fLRndState = some ⟨ocLRndState, odLRndState, .func (PySem.W.fnOf "_law_random_state" "_law_random_state" (defArgs sRndState) (defBody sRndState) (defScope sRndState) .none kVLRndState dcLRndState pmLRndState anLRndState cdLRndState ctLRndState), slLRndState⟩)
    (cLRndState : PySem.W.codeIn K cdLRndState "_law_random_state" = true)
    (kLRndState : PySem.W.keepIn K (.ref fLRndState) = true)
    (aLInteger : PySem.W.nsIn K mainGlobals "_law_integer" = some (some (.ref fLInteger)))
    (lLInteger : K.lookup fLInteger = some ⟨ocLInteger, odLInteger, .func (PySem.W.fnOf "_law_integer" "_law_integer" (defArgs sInteger) (defBody sInteger) (defScope sInteger) .none kVLInteger dcLInteger pmLInteger anLInteger cdLInteger ctLInteger), slLInteger⟩)
    (cLInteger : PySem.W.codeIn K cdLInteger "_law_integer" = true)
    (kLInteger : PySem.W.keepIn K (.ref fLInteger) = true)
    (aLPlanOf : PySem.W.nsIn K mainGlobals "_law_plan_of" = some (some (.ref fLPlanOf)))
    (lLPlanOf : K.lookup fLPlanOf = some ⟨ocLPlanOf, odLPlanOf, .func (PySem.W.fnOf "_law_plan_of" "_law_plan_of" (defArgs sPlanOf) (defBody sPlanOf) (defScope sPlanOf) .none kVLPlanOf dcLPlanOf pmLPlanOf anLPlanOf cdLPlanOf ctLPlanOf), slLPlanOf⟩)
    (cLPlanOf : PySem.W.codeIn K cdLPlanOf "_law_plan_of" = true)
    (kLPlanOf : PySem.W.keepIn K (.ref fLPlanOf) = true)
    (aLStOf : PySem.W.nsIn K mainGlobals "_law_state_of" = some (some (.ref fLStOf)))
    (lLStOf : K.lookup fLStOf = some ⟨ocLStOf, odLStOf, .func (PySem.W.fnOf "_law_state_of" "_law_state_of" (defArgs sStOf) (defBody sStOf) (defScope sStOf) .none kVLStOf dcLStOf pmLStOf anLStOf cdLStOf ctLStOf), slLStOf⟩)
    (cLStOf : PySem.W.codeIn K cdLStOf "_law_state_of" = true)
    (kLStOf : PySem.W.keepIn K (.ref fLStOf) = true)
    (aLChanged : PySem.W.nsIn K mainGlobals "_law_changed" = some (some (.ref fLChanged)))
    (lLChanged : K.lookup fLChanged = some ⟨ocLChanged, odLChanged, .func (PySem.W.fnOf "_law_changed" "_law_changed" (defArgs sChanged) (defBody sChanged) (defScope sChanged) .none kVLChanged dcLChanged pmLChanged anLChanged cdLChanged ctLChanged), slLChanged⟩)
    (cLChanged : PySem.W.codeIn K cdLChanged "_law_changed" = true)
    (kLChanged : PySem.W.keepIn K (.ref fLChanged) = true)
    (aLaw : PySem.W.nsIn K mainGlobals "law" = some (some (.ref fLaw)))
    (lLaw : K.lookup fLaw = some ⟨ocLaw, odLaw, .func (PySem.W.fnOf "law" "law" (defArgs sLaw) (defBody sLaw) (defScope sLaw) .none kVLaw dcLaw pmLaw anLaw cdLaw ctLaw), slLaw⟩)
    (cLaw : PySem.W.codeIn K cdLaw "law" = true)
    (kLaw : PySem.W.keepIn K (.ref fLaw) = true)
    (n_isinstance : PySem.W.nsIn K mainGlobals "isinstance" = some none)
    (n_bool : PySem.W.nsIn K mainGlobals "bool" = some none)
    (n_int : PySem.W.nsIn K mainGlobals "int" = some none)
    (n_str : PySem.W.nsIn K mainGlobals "str" = some none)
    (n_list : PySem.W.nsIn K mainGlobals "list" = some none)
    (n_tuple : PySem.W.nsIn K mainGlobals "tuple" = some none)
    (n_dict : PySem.W.nsIn K mainGlobals "dict" = some none)
    (n_len : PySem.W.nsIn K mainGlobals "len" = some none)
    (n_range : PySem.W.nsIn K mainGlobals "range" = some none)
    (n_enumerate : PySem.W.nsIn K mainGlobals "enumerate" = some none)
    (n_max : PySem.W.nsIn K mainGlobals "max" = some none)
    (n_sum : PySem.W.nsIn K mainGlobals "sum" = some none)
    (n_set : PySem.W.nsIn K mainGlobals "set" = some none)
    (n_zip : PySem.W.nsIn K mainGlobals "zip" = some none)
    (n_divmod : PySem.W.nsIn K mainGlobals "divmod" = some none)
    (n_sorted : PySem.W.nsIn K mainGlobals "sorted" = some none)
    (n_abs : PySem.W.nsIn K mainGlobals "abs" = some none)
    (n_min : PySem.W.nsIn K mainGlobals "min" = some none)
    (n_super : PySem.W.nsIn K mainGlobals "super" = some none)
    (m1 : PySem.W.nsIn K mainGlobals "MOST_SHELVES" = some (some (.int 12 tm1)))
    (m2 : PySem.W.nsIn K mainGlobals "MOST_ON_SHELF" = some (some (.int 9 tm2)))
    (m3 : PySem.W.nsIn K mainGlobals "MOST_CARRIERS" = some (some (.int 6 tm3)))
    (m4 : PySem.W.nsIn K mainGlobals "MOST_ENTRIES" = some (some (.int 6 tm4)))
    (lastP : PySem.W.nsIn K mainGlobals "LAST_PARCEL" = some (some (.int 999 tlP)))
    (digs : PySem.W.nsIn K mainGlobals "DIGITS" = some (some (.str "0123456789" tdg)))
    (den : PySem.W.nsIn K mainGlobals "DIGITS_ENOUGH" = some (some (.int 40 tden)))
    (e0 : PySem.W.nsIn K mainGlobals "InvalidPlan" = some (some (.ref C0)))
    (e1 : PySem.W.nsIn K mainGlobals "InvalidState" = some (some (.ref C1)))
    (xk0 : PySem.W.keepIn K (.ref C0) = true)
    (xb0 : PySem.W.subIn K (.ref C0) (.type "BaseException") = some true)
    (xt0 : PySem.W.typeIn K (.ref C0) = some (.type "type"))
    (yg0 : PySem.W.findIn K (.ref C0) "__getattribute__" = some (some (.builtin "BaseException.__getattribute__")))
    (yk0 : PySem.W.findIn K (.ref C0) "__getattr__" = some none)
    (yd0 : PySem.W.hasDictIn K C0 = true)
    (x1 : PySem.W.excIn K C1 [.type "ValueError", .type "Exception", .type "BaseException", .type "object"] "ValueError.__new__" = true)
    (xk1 : PySem.W.keepIn K (.ref C1) = true)
    (xb1 : PySem.W.subIn K (.ref C1) (.type "BaseException") = some true)
    (xt1 : PySem.W.typeIn K (.ref C1) = some (.type "type"))
    (pC : K.lookup C0 = some (excClassObj pnm pq C0 pN pbs pbm true psn psub pab pcol pdd pk0 pk1 pk2 pk3 pk5 "ValueError.__new__"))
    (pR : PySem.HandSPX.refsVE pbm = true)
    (pSa : PySem.W.findIn K (.ref C0) "__setattr__" = some (some (.builtin "object.__setattr__")))
    (pN1 : PySem.W.findIn K (.ref C0) "part" = some none)
    (pN2 : PySem.W.findIn K (.ref C0) "index" = some none)
    (iC : PySem.W.findIn K (.ref C0) "__init__" = some (some (.ref fI)))
    (tI : PySem.W.typeIn K (.ref fI) = some (.type "function"))
    (lI : K.lookup fI = some ⟨ocI, odI, .func ((nfPlan cc c0).fd docI pmI ctI), slI⟩)
    (pCell : K.lookup cc = some ⟨ccl, ccd, .cell (some (.ref C0)), ccs⟩)
    (pCode : PySem.W.codeIn K (.ref c0) "InvalidPlan.__init__" = true)
    (pKo : K.lookup c0 = some ⟨kcl, kcd, .fields kvs, kcs⟩)
    (pKf : kvs[2]? = some (.str kfl ktf))
    (pKm : ((P.main.file : Str) == kfl) = true)
    (pTop : (P.main.scope.names.lookup ("super" : Str)).isSome = false)
    (pHs : PySem.W.ks_superIn K C0 C0 "__init__" = some (some (.builtin "ValueError.__init__")))
    (pHo : PySem.W.nsIn K PySem.cStatics "thirdparty.any" = some none)
    (pHB : PySem.W.subIn K (.ref C0) (.type "ValueError") = some true)
    (pHm : PySem.W.mroIn K C0 (.ref C0) = some true)
    (eT : PySem.W.nsIn K mainGlobals "InvalidText" = some (some (.ref CT)))
    (xkT : PySem.W.keepIn K (.ref CT) = true)
    (xbT : PySem.W.subIn K (.ref CT) (.type "BaseException") = some true)
    (xtT : PySem.W.typeIn K (.ref CT) = some (.type "type"))
    (ygT : PySem.W.findIn K (.ref CT) "__getattribute__" = some (some (.builtin "BaseException.__getattribute__")))
    (ykT : PySem.W.findIn K (.ref CT) "__getattr__" = some none)
    (ydT : PySem.W.hasDictIn K CT = true)
    (vC : K.lookup CT = some (excClassObj vnm vq CT vN vbs vbm true vsn vsub vab vcol vdd vk0 vk1 vk2 vk3 vk5 "ValueError.__new__"))
    (vR : PySem.HandSPX.refsVE vbm = true)
    (vSa : PySem.W.findIn K (.ref CT) "__setattr__" = some (some (.builtin "object.__setattr__")))
    (vN2 : PySem.W.findIn K (.ref CT) "row" = some none)
    (viC : PySem.W.findIn K (.ref CT) "__init__" = some (some (.ref fT)))
    (vtI : PySem.W.typeIn K (.ref fT) = some (.type "function"))
    (vlI : K.lookup fT = some ⟨ocT, odT, .func ((nfTxt ccv c0v).fd docT pmT ctT), slT⟩)
    (vCell : K.lookup ccv = some ⟨vccl, vccd, .cell (some (.ref CT)), vccs⟩)
    (vCode : PySem.W.codeIn K (.ref c0v) "InvalidText.__init__" = true)
    (vKo : K.lookup c0v = some ⟨vkcl, vkcd, .fields vkvs, vkcs⟩)
    (vKf : vkvs[2]? = some (.str vkfl vktf))
    (vKm : ((P.main.file : Str) == vkfl) = true)
    (vHs : PySem.W.ks_superIn K CT CT "__init__" = some (some (.builtin "ValueError.__init__")))
    (vHB : PySem.W.subIn K (.ref CT) (.type "ValueError") = some true)
    (vHm : PySem.W.mroIn K CT (.ref CT) = some true)
    (oPP : PySem.W.exmOne K (.ref C0) (.ref C0) = some true)
    (oSP : PySem.W.exmOne K (.ref C1) (.ref C0) = some false)
    (oSS : PySem.W.exmOne K (.ref C1) (.ref C1) = some true)
    (oTP : PySem.W.exmOne K (.ref CT) (.ref C0) = some false)
    (oTS : PySem.W.exmOne K (.ref CT) (.ref C1) = some false)
    (oTT : PySem.W.exmOne K (.ref CT) (.ref CT) = some true)
    (hcode : cdLaw = .ref c)
    (htab : PySem.W.codeHdIn K c Pt = true)
    (hnone : K.lookup Pt = none)
    : ∃ (fd : FuncData) (cs : List (Addr × Addr)) (sp : Sp), (∀ p ∈ cs, h.get? p.2 = some { cls := .none, data := .fields #[] }) ∧ (∀ p ∈ cs, K.lookup p.2 = none) ∧ (∀ p ∈ cs, PySem.W.CodeHd h p.1 p.2) ∧ (∀ (s : Shared) (u : Value), BindsTo s fd ⟨[u], []⟩ [("_law_script", u)]) ∧
    (∀ (H : Hp) (a : Addr) (ns : List Int), ns.length ≤ 63 → (∀ z ∈ ns, Builtin.Int.intBits z ≤ 1048576) → (∀ p ∈ cs, H p.2 = some (.tbl #[])) → SqL K H a (ns.map V.int) → sp [.ref a] H (fun v _ => v = .bl true) fun _ _ _ => False) ∧
    ∀ base : Heap, K.In base → base.Ns mainGlobals mg → (∀ p ∈ cs, TabB base mg p.1 p.2) → FnOk P w K mg base CX0 14 fa fd ["_law_script"] sp := by
  have e := hfa.symm.trans (PySem.W.mg_of X G aLaw)
  cases e
  subst hcode
  have DWithin := df_mk (ps := ["number", "low", "high"]) X G aWithin lWithin cWithin kWithin fun _ _ _ _ _ _ us hl => lstN3 (fun _ _ _ => rfl) us hl
  have DCheckPlan := df_mk (ps := ["plan"]) X G aCheckPlan lCheckPlan cCheckPlan kCheckPlan fun _ _ _ _ _ _ us hl => lstN1 (fun _ => rfl) us hl
  have DCheckSizes := df_mk (ps := ["sizes"]) X G aCheckSizes lCheckSizes cCheckSizes kCheckSizes fun _ _ _ _ _ _ us hl => lstN1 (fun _ => rfl) us hl
  have DCheckRoutes := df_mk (ps := ["routes", "shelves"]) X G aCheckRoutes lCheckRoutes cCheckRoutes kCheckRoutes fun _ _ _ _ _ _ us hl => lstN2 (fun _ _ => rfl) us hl
  have DIsRoute := df_mk (ps := ["route", "shelves"]) X G aIsRoute lIsRoute cIsRoute kIsRoute fun _ _ _ _ _ _ us hl => lstN2 (fun _ _ => rfl) us hl
  have DJoin := df_mk (ps := ["carried", "shelves"]) X G aJoin lJoin cJoin kJoin fun _ _ _ _ _ _ us hl => lstN2 (fun _ _ => rfl) us hl
  have DCheckState := df_mk (ps := ["plan", "state"]) X G aCheckState lCheckState cCheckState kCheckState fun _ _ _ _ _ _ us hl => lstN2 (fun _ _ => rfl) us hl
  have DFits := df_mk (ps := ["plan", "carried", "shelves"]) X G aFits lFits cFits kFits fun _ _ _ _ _ _ us hl => lstN3 (fun _ _ _ => rfl) us hl
  have DTupOf := df_mk (ps := ["row", "length"]) X G aTupOf lTupOf cTupOf kTupOf fun _ _ _ _ _ _ us hl => lstN2 (fun _ _ => rfl) us hl
  have DParcels := df_mk (ps := ["parcels"]) X G aParcels lParcels cParcels kParcels fun _ _ _ _ _ _ us hl => lstN1 (fun _ => rfl) us hl
  have DFormatPlan := df_mk (ps := ["plan"]) X G aFormatPlan lFormatPlan cFormatPlan kFormatPlan fun _ _ _ _ _ _ us hl => lstN1 (fun _ => rfl) us hl
  have DParsePlan := df_mk (ps := ["text"]) X G aParsePlan lParsePlan cParsePlan kParsePlan fun _ _ _ _ _ _ us hl => lstN1 (fun _ => rfl) us hl
  have DFormatState := df_mk (ps := ["plan", "state"]) X G aFormatState lFormatState cFormatState kFormatState fun _ _ _ _ _ _ us hl => lstN2 (fun _ _ => rfl) us hl
  have DParseState := df_mk (ps := ["plan", "text"]) X G aParseState lParseState cParseState kParseState fun _ _ _ _ _ _ us hl => lstN2 (fun _ _ => rfl) us hl
  have DLineOf := df_mk (ps := ["word", "items"]) X G aLineOf lLineOf cLineOf kLineOf fun _ _ _ _ _ _ us hl => lstN2 (fun _ _ => rfl) us hl
  have DTextOfEntry := df_mk (ps := ["entry"]) X G aTextOfEntry lTextOfEntry cTextOfEntry kTextOfEntry fun _ _ _ _ _ _ us hl => lstN1 (fun _ => rfl) us hl
  have DItemsOfLine := df_mk (ps := ["lines", "row", "word"]) X G aItemsOfLine lItemsOfLine cItemsOfLine kItemsOfLine fun _ _ _ _ _ _ us hl => lstN3 (fun _ _ _ => rfl) us hl
  have DItemOfText := df_mk (ps := ["row", "text", "may_rest"]) X G aItemOfText lItemOfText cItemOfText kItemOfText fun _ _ _ _ _ _ us hl => lstN3 (fun _ _ _ => rfl) us hl
  have DTimeOfLine := df_mk (ps := ["line"]) X G aTimeOfLine lTimeOfLine cTimeOfLine kTimeOfLine fun _ _ _ _ _ _ us hl => lstN1 (fun _ => rfl) us hl
  have DIsNumber := df_mk (ps := ["text"]) X G aIsNumber lIsNumber cIsNumber kIsNumber fun _ _ _ _ _ _ us hl => lstN1 (fun _ => rfl) us hl
  have DNumberOfText := df_mk (ps := ["text"]) X G aNumberOfText lNumberOfText cNumberOfText kNumberOfText fun _ _ _ _ _ _ us hl => lstN1 (fun _ => rfl) us hl
  have DLStart := df_mk (ps := ["_law_script"]) X G aLStart lLStart cLStart kLStart fun _ _ _ _ _ _ us hl => lstN1 (fun _ => rfl) us hl
  have DLDrawn := df_mk (ps := ["_law_state", "_law_count"]) X G aLDrawn lLDrawn cLDrawn kLDrawn fun _ _ _ _ _ _ us hl => lstN2 (fun _ _ => rfl) us hl
  have DLSame := df_mk (ps := ["_law_result", "_law_expected"]) X G aLSame lLSame cLSame kLSame fun _ _ _ _ _ _ us hl => lstN2 (fun _ _ => rfl) us hl
  have DLOutcome := df_mk (ps := ["_law_work"]) X G aLOutcome lLOutcome cLOutcome kLOutcome fun _ _ _ _ _ _ us hl => lstN1 (fun _ => rfl) us hl
  have DLRndPlan := df_mk (ps := ["_law_state", "_law_shelves", "_law_size"]) X G aLRndPlan lLRndPlan cLRndPlan kLRndPlan fun _ _ _ _ _ _ us hl => lstN3 (fun _ _ _ => rfl) us hl
  have DLRndRoute := df_mk (ps := ["_law_state", "_law_count"]) X G aLRndRoute lLRndRoute cLRndRoute kLRndRoute fun _ _ _ _ _ _ us hl => lstN2 (fun _ _ => rfl) us hl
  have DLRndState := df_mk (ps := ["_law_state", "_law_plan"]) X G aLRndState lLRndState cLRndState kLRndState fun _ _ _ _ _ _ us hl => lstN2 (fun _ _ => rfl) us hl
  have DLInteger := df_mk (ps := ["_law_word", "_law_negative"]) X G aLInteger lLInteger cLInteger kLInteger fun _ _ _ _ _ _ us hl => lstN2 (fun _ _ => rfl) us hl
  have DLPlanOf := df_mk (ps := ["_law_text"]) X G aLPlanOf lLPlanOf cLPlanOf kLPlanOf fun _ _ _ _ _ _ us hl => lstN1 (fun _ => rfl) us hl
  have DLStOf := df_mk (ps := ["_law_plan", "_law_text"]) X G aLStOf lLStOf cLStOf kLStOf fun _ _ _ _ _ _ us hl => lstN2 (fun _ _ => rfl) us hl
  have DLChanged := df_mk (ps := ["_law_state", "_law_text"]) X G aLChanged lLChanged cLChanged kLChanged fun _ _ _ _ _ _ us hl => lstN2 (fun _ _ => rfl) us hl
  have DLaw := df_mk (ps := ["_law_script"]) X G aLaw lLaw cLaw kLaw fun _ _ _ _ _ _ us hl => lstN1 (fun _ => rfl) us hl
  have B : Bt mg := ⟨PySem.W.mg_none_of X G n_isinstance, PySem.W.mg_none_of X G n_bool, PySem.W.mg_none_of X G n_int, PySem.W.mg_none_of X G n_str, PySem.W.mg_none_of X G n_list, PySem.W.mg_none_of X G n_tuple, PySem.W.mg_none_of X G n_dict, PySem.W.mg_none_of X G n_len, PySem.W.mg_none_of X G n_range, PySem.W.mg_none_of X G n_enumerate, PySem.W.mg_none_of X G n_max, PySem.W.mg_none_of X G n_sum, PySem.W.mg_none_of X G n_set, PySem.W.mg_none_of X G n_zip, PySem.W.mg_none_of X G n_divmod, PySem.W.mg_none_of X G n_sorted, PySem.W.mg_none_of X G n_abs, PySem.W.mg_none_of X G n_min⟩
  have OX : OexC K C0 := ⟨⟨pnm, pq, pN, pbs, pbm, psn, psub, pab, pcol, pdd, pk0, pk1, pk2, pk3, pk5, pC, pR⟩, pSa, xb0, xt0, xk0⟩
  have XF : XfC K C0 := ⟨yg0, yk0, xb0, yd0⟩
  have SF : SupF P K mg C0 fI cc (nfPlan cc c0) arPlan := ⟨OX, rfl, ⟨_, _, _, pCell⟩, pCode, ⟨_, _, _, _, _, _, pKo, pKf, pKm⟩, pTop, PySem.W.mg_none_of X G n_super, rfl, rfl, rfl, pHs, pHo, pHB, pHm⟩
  have PL : Pl P K mg C0 fI ((nfPlan cc c0).fd docI pmI ctI) := ⟨⟨cc, c0, _, _, _, _, _, _, rfl, SF, lI⟩, pN1, pN2, PySem.W.mg_of X G e0, iC, tI, .all fun us hl => match us, hl with | [_, _, _], _ => rfl, XF⟩
  have OXv : OexC K CT := ⟨⟨vnm, vq, vN, vbs, vbm, vsn, vsub, vab, vcol, vdd, vk0, vk1, vk2, vk3, vk5, vC, vR⟩, vSa, xbT, xtT, xkT⟩
  have XFv : XfC K CT := ⟨ygT, ykT, xbT, ydT⟩
  have SFv : SupF P K mg CT fT ccv (nfTxt ccv c0v) arTxt := ⟨OXv, rfl, ⟨_, _, _, vCell⟩, vCode, ⟨_, _, _, _, _, _, vKo, vKf, vKm⟩, pTop, PySem.W.mg_none_of X G n_super, rfl, rfl, rfl, vHs, pHo, vHB, vHm⟩
  have TXF : Tx P K mg CT fT ((nfTxt ccv c0v).fd docT pmT ctT) := ⟨⟨ccv, c0v, _, _, _, _, _, _, rfl, SFv, vlI⟩, vN2, PySem.W.mg_of X G eT, viC, vtI, .all fun us hl => match us, hl with | [_, _], _ => rfl, XFv⟩
  have O : OutK K C0 C1 CT := ⟨oPP, oSP, oSS, oTP, oTS, oTT, XF, pN1, pN2⟩
  have gp := PySem.W.mg_of X G e0
  have gs := PySem.W.mg_of X G e1
  let T : Bd P K mg := { bt := B, CTx := CT, aTx := fT, dTx := _, tx := TXF, C := C0, aInit := fI, dInit := _, pl := PL, m1 := ⟨_, PySem.W.mg_of X G m1⟩, m2 := ⟨_, PySem.W.mg_of X G m2⟩, m3 := ⟨_, PySem.W.mg_of X G m3⟩, m4 := ⟨_, PySem.W.mg_of X G m4⟩, tlim := htlim, digs := ⟨_, PySem.W.mg_of X G digs⟩, den := ⟨_, PySem.W.mg_of X G den⟩, lastP := ⟨_, PySem.W.mg_of X G lastP⟩, CS := C1, cs := ⟨PySem.W.mg_of X G e1, x1, xk1, xb1, xt1⟩, aWithin := _, dWithin := _, Within := DWithin, aCheckPlan := _, dCheckPlan := _, CheckPlan := DCheckPlan, aCheckSizes := _, dCheckSizes := _, CheckSizes := DCheckSizes, aCheckRoutes := _, dCheckRoutes := _, CheckRoutes := DCheckRoutes, aIsRoute := _, dIsRoute := _, IsRoute := DIsRoute, aJoin := _, dJoin := _, Join := DJoin, aCheckState := _, dCheckState := _, CheckState := DCheckState, aFits := _, dFits := _, Fits := DFits, aTupOf := _, dTupOf := _, TupOf := DTupOf, aParcels := _, dParcels := _, Parcels := DParcels, aFormatPlan := _, dFormatPlan := _, FormatPlan := DFormatPlan, aParsePlan := _, dParsePlan := _, ParsePlan := DParsePlan, aFormatState := _, dFormatState := _, FormatState := DFormatState, aParseState := _, dParseState := _, ParseState := DParseState, aLineOf := _, dLineOf := _, LineOf := DLineOf, aTextOfEntry := _, dTextOfEntry := _, TextOfEntry := DTextOfEntry, aItemsOfLine := _, dItemsOfLine := _, ItemsOfLine := DItemsOfLine, aItemOfText := _, dItemOfText := _, ItemOfText := DItemOfText, aTimeOfLine := _, dTimeOfLine := _, TimeOfLine := DTimeOfLine, aIsNumber := _, dIsNumber := _, IsNumber := DIsNumber, aNumberOfText := _, dNumberOfText := _, NumberOfText := DNumberOfText, aLStart := _, dLStart := _, LStart := DLStart, aLDrawn := _, dLDrawn := _, LDrawn := DLDrawn, aLSame := _, dLSame := _, LSame := DLSame, aLOutcome := _, dLOutcome := _, LOutcome := DLOutcome, aLRndPlan := _, dLRndPlan := _, LRndPlan := DLRndPlan, aLRndRoute := _, dLRndRoute := _, LRndRoute := DLRndRoute, aLRndState := _, dLRndState := _, LRndState := DLRndState, aLInteger := _, dLInteger := _, LInteger := DLInteger, aLPlanOf := _, dLPlanOf := _, LPlanOf := DLPlanOf, aLStOf := _, dLStOf := _, LStOf := DLStOf, aLChanged := _, dLChanged := _, LChanged := DLChanged, aLaw := _, dLaw := _, Law := DLaw }
  refine ⟨_, [(c, Pt)], spLaw K Pt, fun p hp => ?_, fun p hp => ?_, fun p hp => ?_, fun s u => ?_, fun H a ns hl _ hH hS => ?_, fun base _ _ TB => ok_law T DLaw rfl (TB (c, Pt) (List.mem_singleton.mpr rfl)) O gp gs⟩
  · rw [List.mem_singleton.mp hp]
    exact hPt
  · rw [List.mem_singleton.mp hp]
    exact hnone
  · rw [List.mem_singleton.mp hp]
    exact PySem.W.codeHd_of_K X htab
  · exact .of_eq rfl
  · exact ⟨a, ns, rfl, hS, hl, fun p hp => by rw [List.mem_singleton.mp hp]; exact TabS.nil (hH (c, Pt) (List.mem_singleton.mpr rfl)), fun _ => rfl⟩
end
end Sv
open PySem PySem.W PyProof.Rows
set_option maxHeartbeats 0 in
theorem PySem.Challenge.cw_swapshelves_k51_texts_round_trip_holds : PySem.Challenge.rw_swapshelves_k51_texts_round_trip.Holds := by
  refine head ?_
  k_fill
  refine Sv.walk_ofTsX (l := PySem.Challenge.rw_swapshelves_k51_texts_round_trip) (n := 63) (k := 14) (x := "_law_script") (CX := fun _ => L2.CX0) rfl (by decide) rfl ⟨rfl, by decide, by decide⟩ (fun w h Y => PySem.W.km_in_of Y) ?F (fun _ _ _ _ _ h => h)
  case F =>
    intro w mg fa h XPh Y KX G hmg
    have hPt := PySem.W.km_tabs_of Y _ (List.mem_singleton.mpr rfl)
    have htlim : ∃ t, mg "TIME_LIMIT" = some (.int 1000000000000000000000000000000 t) := by
      obtain ⟨v, hv, hr⟩ := XPh.2.val _ (List.mem_cons_self ..)
      cases hr
      exact ⟨_, hv⟩
    refine' Sv.all_mk (Pt := _) KX G hmg hPt htlim ?aWithin ?lWithin ?cWithin ?kWithin ?aCheckPlan ?lCheckPlan ?cCheckPlan ?kCheckPlan ?aCheckSizes ?lCheckSizes ?cCheckSizes ?kCheckSizes ?aCheckRoutes ?lCheckRoutes ?cCheckRoutes ?kCheckRoutes ?aIsRoute ?lIsRoute ?cIsRoute ?kIsRoute ?aJoin ?lJoin ?cJoin ?kJoin ?aCheckState ?lCheckState ?cCheckState ?kCheckState ?aFits ?lFits ?cFits ?kFits ?aTupOf ?lTupOf ?cTupOf ?kTupOf ?aParcels ?lParcels ?cParcels ?kParcels ?aFormatPlan ?lFormatPlan ?cFormatPlan ?kFormatPlan ?aParsePlan ?lParsePlan ?cParsePlan ?kParsePlan ?aFormatState ?lFormatState ?cFormatState ?kFormatState ?aParseState ?lParseState ?cParseState ?kParseState ?aLineOf ?lLineOf ?cLineOf ?kLineOf ?aTextOfEntry ?lTextOfEntry ?cTextOfEntry ?kTextOfEntry ?aItemsOfLine ?lItemsOfLine ?cItemsOfLine ?kItemsOfLine ?aItemOfText ?lItemOfText ?cItemOfText ?kItemOfText ?aTimeOfLine ?lTimeOfLine ?cTimeOfLine ?kTimeOfLine ?aIsNumber ?lIsNumber ?cIsNumber ?kIsNumber ?aNumberOfText ?lNumberOfText ?cNumberOfText ?kNumberOfText ?aLStart ?lLStart ?cLStart ?kLStart ?aLDrawn ?lLDrawn ?cLDrawn ?kLDrawn ?aLSame ?lLSame ?cLSame ?kLSame ?aLOutcome ?lLOutcome ?cLOutcome ?kLOutcome ?aLRndPlan ?lLRndPlan ?cLRndPlan ?kLRndPlan ?aLRndRoute ?lLRndRoute ?cLRndRoute ?kLRndRoute ?aLRndState ?lLRndState ?cLRndState ?kLRndState ?aLInteger ?lLInteger ?cLInteger ?kLInteger ?aLPlanOf ?lLPlanOf ?cLPlanOf ?kLPlanOf ?aLStOf ?lLStOf ?cLStOf ?kLStOf ?aLChanged ?lLChanged ?cLChanged ?kLChanged ?aLaw ?lLaw ?cLaw ?kLaw ?n_isinstance ?n_bool ?n_int ?n_str ?n_list ?n_tuple ?n_dict ?n_len ?n_range ?n_enumerate ?n_max ?n_sum ?n_set ?n_zip ?n_divmod ?n_sorted ?n_abs ?n_min ?n_super ?m1 ?m2 ?m3 ?m4 ?lastP ?digs ?den ?e0 ?e1 ?xk0 ?xb0 ?xt0 ?yg0 ?yk0 ?yd0 ?x1 ?xk1 ?xb1 ?xt1 ?pC ?pR ?pSa ?pN1 ?pN2 ?iC ?tI ?lI ?pCell ?pCode ?pKo ?pKf ?pKm ?pTop ?pHs ?pHo ?pHB ?pHm ?eT ?xkT ?xbT ?xtT ?ygT ?ykT ?ydT ?vC ?vR ?vSa ?vN2 ?viC ?vtI ?vlI ?vCell ?vCode ?vKo ?vKf ?vKm ?vHs ?vHB ?vHm ?oPP ?oSP ?oSS ?oTP ?oTS ?oTT ?hcode ?htab ?hnone
    (case aWithin => k_is)
    (case lWithin => k_is)
    (case cWithin => k_is)
    (case kWithin => k_is)
    (case aCheckPlan => k_is)
    (case lCheckPlan => k_is)
    (case cCheckPlan => k_is)
    (case kCheckPlan => k_is)
    (case aCheckSizes => k_is)
    (case lCheckSizes => k_is)
    (case cCheckSizes => k_is)
    (case kCheckSizes => k_is)
    (case aCheckRoutes => k_is)
    (case lCheckRoutes => k_is)
    (case cCheckRoutes => k_is)
    (case kCheckRoutes => k_is)
    (case aIsRoute => k_is)
    (case lIsRoute => k_is)
    (case cIsRoute => k_is)
    (case kIsRoute => k_is)
    (case aJoin => k_is)
    (case lJoin => k_is)
    (case cJoin => k_is)
    (case kJoin => k_is)
    (case aCheckState => k_is)
    (case lCheckState => k_is)
    (case cCheckState => k_is)
    (case kCheckState => k_is)
    (case aFits => k_is)
    (case lFits => k_is)
    (case cFits => k_is)
    (case kFits => k_is)
    (case aTupOf => k_is)
    (case lTupOf => k_is)
    (case cTupOf => k_is)
    (case kTupOf => k_is)
    (case aParcels => k_is)
    (case lParcels => k_is)
    (case cParcels => k_is)
    (case kParcels => k_is)
    (case aFormatPlan => k_is)
    (case lFormatPlan => k_is)
    (case cFormatPlan => k_is)
    (case kFormatPlan => k_is)
    (case aParsePlan => k_is)
    (case lParsePlan => k_is)
    (case cParsePlan => k_is)
    (case kParsePlan => k_is)
    (case aFormatState => k_is)
    (case lFormatState => k_is)
    (case cFormatState => k_is)
    (case kFormatState => k_is)
    (case aParseState => k_is)
    (case lParseState => k_is)
    (case cParseState => k_is)
    (case kParseState => k_is)
    (case aLineOf => k_is)
    (case lLineOf => k_is)
    (case cLineOf => k_is)
    (case kLineOf => k_is)
    (case aTextOfEntry => k_is)
    (case lTextOfEntry => k_is)
    (case cTextOfEntry => k_is)
    (case kTextOfEntry => k_is)
    (case aItemsOfLine => k_is)
    (case lItemsOfLine => k_is)
    (case cItemsOfLine => k_is)
    (case kItemsOfLine => k_is)
    (case aItemOfText => k_is)
    (case lItemOfText => k_is)
    (case cItemOfText => k_is)
    (case kItemOfText => k_is)
    (case aTimeOfLine => k_is)
    (case lTimeOfLine => k_is)
    (case cTimeOfLine => k_is)
    (case kTimeOfLine => k_is)
    (case aIsNumber => k_is)
    (case lIsNumber => k_is)
    (case cIsNumber => k_is)
    (case kIsNumber => k_is)
    (case aNumberOfText => k_is)
    (case lNumberOfText => k_is)
    (case cNumberOfText => k_is)
    (case kNumberOfText => k_is)
    (case aLStart => k_is)
    (case lLStart => k_is)
    (case cLStart => k_is)
    (case kLStart => k_is)
    (case aLDrawn => k_is)
    (case lLDrawn => k_is)
    (case cLDrawn => k_is)
    (case kLDrawn => k_is)
    (case aLSame => k_is)
    (case lLSame => k_is)
    (case cLSame => k_is)
    (case kLSame => k_is)
    (case aLOutcome => k_is)
    (case lLOutcome => k_is)
    (case cLOutcome => k_is)
    (case kLOutcome => k_is)
    (case aLRndPlan => k_is)
    (case lLRndPlan => k_is)
    (case cLRndPlan => k_is)
    (case kLRndPlan => k_is)
    (case aLRndRoute => k_is)
    (case lLRndRoute => k_is)
    (case cLRndRoute => k_is)
    (case kLRndRoute => k_is)
    (case aLRndState => k_is)
    (case lLRndState => k_is)
    (case cLRndState => k_is)
    (case kLRndState => k_is)
    (case aLInteger => k_is)
    (case lLInteger => k_is)
    (case cLInteger => k_is)
    (case kLInteger => k_is)
    (case aLPlanOf => k_is)
    (case lLPlanOf => k_is)
    (case cLPlanOf => k_is)
    (case kLPlanOf => k_is)
    (case aLStOf => k_is)
    (case lLStOf => k_is)
    (case cLStOf => k_is)
    (case kLStOf => k_is)
    (case aLChanged => k_is)
    (case lLChanged => k_is)
    (case cLChanged => k_is)
    (case kLChanged => k_is)
    (case aLaw => k_is)
    (case lLaw => k_is)
    (case cLaw => k_is)
    (case kLaw => k_is)
    (case n_isinstance => k_is)
    (case n_bool => k_is)
    (case n_int => k_is)
    (case n_str => k_is)
    (case n_list => k_is)
    (case n_tuple => k_is)
    (case n_dict => k_is)
    (case n_len => k_is)
    (case n_range => k_is)
    (case n_enumerate => k_is)
    (case n_max => k_is)
    (case n_sum => k_is)
    (case n_set => k_is)
    (case n_zip => k_is)
    (case n_divmod => k_is)
    (case n_sorted => k_is)
    (case n_abs => k_is)
    (case n_min => k_is)
    (case n_super => k_is)
    (case m1 => k_is)
    (case m2 => k_is)
    (case m3 => k_is)
    (case m4 => k_is)
    (case lastP => k_is)
    (case digs => k_is)
    (case den => k_is)
    (case e0 => k_is)
    (case e1 => k_is)
    (case xk0 => k_is)
    (case xb0 => k_is)
    (case xt0 => k_is)
    (case yg0 => k_is)
    (case yk0 => k_is)
    (case yd0 => k_is)
    (case x1 => first | k_exc | k_is)
    (case xk1 => k_is)
    (case xb1 => k_is)
    (case xt1 => k_is)
    (case pC => k_is)
    (case pR => decide +kernel)
    (case pSa => k_is)
    (case pN1 => k_is)
    (case pN2 => k_is)
    (case iC => k_is)
    (case tI => k_is)
    (case lI => k_is)
    (case pCell => k_is)
    (case pCode => k_is)
    (case pKo => k_is)
    (case pKf => rfl)
    (case pKm => first | rfl | decide +kernel)
    (case pTop => first | rfl | decide +kernel)
    (case pHs => kernel_rfl)
    (case pHo => first | k_is | kernel_rfl)
    (case pHB => k_is)
    (case pHm => first | k_is | kernel_rfl)
    (case eT => k_is)
    (case xkT => k_is)
    (case xbT => k_is)
    (case xtT => k_is)
    (case ygT => k_is)
    (case ykT => k_is)
    (case ydT => k_is)
    (case vC => k_is)
    (case vR => decide +kernel)
    (case vSa => k_is)
    (case vN2 => k_is)
    (case viC => k_is)
    (case vtI => k_is)
    (case vlI => k_is)
    (case vCell => k_is)
    (case vCode => k_is)
    (case vKo => k_is)
    (case vKf => rfl)
    (case vKm => first | rfl | decide +kernel)
    (case vHs => kernel_rfl)
    (case vHB => k_is)
    (case vHm => first | k_is | kernel_rfl)
    (case oPP => kernel_rfl)
    (case oSP => kernel_rfl)
    (case oSS => kernel_rfl)
    (case oTP => kernel_rfl)
    (case oTS => kernel_rfl)
    (case oTT => kernel_rfl)
    (case hcode => rfl)
    (case htab => kernel_rfl)
    (case hnone => kernel_rfl)
