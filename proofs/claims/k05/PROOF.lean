import PyProof.Rows.All
import Wide.All
import OpenK.AllK
import Wide.FinOn
import HandS.ForMost
import HandS.ForExc
import HandS.Lambda
import HandS.Nested
import HandS.EndTab
import HandS.Conv
import HandS.Zip
import HandS.SetFor
import HandS.TupAny
import HandS.Gcd
import HandS.Wide
import HandS.WideBits
import HandS.IsInst
import HandS.ExcIs
import HandS.Flow
import KE.KMathGC
import KE.GoesMore
import PyProof.EnumMake
import PyProof.Draws
import PySem.Challenge.RW_swapshelves_k05_whole_effects_are_a_grou
set_option Elab.async false
set_option linter.all false
set_option maxRecDepth 100000
section
open PySem PySem.W PyProof.Rows
set_option maxHeartbeats 0
open_top head for PySem.Challenge.rw_swapshelves_k05_whole_effects_are_a_grou
end
set_option maxHeartbeats 4000000
/-! lambdas as values: made with or without one default, called where their cells still hold -/
namespace Sv
open PySem PySem.Spec PyProof.Rows L2 LamX NdefX

/-- a lambda: its text, what it captured, its defaults, its code object -/
structure LF where
  params : Arguments
  body : Expr
  scope : Scope
  qual : Str
  cl : List (Str × Addr)
  dV : Value
  c : Addr
def LF.fd (L : LF) (pm ctv : Value) : FuncData :=
  { PySem.W.kla_fn "<lambda>" L.qual L.params L.body L.scope L.cl pm (.ref L.c) ctv with defaults := L.dV }
def LF.obj (L : LF) (pm ctv : Value) : Obj := { cls := .type "function", data := .func (L.fd pm ctv) }
def LamO (f : Addr) (L : LF) : HO := .ext fun h => ∃ (od : Option Addr) (sl : Array (Option Value)) (pm ctv : Value), h.get? f = some (⟨.type "function", od, .func (L.fd pm ctv), sl⟩ : Obj)
theorem lamO_tbl {f : Addr} {L : LF} (ps : Array Value) : LamO f L ≠ .tbl ps := fun z => by
  unfold LamO at z
  cases z
theorem lamO_at {P : Program} {w : World} {H : Hp} {h : Heap} {f : Addr} {L : LF} (hok : HOk P w H h) (e : H f = some (LamO f L)) :
    ∃ (od : Option Addr) (sl : Array (Option Value)) (pm ctv : Value), h.get? f = some (⟨.type "function", od, .func (L.fd pm ctv), sl⟩ : Obj) := (hok f _ e).1

section
variable {M : Model} {A : Around} {E : Value → Shared → Prop} {s : Shared} {qual : Str} {params : Arguments} {body : Expr} {scope : Scope} {env : Env} {c P : Addr} {ps : Array Value}
  {pos : Pos} {fl : Nat} {mg : Str → Option Value} {clos : List (Str × Addr)} {dV : Value} {Q : Value → Shared → Prop}
/-- the end of its making, the code object new -/
theorem tail_new (hcl : closureFor scope env = pure clos) (hge : env.globals = mainGlobals) (hg : s.heap.Ns mainGlobals mg) (hcode : env.code = .ref c) (C : PySem.W.CodeHd s.heap c P)
    (hP : s.heap.get? P = some { cls := .none, data := .fields ps }) (ht : TriplesOk ps.toList) (hnf : codeAmong pos ps.toList = none) (hgP : mainGlobals ≠ P) (hb : s.heap.BuiltinsAt mg P)
    (h : ∀ c' ctv h' tk, Heap.ExtBut P s.heap h' → s.heap.objs.size ≤ c' → c' < h'.objs.size → h'.CodeRec (.ref c') qual →
      h'.get? P = some { cls := .none, data := .fields (ps ++ #[rawInt pos.line, rawInt pos.col, .ref c']) } →
      Q (.ref h'.objs.size) { s with heap := h'.push (LF.obj ⟨params, body, scope, qual, clos, dV, c'⟩ ((mg "__name__").getD .none) ctv), toks := tk }) :
    wpAny M A (makeTail "<lambda>" qual params (.expr body) scope env dV .none none pos fl) Q E s := by
  obtain ⟨bm, ob, e1, e2, _, e3, e4, e5, e6, e7⟩ := hb
  unfold makeTail
  rw [hcl, hge]
  refine wpAny_bind (wpAny_pure ?_)
  by_cases hz : clos.isEmpty = true
  · rw [if_pos hz]
    refine wpAny_bind (wpAny_pure (wpAny_bind (wpAny_functionCodeX hcode (C.code hP ht) (C.tab hP) hnf fun c' h' tk x1 x2 x3 _ x4 x5 _ => ?_)))
    have g1 := hg.extBut x1 hgP
    refine wpAny_bind (wpAny_builtinsFor g1 e1 e2 (x1 _ _ e3 e4) e5 e6 e7 (wpAny_bind (wpAny_nsGet g1 ?_)))
    exact wpAny_bind (wpAny_pure (wpAny_newObj_type (h c' .none h' tk x1 x2 x3 x4 x5.2) (by size_fits)))
  · rw [if_neg hz]
    refine wpAny_bind (wpAny_newTextTuple ?_)
    have kp : ∀ (oT : Obj) b o, s.heap.get? b = some o → (s.heap.push oT).get? b = some o := fun oT b o e => Heap.get?_push_of_some _ e
    refine wpAny_bind (wpAny_functionCodeX hcode ((C.keeps (kp _)).code (kp _ _ _ hP) ht) ((C.keeps (kp _)).tab (kp _ _ _ hP)) hnf fun c' h' tk x1 x2 x3 _ x4 x5 _ => ?_)
    have g1 := (hg.push _).extBut x1 hgP
    have x1' : Heap.ExtBut P s.heap h' := fun b o n e => x1 b o n (kp _ b o e)
    have x2' : s.heap.objs.size ≤ c' := Nat.le_trans (by rw [Heap.size_push]; omega) x2
    refine wpAny_bind (wpAny_builtinsFor g1 e1 e2 (x1' _ _ e3 e4) e5 e6 e7 (wpAny_bind (wpAny_nsGet g1 ?_)))
    exact wpAny_bind (wpAny_pure (wpAny_newObj_type (h c' _ h' tk x1' x2' x3 x4 x5.2) (by size_fits)))
/-- .. the code object found -/
theorem tail_hit {c' : Addr} (hcl : closureFor scope env = pure clos) (hge : env.globals = mainGlobals) (hg : s.heap.Ns mainGlobals mg) (hcode : env.code = .ref c) (C : PySem.W.CodeHd s.heap c P)
    (hP : s.heap.get? P = some { cls := .none, data := .fields ps }) (ht : TriplesOk ps.toList) (hf : codeAmong pos ps.toList = some (.ref c')) (hb : s.heap.BuiltinsAt mg P)
    (h : ∀ (ctv : Value) (h' : Heap) (tk : Tok), (∀ b o, s.heap.get? b = some o → h'.get? b = some o) → s.heap.objs.size ≤ h'.objs.size →
      Q (.ref h'.objs.size) { s with heap := h'.push (LF.obj ⟨params, body, scope, qual, clos, dV, c'⟩ ((mg "__name__").getD .none) ctv), toks := tk }) :
    wpAny M A (makeTail "<lambda>" qual params (.expr body) scope env dV .none none pos fl) Q E s := by
  obtain ⟨bm, ob, e1, e2, _, e3, e4, e5, e6, e7⟩ := hb
  unfold makeTail
  rw [hcl, hge]
  refine wpAny_bind (wpAny_pure ?_)
  by_cases hz : clos.isEmpty = true
  · rw [if_pos hz]
    refine wpAny_bind (wpAny_pure (wpAny_bind (wpAny_functionCode_hit hcode (C.code hP ht) hf ?_)))
    refine wpAny_bind (wpAny_builtinsFor hg e1 e2 e4 e5 e6 e7 (wpAny_bind (wpAny_nsGet hg ?_)))
    exact wpAny_bind (wpAny_pure (wpAny_newObj_type (h .none s.heap s.toks (fun _ _ e => e) (Nat.le_refl _)) (by size_fits)))
  · rw [if_neg hz]
    refine wpAny_bind (wpAny_newTextTuple ?_)
    have kp : ∀ (oT : Obj) b o, s.heap.get? b = some o → (s.heap.push oT).get? b = some o := fun oT b o e => Heap.get?_push_of_some _ e
    refine wpAny_bind (wpAny_functionCode_hit hcode ((C.keeps (kp _)).code (kp _ _ _ hP) ht) hf ?_)
    refine wpAny_bind (wpAny_builtinsFor (hg.push _) e1 e2 (kp _ _ _ e4) e5 e6 e7 (wpAny_bind (wpAny_nsGet (hg.push _) ?_)))
    have sz : ∀ oT : Obj, s.heap.objs.size ≤ (s.heap.push oT).objs.size := fun oT => by rw [Heap.size_push]; omega
    exact wpAny_bind (wpAny_pure (wpAny_newObj_type (h _ _ s.toks (kp _) (sz _)) (by size_fits)))
end

section
variable {X : Cx} {pins : List (Addr × Obj)} {σ : L2.St} {H : Hp} {s : Shared}
/-- a function object just made is known from now on -/
theorem inv_lam {L : LF} {t' : Nat} {pm ctv : Value} (I : Inv X pins σ H s) :
    Inv X pins σ (upd H s.heap.objs.size (LamO s.heap.objs.size L)) { s with heap := s.heap.push (L.obj pm ctv), toks := t' } := by
  refine I.laid (a := s.heap.objs.size) (fun b u e => Heap.get?_push_of_some _ e) (Nat.le_refl _) ?_
  have e : (s.heap.push (L.obj pm ctv)).get? s.heap.objs.size = some (L.obj pm ctv) := Heap.get?_push_size _ rfl
  exact ⟨⟨_, _, pm, ctv, e⟩, ⟨_, e⟩, fun h1 h2 ⟨a1, a2, a3, a4, z⟩ st => ⟨a1, a2, a3, a4, st _ z⟩⟩
/-- what is asked of the makers' tables -/
structure LamT (X : Cx) (T : List (Addr × Str)) (c P : Addr) : Prop where
  tb : TabB X.base X.mg c P
  code : X.env.code = .ref c
  mem : (P, X.env.qual ++ "<lambda>") ∈ T
  uni : ∀ p ∈ T, p.1 = P → p.2 = X.env.qual ++ "<lambda>"
theorem lam_tail {T : List (Addr × Str)} {c P : Addr} {params : Arguments} {body : Expr} {scope : Scope} {pos : Pos} {fl : Nat} {dV : Value} {E : Value → Shared → Prop} {Q : Value → Shared → Prop} (I : Inv X pins σ H s) (LT : LamT X T c P)
    (hT : Tabs T H) (hfree : ∀ y ∈ scope.names, y.2 = .free → ∃ c, X.env.cells.lookup y.1 = some c)
    (h : ∀ (f c' : Addr) (H1 : Hp) (s' : Shared), Inv X pins σ H1 s' → ExtN H H1 → (∀ b, H1 b = none → H b = none) → Tabs T H1 → H f = none →
      H1 f = some (LamO f ⟨params, body, scope, X.env.qual ++ "<lambda>", cloFrom X.env.cells scope.names [], dV, c'⟩) → H1 c' = some (CodeO c' (X.env.qual ++ "<lambda>")) → Q (.ref f) s') :
    wpAny (model X.prog X.w) X.A (makeTail "<lambda>" (X.env.qual ++ "<lambda>") params (.expr body) scope X.env dV .none none pos fl) Q E s := by
  obtain ⟨ps, hP, ht, ha⟩ := hT _ LT.mem
  have bP : s.heap.BuiltinsAt X.mg P := LT.tb.bm.keeps I.bk
  have gP : s.heap.get? P = some { cls := .none, data := .fields ps } := I.hok P _ hP
  cases hc : codeAmong pos ps.toList with
  | none =>
    refine tail_new (mg := X.mg) (c := c) (P := P) (ps := ps) (closure_ok hfree) I.ok.glob (I.mod.glob.keeps I.bk) LT.code (LT.tb.code.keeps I.bk) gP ht hc LT.tb.gP bP fun c' ctv h' tk x1 x2 x3 x4 x5 => ?_
    obtain ⟨c2, oc, vs, t, e2, hoc, hd, hv⟩ := x4
    cases e2
    have nC : H c' = none := I.hok.fresh x2
    have I1 := inv_table (t' := tk) (more := #[rawInt pos.line, rawInt pos.col, .ref c']) (h' := h') I hP (fun b o hb e => x1 b o hb e) x5 x2 ⟨oc, vs, t, hoc, hd, hv⟩
    generalize hG : upd (upd H P (.tbl (ps ++ #[rawInt pos.line, rawInt pos.col, .ref c']))) c' (CodeO c' (X.env.qual ++ "<lambda>")) = G at I1
    have atC : G c' = some (CodeO c' (X.env.qual ++ "<lambda>")) := by rw [← hG]; exact upd_same
    have hE : ExtN H G := fun b o e n => by
      rw [← hG, upd_ne (ne_of_none e nC), upd_ne (fun z => n ps (Option.some.inj (e.symm.trans (by rw [z]; exact hP))))]
      exact e
    have eL : (ps ++ #[rawInt pos.line, rawInt pos.col, .ref c']).toList = ps.toList ++ [rawInt pos.line, rawInt pos.col, .ref c'] := by simp
    have T1 : Tabs T G := fun p hp => by
      by_cases hb : p.1 = P
      · rw [LT.uni p hp hb, hb]
        refine ⟨_, by rw [← hG, upd_ne (ne_of_none hP nC), upd_same], by rw [eL]; exact PySem.TriplesOk_snoc _ _ _ _ ht, fun p' cv hcv => ?_⟩
        rw [eL] at hcv
        rcases among_app _ ht hcv with z | z
        · obtain ⟨c0, q1, q2⟩ := ha p' cv z
          exact ⟨c0, q1, hE _ _ q2 codeO_ne⟩
        · exact ⟨c', z, atC⟩
      · obtain ⟨ps', a1, a2, a3⟩ := hT p hp
        refine ⟨ps', by rw [← hG, upd_ne (ne_of_none a1 nC), upd_ne hb]; exact a1, a2, fun p' cv hcv => ?_⟩
        obtain ⟨c0, q1, q2⟩ := a3 p' cv hcv
        exact ⟨c0, q1, hE _ _ q2 codeO_ne⟩
    have nF := I1.hok.fresh (Nat.le_refl _)
    have I2 := inv_lam (L := ⟨params, body, scope, X.env.qual ++ "<lambda>", cloFrom X.env.cells scope.names [], dV, c'⟩) (t' := tk) (pm := (X.mg "__name__").getD .none) (ctv := ctv) I1
    refine h h'.objs.size c' _ _ I2 (fun b o e n => ?_) (fun b e => ?_) (T1.ext fun b o e => ?_) (I.hok.fresh (Nat.le_trans x2 (Nat.le_of_lt x3))) upd_same ?_
    · exact (upd_ne (ne_of_none (hE b o e n) nF)).trans (hE b o e n)
    · have e1 := upd_none e
      rw [← hG] at e1
      exact upd_none (upd_none e1)
    · exact (upd_ne (ne_of_none e nF)).trans e
    · exact (upd_ne (Nat.ne_of_lt x3)).trans atC
  | some cv =>
    obtain ⟨c', e, hco⟩ := ha pos cv hc
    subst e
    refine tail_hit (mg := X.mg) (c := c) (P := P) (ps := ps) (closure_ok hfree) I.ok.glob (I.mod.glob.keeps I.bk) LT.code (LT.tb.code.keeps I.bk) gP ht hc bP fun ctv h' tk x1 x2 => ?_
    have I1 : Inv X pins σ H { s with heap := h', toks := tk } := I.kept x1
    have nF : H h'.objs.size = none := I1.hok.fresh (Nat.le_refl _)
    have I2 := inv_lam (L := ⟨params, body, scope, X.env.qual ++ "<lambda>", cloFrom X.env.cells scope.names [], dV, c'⟩) (t' := tk) (pm := (X.mg "__name__").getD .none) (ctv := ctv) I1
    refine h h'.objs.size c' _ _ I2 (fun b o e n => ?_) (fun b e => upd_none e) (hT.ext fun b o e => ?_) nF upd_same ?_
    · exact (upd_ne (ne_of_none e nF)).trans e
    · exact (upd_ne (ne_of_none e nF)).trans e
    · exact (upd_ne (ne_of_none hco nF)).trans hco
end
/-- what the defaults' place holds -/
def DflAt (H : Hp) (dV : Value) (dvs : List V) : Prop := (dvs = [] ∧ dV = .none) ∨ (dvs ≠ [] ∧ ∃ T, dV = .ref T ∧ H T = some (.tup dvs))
/-- the reading of a lambda: a new function, mk its datum -/
def tLamV (T : List (Addr × Str)) (dvs : List V) (mk : Value → Addr → LF) : TE := fun _ H Q => Tabs T H ∧ ∀ (f c' : Addr) (dV : Value) (H1 : Hp), ExtN H H1 → (∀ b, H1 b = none → H b = none) → Tabs T H1 → H f = none →
  H1 f = some (LamO f (mk dV c')) → H1 c' = some (CodeO c' (mk dV c').qual) → DflAt H1 dV dvs → Q (.ref f) H1
section
variable {X : Cx}
theorem pe_lam0 {T : List (Addr × Str)} {c P : Addr} {params : Arguments} {body : Expr} {scope : Scope} {pos : Pos} (LT : LamT X T c P) (hd : defaultsOf params X.env = ([], []))
    (hfree : ∀ y ∈ scope.names, y.2 = .free → X.env.scope.names.lookup y.1 = some .cell ∨ X.env.scope.names.lookup y.1 = some .free) :
    PE X (.Lambda params body scope pos) (tLamV T [] fun dV c' => ⟨params, body, scope, X.env.qual ++ "<lambda>", cloFrom X.env.cells scope.names [], dV, c'⟩) := by
  refine ⟨fun pins s σ H Q I ⟨hT, h⟩ => PySem.W.kla_eval hd ?_⟩
  rw [makeFunction_eq]
  simp only [List.zip_nil_right, List.filterMap_nil, List.isEmpty_nil, if_true, pure_bind]
  have hf : ∀ y ∈ scope.names, y.2 = .free → ∃ c, X.env.cells.lookup y.1 = some c := fun y hy e => (hfree y hy e).elim (fun z => I.ok.has _ (.inl z)) fun z => I.ok.has _ (.inr z)
  exact lam_tail I LT hT hf fun f c' H1 s' I1 a1 a2 a3 a4 a5 a6 => ⟨.ref f, H1, I1, rfl, h f c' .none H1 a1 a2 a3 a4 a5 a6 (.inl ⟨rfl, rfl⟩)⟩
theorem pe_lam1 {T : List (Addr × Str)} {c P : Addr} {params : Arguments} {body : Expr} {scope : Scope} {pos : Pos} {i j : Int} {jn : Nat} {p2 : Pos} (LT : LamT X T c P)
    (hd : defaultsOf params X.env = ([eval (.Constant (.int i) jn p2) X.env], []))
    (hfree : ∀ y ∈ scope.names, y.2 = .free → X.env.scope.names.lookup y.1 = some .cell ∨ X.env.scope.names.lookup y.1 = some .free) :
    PE X (.Lambda params body scope pos) (tLamV T [.int i] fun dV c' => ⟨params, body, scope, X.env.qual ++ "<lambda>", cloFrom X.env.cells scope.names [], dV, c'⟩) := by
  refine ⟨fun pins s σ H Q I ⟨hT, h⟩ => ?_⟩
  rw [arm_eval_Lambda, hd]
  have hf : ∀ y ∈ scope.names, y.2 = .free → ∃ c, X.env.cells.lookup y.1 = some c := fun y hy e => (hfree y hy e).elim (fun z => I.ok.has _ (.inl z)) fun z => I.ok.has _ (.inr z)
  refine wpAny_bind (wpAny_evalAll_cons (thn ((pe_int (X := X) (i := i) (j := jn) (pos := p2)).run pins s σ H (fun v H1 => v = .int i ∧ H1 = H) I ⟨rfl, rfl⟩) fun u s1 ⟨v, H1, I1, r1, q1⟩ => ?_))
  obtain ⟨ev, eH⟩ := q1
  subst ev
  subst eH
  refine wpAny_evalAll_nil (wpAny_bind (wpAny_holding (wpAny_pure ?_)))
  rw [makeFunction_eq]
  simp only [List.zip_nil_right, List.filterMap_nil, List.isEmpty_nil, if_true, pure_bind, List.isEmpty_cons, Bool.false_eq_true, if_false]
  refine wpAny_bind (wpAny_newTextTuple ?_)
  have nT := I1.hok.fresh (Nat.le_refl s1.heap.objs.size)
  have I2 : Inv X pins σ (upd H1 s1.heap.objs.size (.tup [.int i])) { s1 with heap := s1.heap.push { cls := .type "tuple", data := .seq [u].toArray } } := by
    refine I1.laid (t' := s1.toks) (fun b o e => Heap.get?_push_of_some _ e) (Nat.le_refl _) ⟨(by decide : (1 : Nat) ≤ sizeLine), [u], .cons r1 .nil, ?_⟩
    exact ⟨_, Heap.get?_push_size _ rfl, rfl, ⟨_, rfl⟩⟩
  have hT2 : Tabs T (upd H1 s1.heap.objs.size (.tup [.int i])) := hT.ext fun b o e => by
    rw [upd_ne (ne_of_none e nT)]
    exact e
  refine lam_tail I2 LT hT2 hf fun f c' H2 s' I3 a1 a2 a3 a4 a5 a6 => ⟨.ref f, H2, I3, rfl, h f c' _ H2 (fun b o e n => ?_) (fun b e => upd_none (a2 b e)) a3 (upd_none a4) a5 a6 (.inr ⟨List.cons_ne_nil _ _, _, rfl, ?_⟩)⟩
  · exact a1 b o (by rw [upd_ne (ne_of_none e nT)]; exact e) n
  · exact a1 _ _ upd_same (fun ps z => nomatch z)
end
end Sv


set_option maxHeartbeats 4000000
/-! what a lambda promises; its call where only the state at the entry knows its cells -/
namespace Sv
open PySem PySem.Spec PyProof.Rows L2 LamX NdefX

def LF.nf (L : LF) : NF := ⟨"<lambda>", L.qual, L.params, [], L.scope, L.cl, L.c⟩
/-- how the defaults bind -/
def LBinds (L : LF) (ps : List Str) (dvs : List V) : Prop := ∀ (H : Hp) (P : Program) (w : World) (s : Shared), HOk P w H s.heap → DflAt H L.dV dvs →
  ∃ us, Vals dvs us ∧ ∀ pm ctv, BindsTo s (L.fd pm ctv) ⟨[], []⟩ (ps.zip us)
theorem lbinds0 {L : LF} (h : ∀ q cl pm cv ctv, bindArgs (PySem.W.kla_fn "<lambda>" q L.params L.body L.scope cl pm cv ctv) ⟨[], []⟩ = pure []) : LBinds L [] [] := fun H P w s hok d => by
  rcases d with ⟨_, e⟩ | ⟨e, _⟩
  · refine ⟨[], .nil, fun pm ctv => .of_eq ?_⟩
    have z := h L.qual L.cl pm (.ref L.c) ctv
    unfold LF.fd
    rw [e]
    exact z
  · exact absurd rfl e
theorem lbinds1 {L : LF} {a : Str} {v : V} (h : ∀ q cl pm cv ctv (T : Addr) (u : Value), ∃ k, bindArgs { PySem.W.kla_fn "<lambda>" q L.params L.body L.scope cl pm cv ctv with defaults := .ref T } ⟨[], []⟩ = seqItems? (.ref T) >>= k ∧
    k (some [u].toArray) = pure [(a, u)]) : LBinds L [a] [v] := fun H P w s hok d => by
  rcases d with ⟨e, _⟩ | ⟨_, T, e, hT⟩
  · cases e
  · obtain ⟨_, its, r, o, ho, _, n, hd⟩ := hok T _ hT
    obtain ⟨u, rfl, ru⟩ := Vals.one r
    refine ⟨[u], .cons ru .nil, fun pm ctv M A Q E q => ?_⟩
    obtain ⟨k, e1, e2⟩ := h L.qual L.cl pm (.ref L.c) ctv T u
    unfold LF.fd
    rw [e]
    rw [e1]
    refine wpAny_bind (wpAny_seqItems ho hd ?_)
    rw [e2]
    exact wpAny_pure q

/-- the promise of the lambda L at f, its cells holding ws -/
structure LOk (P : Program) (w : World) (K : PySem.W.Frag) (mg : Str → Option Value) (base : Heap) (k : Nat) (f : Addr) (L : LF) (fr : List Str) (dvs : List V) (tl : List (Option V) → XK → Hp → VK → Prop) : Prop where
  run : ∀ (A : Around) (outer : List Env) (s : Shared) (H : Hp) (ws : List (Option V)) (Q : VK) (E : XK), Room k A → Env0 P w K mg base A outer s H → H f = some (LamO f L) → H L.c = some (CodeO L.c L.qual) → DflAt H L.dV dvs →
    CellsAt L.cl fr ws s.heap H → tl ws E H Q → codeAny (model P w) A (.call (.ref f) ⟨[], []⟩) (CR (L2.CX P w) outer P w H s Q E) s
section
variable {P : Program} {w : World} {K : PySem.W.Frag} {mg : Str → Option Value} {base : Heap} {N ps fr : List Str} {L : LF} {f : Addr} {k : Nat} {dvs : List V} {tl : List (Option V) → XK → Hp → VK → Prop}
theorem lok_of (S : NScope N ps fr L.scope) (hb : LBinds L ps dvs) (hl : dvs.length = ps.length)
    (hbody : ∀ (A : Around) (outer : List Env) (s : Shared) (H : Hp) (ws : List (Option V)) (Q : VK) (E : XK), Room k (A.deeper (envF L.nf f s.heap.objs.size)) → ws.length = fr.length → tl ws E H Q →
      ∃ t, PE (ncx (L2.CX P w) P w K mg base N L.nf f A outer s H E) L.body t ∧ t (startF N dvs ws) H Q) : LOk P w K mg base (k + 1) f L fr dvs tl := by
  refine ⟨fun A outer s H ws Q E hr e0 hf hc hd C ht => ?_⟩
  have lim : s.heap.NoLimit := e0.mod.nolimit.keeps fun b o e => (e0.bs b o e).1
  obtain ⟨od, sl, pm, ctv, ho⟩ := lamO_at e0.hok hf
  obtain ⟨us, r, hbi⟩ := hb H P w s e0.hok hd
  obtain ⟨⟨oc, vs, t, hoc, hdc, hvc⟩, _, _⟩ := e0.hok L.c _ hc
  have hus : us.length = ps.length := by rw [← r.length]; exact hl
  refine PySem.W.kla_callFunE hr.depth ho rfl S.co S.gen rfl ⟨L.c, oc, vs, t, rfl, hoc, hdc, hvc⟩ (hbi pm ctv _ _ _ _ ?_)
  refine wpAny_newFunctionEnv S.nocell (fun ⟨n, _⟩ hy => S.par n (List.of_mem_zip hy).1) (fun h₁ hns hsb => ⟨lim.fresh _ hsb, ?_⟩) S.kind
  show codeAny _ _ (.expr L.body (envF L.nf f s.heap.objs.size)) _ _
  have kp : ∀ b o, s.heap.get? b = some o → h₁.get? b = some o := fun b o e => hsb.extBut b o (Nat.ne_of_lt (Heap.lt_size e)) (Heap.get?_push_of_some _ e)
  obtain ⟨t, hp, hq⟩ := hbody A outer s H ws Q E (hr.deeper _) C.len ht
  have I : Inv (ncx (L2.CX P w) P w K mg base N L.nf f A outer s H E) [] (startF N dvs ws) H { s with heap := h₁, toks := s.toks + (ps.zip us).length } := inv_startN (F := L.nf) S hr.hd e0 hl r C hns kp
  refine PySem.W.kla_codeExpr (wpAny_mono (hp.run [] _ _ H Q I hq) (fun u s' hs => ?_) fun e s' hs => hs)
  obtain ⟨v', H', J, rv, q⟩ := hs
  exact ⟨v', H', J.os, J.bare, J.base, J.hok, rv, q⟩
theorem LOk.mono {j : Nat} (o : LOk P w K mg base j f L fr dvs tl) (h : j ≤ k) : LOk P w K mg base k f L fr dvs tl := ⟨fun A outer s H ws Q E hr => o.run A outer s H ws Q E (hr.mono h)⟩
end
/-- what the cells held they hold behind anything that keeps the untracked -/
theorem cells_later {fs ex : List Addr} {cl : List (Str × Addr)} {fr : List Str} {ws : List (Option V)} {h h1 : Heap} {H H1 : Hp} (C : CellsAt cl fr ws h H) (nf : ∀ y c, cl.lookup y = some c → c ∉ fs) (nx : ∀ y c, cl.lookup y = some c → c ∉ ex) (u : Un fs ex H H1 h h1) :
    CellsAt cl fr ws h1 H1 := by
  have kp : ∀ y c, cl.lookup y = some c → ∀ v, h.IsCell c v → h1.IsCell c v := fun y c e v ⟨o, ho, hd⟩ => ⟨o, u.keep c o ho (C.all y c e).1 (nf y c e) (nx y c e), hd⟩
  refine ⟨C.len, fun y c e => ?_, C.inj, fun i y e => ?_⟩
  · obtain ⟨n, v, z⟩ := C.all y c e
    refine ⟨?_, v, kp y c e v z⟩
    obtain ⟨o, ho, _⟩ := z
    exact u.free c o ho n (nx y c e)
  · obtain ⟨c, hc, hv⟩ := C.has i y e
    refine ⟨c, hc, fun v ev => ?_⟩
    obtain ⟨uu, r, z⟩ := hv v ev
    exact ⟨uu, r, kp y c hc _ z⟩
/-- no cell of the running frame is one of the frames that run -/
def Far (X : Cx) : Prop := ∀ y c, X.env.cells.lookup y = some c → c ∉ frs X.stack
theorem far_def {X : Cx} {pins : List (Addr × Obj)} {σ : L2.St} {H : Hp} {s : Shared} (I : Inv X pins σ H s) (hf : ∀ y, X.fn y = true) : Far X := fun y c e hm => by
  rcases List.mem_cons.mp (I.stkSub c hm) with z | z
  · exact I.cne y c e z
  · obtain ⟨_, o, ho, _⟩ := I.ok.funs.mem z
    exact Nat.lt_irrefl _ (Nat.lt_of_lt_of_le (Heap.lt_size ho) (I.ok.cab y c (hf y) e))
/-- what is known where a comprehension's block begins -/
structure Blk0 (X : Cx) (σ : L2.St) (s : Shared) (H : Hp) (cl : List (Str × Addr)) (fp : List Addr) : Prop where
  inv : ∃ pins, Inv X pins σ H s ∧ ∀ b ∈ fp, FpOk X pins H b
  far : Far X → ∀ y c, cl.lookup y = some c → c ∉ frs X.stack
theorem blk_far {X : Cx} {pins : List (Addr × Obj)} {σ : L2.St} {H : Hp} {s : Shared} {scope : Scope} (I : Inv X pins σ H s) (hfree : ∀ y ∈ scope.names, y.2 = .free → ∃ c, X.env.cells.lookup y.1 = some c) (F : Far X) :
    ∀ y c, (cellsFrom (s.heap.objs.size + 1) scope.names (cloFrom X.env.cells scope.names [])).lookup y = some c → c ∉ frs X.stack := fun y c e hm => by
  rw [← Heap.size_push s.heap { cls := .type "dict", data := .dict #[] }] at e
  rcases cells_mem (PySem.mem_of_lookup e) with z | ⟨_, z, _⟩
  · rcases cloFrom_mem z with z | ⟨h1, h2⟩
    · cases z
    · obtain ⟨c1, hc⟩ := hfree _ h1 rfl
      have e2 : c = c1 := by
        rw [h2, hc]
        rfl
      exact F y c (by rw [e2]; exact hc) hm
  · rw [Heap.size_push] at z
    obtain ⟨_, o, ho, _⟩ := I.stack.mem hm
    exact Nat.lt_irrefl _ (Nat.lt_of_lt_of_le (Heap.lt_size ho) (Nat.le_of_succ_le z))
section
variable {X : Cx}
/-- a comprehension whose element may know the state where the block begins -/
theorem pe_lcI {elt tg iter : Expr} {ifs : List Expr} {scope : Scope} {own : List (Str × Nat)} {pos : Pos} {wi : TI} {g : TG} {tt : L2.St → TT} {te : L2.St → TE} (hc : X.calm = true) (hN : X.N.Nodup) (hi : PI X tg iter wi) (ok : BlkOk X.N X.env.scope scope own)
    (hg : ∀ (s : Shared) (H : Hp) (C : Addr) (cl : List (Str × Addr)) (fp : List Addr), PG (X.blk s H scope (compEnvC scope cl C X.env) fp) tg g)
    (ht : ∀ (σ : L2.St) (s : Shared) (H : Hp) (C : Addr) (cl : List (Str × Addr)) (fp : List Addr), Blk0 X σ s H cl fp → PTs (X.blk s H scope (compEnvC scope cl C X.env) fp) ifs (tt σ))
    (he : ∀ (σ : L2.St) (s : Shared) (H : Hp) (C : Addr) (cl : List (Str × Addr)) (fp : List Addr), Blk0 X σ s H cl fp → PE (X.blk s H scope (compEnvC scope cl C X.env) fp) elt (te σ))
    (hs : ∀ x, foldedSetIterable iter X.env x = pure x := by intro _; rfl) :
    PE X (.ListComp elt [⟨tg, iter, ifs, 0⟩] scope pos) (fun σ H Q => tLc wi g (tt σ) (te σ) (own.map (·.2)) σ H Q) := by
  refine ⟨fun pins s σ H Q I h => ?_⟩
  have hfree : ∀ y ∈ scope.names, y.2 = .free → ∃ c, X.env.cells.lookup y.1 = some c := fun y hy e => (ok.free y hy e).elim (fun k => I.ok.has _ (.inl k)) fun k => I.ok.has _ (.inr k)
  rw [eval_ListComp]
  refine wpAny_comprehension_free (use := none) rfl hs (closure_ok hfree) ok.kind (fun y hy e => by rw [ok.uniq y hy, e]) (thn (hi.run pins s σ H _ I h) fun xv s1 hx => thn hx fun itv s2 h2 => ?_)
  obtain ⟨it, fp, tn, J, H2, rfl, I2, T, st2, f2, q⟩ := h2
  refine wpAny_newObj_type (newEnv_comp ?_) (by show 0 ≤ sizeLine; decide)
  have nD : H2 s2.heap.objs.size = none := I2.hok.fresh (Nat.le_refl _)
  obtain ⟨W, ⟨m0, w0⟩, turn⟩ := q _ nD
  generalize hD : s2.heap.objs.size = D at nD w0 turn ⊢
  generalize hs3 : ({ s2 with heap := s2.heap.push { cls := .type "list", data := .seq ([] : List Value).toArray } } : Shared) = s3
  have h3 : s3.heap = s2.heap.push { cls := .type "list", data := .seq ([] : List Value).toArray } := by rw [← hs3]
  have I3 : Inv X pins σ (upd H2 D (.lst [])) s3 := by
    rw [← hs3]
    refine I2.laid (t' := s2.toks) (fun b o e => Heap.get?_push_of_some _ e) (Nat.le_of_eq hD) ⟨Nat.zero_le _, [], 0, .nil, ?_⟩
    rw [← hD]
    exact Heap.get?_push_size _ rfl
  have f3 : ∀ b ∈ fp, FpOk X pins (upd H2 D (.lst [])) b ∧ b < s3.heap.objs.size := fun b hb => by
    obtain ⟨o, e, _⟩ := T.obj _ _ st2 b hb
    have hlt := Heap.lt_size e
    refine ⟨⟨?_, (f2 b hb).2⟩, by rw [h3, Heap.size_push]; exact Nat.lt_succ_of_lt hlt⟩
    rw [upd_ne (by rw [← hD]; exact Nat.ne_of_lt hlt)]
    exact (f2 b hb).1
  have st3 : tn 0 s3.heap := T.keep _ _ _ st2 fun b _ o e => by rw [h3]; exact Heap.get?_push_of_some _ e
  have I4 := block_start I3 ok hN f3
  have K0 : Blk0 X σ s3 (upd H2 D (.lst [])) (cellsFrom (s3.heap.objs.size + 1) scope.names (cloFrom X.env.cells scope.names [])) fp := ⟨⟨pins, I3, fun b hb => (f3 b hb).1⟩, blk_far I3 hfree⟩
  have pg := hg s3 (upd H2 D (.lst [])) s3.heap.objs.size (cellsFrom (s3.heap.objs.size + 1) scope.names (cloFrom X.env.cells scope.names [])) fp
  have pt := ht σ s3 (upd H2 D (.lst [])) s3.heap.objs.size _ fp K0
  have pe := he σ s3 (upd H2 D (.lst [])) s3.heap.objs.size _ fp K0
  have nfp : ∀ b ∈ fp, (upd H2 D (.lst [])) b = none := fun b hb => (f3 b hb).1.1
  have fin0 : ∀ (C : Addr) (s' : Shared) (m : Str → Option Value) (H' : Hp), Inv X pins σ H' s' → Q (.ref D) H' → s'.heap.Ns C m → FpOk X pins H' C →
      compPost (model X.prog X.w) X.A X.xe none (fun u s' => EP X pins σ Q u s') (.ref D) C (.ok .next) s' := fun C s' m H' I' qq hn f =>
    ⟨m, hn, fun h'' sb => ⟨.ref D, H', I'.turned (t' := s'.toks) (fun b o hb e => (sb.2 b hb).trans e) f.1 f.2.1 f.2.2.2.1 f.2.2.2.2.1 f.2.2.2.2.2, rfl, qq⟩⟩
  generalize hce : compEnvC scope (cellsFrom (s3.heap.objs.size + 1) scope.names (cloFrom X.env.cells scope.names [])) s3.heap.objs.size X.env = ce at I4 pg pt pe
  have cL : ce.locals = s3.heap.objs.size := by subst hce; rfl
  generalize hH3 : upd H2 D (.lst []) = H3 at I3 I4 pg pt pe w0 nfp f3
  show codeAny _ _ (.compStart (.ListComp elt [⟨tg, iter, ifs, 0⟩] scope pos) 0 (.ref it) (.ref D) (compEnvC scope (cellsFrom (s3.heap.objs.size + 1) scope.names (cloFrom X.env.cells scope.names [])) s3.heap.objs.size X.env)) (compPost (model X.prog X.w) X.A X.xe none _ (.ref D) s3.heap.objs.size) { s3 with heap := pushCells (s3.heap.push { cls := .type "dict", data := .dict #[] }) scope.names }
  rw [hce]
  generalize hs4 : ({ s3 with heap := pushCells (s3.heap.push { cls := .type "dict", data := .dict #[] }) scope.names } : Shared) = s4 at I4 ⊢
  have st4 : tn 0 s4.heap := T.keep _ _ _ st3 fun b _ o e => by rw [← hs4]; exact pushCells_keeps _ _ _ _ (Heap.get?_push_of_some _ e)
  let Y : Cx := X.blk s3 H3 scope ce fp
  have stat : ∀ {σ' : L2.St} {H' : Hp} {s' : Shared}, Inv Y [] σ' H' s' → (∀ b ∈ fp, H' b = none) → ∀ b ∈ fp, FpOk Y [] H' b := fun {σ' H' s'} I' hn b hb =>
    ⟨hn b hb, (I'.ok.exf b hb).1, I'.ok.exfs b hb, .inl hb, fun x c e => (I'.ok.exf b hb).2 x c e, fun p hp => absurd (show p ∈ ([] : List (Addr × Obj)) ++ [] from hp) (by simp)⟩
  refine codeAny_compStart_list ?loop (T.self X.A 0 _ _ _ st4 ?loop)
  refine compLoop_any (fun n s' => ∃ i H', Inv Y [] (wipe σ (own.map (·.2))) H' s' ∧ tn i s'.heap ∧ (∀ b ∈ fp, H' b = none) ∧ W i n H') ?_ m0 ⟨0, H3, I4, st4, nfp, w0⟩
  rintro n s5 ⟨i, H5, I5, st5, n5, w5⟩
  rcases turn i n H5 w5 with ⟨stop, qq⟩ | ⟨go, Nx, hNx, step⟩
  · refine thnF (T.done Y rfl rfl rfl hc i [] s5 _ H5 (fun _ _ => False) I5 (stat I5 n5) st5 stop) fun r s6 ⟨hr, I6⟩ => ?_
    subst hr
    have I7 : Inv X pins σ H5 s6 := I3.call' (ch := fp) I6.os I6.base I6.hok I6.bare fun b hb => ⟨(f3 b hb).1.2.2.2.1, (f3 b hb).1.2.1, (f3 b hb).1.2.2.2.2.1, (f3 b hb).1.2.2.2.2.2⟩
    have nC : H5 s3.heap.objs.size = none := by
      have z : H5 ce.locals = none := I6.free
      rw [cL] at z
      exact z
    obtain ⟨m, hn, _⟩ := I6.loc
    have hn : s6.heap.Ns ce.locals m := hn
    rw [cL] at hn
    exact fin0 s3.heap.objs.size s6 m H5 I7 qq hn (I3.fpOk (Nat.le_refl _) nC)
  · refine thnF (T.item Y rfl rfl rfl hc i [] s5 _ H5 (fun _ _ => False) I5 (stat I5 n5) st5 go) fun r s6 ⟨u, hr, h6⟩ => ?_
    subst hr
    refine thnF h6 fun _ s7 ⟨x, H7, I7, r7, y7, st7, n7⟩ => ?_
    have I7' := I7.pinned (stat I7 n7) (T.obj _ _ st7)
    refine thnF (pg.run _ s7 _ H7 x u _ I7' r7 (step x H7 y7)) fun _ s8 ⟨σ8, H8, I8, hw8, q8⟩ => ?_
    refine thnF (pt.run _ s8 σ8 H8 _ I8 q8) fun b s9 ⟨H9, I9, q9⟩ => ?_
    have fin : ∀ {s' : Shared} {H' : Hp}, Inv Y ([] ++ pinsAt fp s7.heap) σ8 H' s' → Nx H' → ∃ m, m < n ∧ ∃ i H', Inv Y [] (wipe σ (own.map (·.2))) H' s' ∧ tn i s'.heap ∧ (∀ b ∈ fp, H' b = none) ∧ W i m H' := fun {s' H'} I' nx => by
      obtain ⟨m', hm, w'⟩ := hNx H' nx
      have pin' : ∀ b ∈ fp, ∀ o, s7.heap.get? b = some o → s'.heap.get? b = some o ∧ H' b = none := fun b hb o e =>
        let z := I'.pin (b, o) (List.mem_append_right _ (List.mem_append_right _ (mem_pinsAt hb e)))
        ⟨z.1, z.2.1⟩
      refine ⟨m', hm, i + 1, H', (I'.unpinned (pins := [])).weak (by rw [← hw8, wipe_length]) (fun j v e => ?_), T.keep _ _ _ st7 fun b hb o e => (pin' b hb o e).1, fun b hb => ?_, w'⟩
      · rw [← hw8] at e
        exact (wipe_some e).1
      · obtain ⟨o, e, _⟩ := T.obj _ _ st7 b hb
        exact (pin' b hb o e).2
    cases b with
    | false =>
      simp only [Bool.false_eq_true, if_false] at q9 ⊢
      exact fin I9 q9
    | true =>
      simp only [if_true] at q9 ⊢
      refine thnF (pe.run _ s9 σ8 H9 _ I9 q9) fun z s10 ⟨yv, H10, I10, r10, acc, hD10, hz10, nx⟩ => ?_
      exact app_ok (X := Y) I10 hD10 hz10 r10 fun s11 I11 => fin I11 nx
end
end Sv


set_option maxHeartbeats 4000000
/-! a def that is handed a lambda and calls it -/
namespace Sv
open PySem PySem.Spec PyProof.Rows L2 LamX NdefX

/-- at this state the lambda stands at f, its cells hold ws -/
structure LamAt (P : Program) (w : World) (K : PySem.W.Frag) (mg : Str → Option Value) (base : Heap) (k : Nat) (fs : List Addr) (s : Shared) (H : Hp) (f : Addr) (L : LF) (fr : List Str) (dvs : List V) (ws : List (Option V)) (tl : List (Option V) → XK → Hp → VK → Prop) : Prop where
  fn : H f = some (LamO f L)
  code : H L.c = some (CodeO L.c L.qual)
  dfl : DflAt H L.dV dvs
  ok : LOk P w K mg base k f L fr dvs tl
  cells : CellsAt L.cl fr ws s.heap H
  far : ∀ y c, L.cl.lookup y = some c → c ∉ fs
section
variable {CXg : CXT} {P : Program} {w : World} {K : PySem.W.Frag} {mg : Str → Option Value} {base : Heap} {Ng : List Str} {qg : Str} {sg : Scope} {g : Addr} {cdg : Value} {A : Around} {outer : List Env} {s : Shared} {H : Hp} {Eg : XK}
  {k i : Nat} {a : Str} {pn : List (Addr × Obj)} {xe : Value → Shared → Prop} {W : WX} {E : XK} {f : Addr} {L : LF} {fr : List Str} {dvs : List V} {ws : List (Option V)} {tl : List (Option V) → XK → Hp → VK → Prop} {p1 p2 : Pos}
/-- x() in the def that was handed the lambda -/
theorem pe_actL (LA : LamAt P w K mg base k (frs outer) s H f L fr dvs ws tl) (tk : Takes ((cxOf CXg P w K mg base Ng qg sg g cdg A outer s H Eg).tr pn xe) W)
    (hr : Room k (A.deeper (envOfC qg sg s.heap.objs.size g cdg))) (hN : Ng[i]? = some a) (hv : Vis sg a) (hd : (a == ("__debug__" : Str)) = false := by decide) (hcd : (a == ("__classdict__" : Str)) = false := by decide) :
    PE ((cxOf CXg P w K mg base Ng qg sg g cdg A outer s H Eg).tr pn xe) (.Call (.Name a p1) [] [] p2)
      (fun σZ HZ Q => σZ[i]? = some (some (.ref f)) ∧ HZ f = some (LamO f L) ∧ HZ L.c = some (CodeO L.c L.qual) ∧ DflAt HZ L.dV dvs ∧ ∃ (E' : XK) (Q' : VK), (∀ cls d H', E' cls d H' → W cls d σZ H') ∧ (∀ v H', Q' v H' → Q v H') ∧ tl ws E' HZ Q') := by
  refine ⟨fun pinsZ sZ σZ HZ Q IZ ⟨hs, h1, h2, h3, E', Q', hE, hQ, h4⟩ => ?_⟩
  refine wpAny_Call_Name_kw (thn ((pe_var (pos := p1) hN hv hd hcd).run pinsZ sZ σZ HZ (fun v H1 => v = .ref f ∧ H1 = HZ) IZ ⟨.ref f, hs, rfl, rfl⟩) fun u s1 ⟨v, H1, I1, r1, e1, e2⟩ => ?_)
  subst e1
  subst e2
  obtain rfl : u = Value.ref f := r1
  obtain ⟨od, sl, pm, ctv, ho⟩ := lamO_at I1.hok h1
  refine PySem.W.callWith_F0 ⟨_, _, _, _, ho⟩ ?_
  have C1 : CellsAt L.cl fr ws s1.heap H1 := cells_later (fs := frs outer) (ex := []) LA.cells LA.far (fun y c e z => nomatch z) I1.base
  refine wpAny_call (codeAny_mono (LA.ok.run _ _ s1 H1 ws Q' E' hr I1.env0 h1 h2 h3 C1 h4) fun r s' hq => ?_)
  cases r with
  | error e => exact tk e s' (XE.of_call I1 hE hq)
  | ok fl =>
    cases fl with
    | ret u =>
      obtain ⟨v', H', J, rv, q⟩ := I1.after hq
      exact ⟨v', H', J, rv, hQ _ _ q⟩
    | next => exact False.elim hq
    | brk => exact False.elim hq
    | cont => exact False.elim hq
end
/-- a def of one parameter, its promise told of the very state -/
structure FnSt (P : Program) (w : World) (K : PySem.W.Frag) (mg : Str → Option Value) (base : Heap) (k : Nat) (g : Addr) (Kn : List Addr → Shared → Hp → V → VK → Prop) : Prop where
  run : ∀ (A : Around) (outer : List Env) (s : Shared) (H : Hp) (u : Value) (v : V) (Q : VK), Room k A → Env0 P w K mg base A outer s H → RelV v u → Kn (frs outer) s H v Q → codeAny (model P w) A (.call (.ref g) ⟨[u], []⟩) (CR CX0 outer P w H s Q E0) s
theorem fnst_of {P : Program} {w : World} {K : PySem.W.Frag} {mg : Str → Option Value} {base : Heap} {x : Str} {st : Stmt} {g : Addr} {fd : FuncData} {N : List Str} {a : Str} {k : Nat} {Kn : List Addr → Shared → Hp → V → VK → Prop}
    (F : Fun K x x st g fd) (S : FnScope N [a] (defScope st)) (hb : Binds K fd [a] [])
    (hbody : ∀ (cdv : Value) (A : Around) (outer : List Env) (s : Shared) (H : Hp) (v : V) (Q : VK), Room k (A.deeper (envOfC x (defScope st) s.heap.objs.size g cdv)) → Env0 P w K mg base A outer s H → Kn (frs outer) s H v Q →
      ∃ t, PSs (cxOf CX0 P w K mg base N x (defScope st) g cdv A outer s H E0).nox (defBody st) t ∧ t { nx := fun _ H' => Q .non H', rt := Q } (L2.start N [v]) H) : FnSt P w K mg base (k + 1) g Kn := by
  obtain ⟨oc, od, kV, doc, pm, an, cdv, ct, osl, rfl, lk, hcd⟩ := F.ex
  refine ⟨fun A outer s H u v Q hr e0 r hk => ?_⟩
  refine run_ofS (N := N) (ps := [a]) (us := [u]) (vs := [v]) lk hcd S hr e0 (hb s [u] (e0.mod.kin.keeps fun b o e => (e0.bs b o e).1) rfl) (.cons r .nil) rfl fun hr' => ?_
  obtain ⟨t, ht, hq⟩ := hbody cdv A outer s H v Q hr' e0 hk
  exact ⟨t, ht.nox, hq⟩
section
variable {Y : Cx} {x : Str} {g : Addr} {e : Expr} {te : TE} {k : Nat} {p pos : Pos} {Kn : List Addr → Shared → Hp → V → VK → Prop}
/-- its call -/
theorem pe_callSt (G : FnSt Y.prog Y.w Y.K Y.mg Y.base k g Kn) (hr : Room k Y.A) (hg : Gl Y x) (hm : Y.mg x = some (.ref g)) (hk : PySem.W.keepIn Y.K (.ref g) = true) (he : PE Y e te) (hdb : (x == ("__debug__" : Str)) = false := by decide)
    (hst : starEach [e] Y.env = (false, eval e Y.env) :: starEach [] Y.env := by rfl) : PE Y (.Call (.Name x p) [e] [] pos) (fun σ H Q => te σ H fun v H1 => ∀ pins s, Inv Y pins σ H1 s → Kn (frs Y.stack) s H1 v Q) := by
  refine ⟨fun pins s σ H Q I h => ?_⟩
  refine wpAny_Call_Name_kw (ld_glob I hg hm ?_ hdb)
  refine PySem.W.callWith_K (h₀ := Y.base) I.ok.mod.kin hk (thn ((pa_cons he pa_nil hst).run pos pins s σ H (fun vs H1 => match vs with | [v] => ∀ pins s, Inv Y pins σ H1 s → Kn (frs Y.stack) s H1 v Q | _ => False) I h) fun us s1 ⟨vs, H1, I1, r, q⟩ => ⟨I1.kIn, ?_⟩) hst (by rfl)
  match vs, r, q with
  | [v], r, q =>
    obtain ⟨u, rfl, ru⟩ := Vals.one r
    refine wpAny_call (codeAny_mono (G.run Y.A Y.stack s1 H1 u v Q hr I1.env0 ru (q pins s1 I1)) fun r s' hq => ?_)
    cases r with
    | error e => exact (show False from hq).elim
    | ok fl =>
      cases fl with
      | ret u => exact I1.after hq
      | next => exact False.elim hq
      | brk => exact False.elim hq
      | cont => exact False.elim hq
  | [], _, q => exact q.elim
  | _ :: _ :: _, _, q => exact q.elim
end
end Sv


set_option maxHeartbeats 4000000
/-! a few more rules: enumerate of a tuple, lcm, len(set(tuple)), a count of truth values -/
namespace Sv
open PySem PySem.Spec PyProof.Rows L2
section
open AutoSeq1 (wpAny_loadPart')
theorem enum_newT (l : Addr) (items : Array Value) (n : Nat) (dct : Option Addr) (sl : Array (Option Value)) :
    Meets (Builtin.«enumerate.__new__» ⟨[.type "enumerate", .ref l], []⟩) (fun _ R s => s.heap.get? l = some { cls := .type "tuple", dict := dct, data := .seq items n, slots := sl } ∧
      R (.ok (.ret (.ref (s.heap.push { cls := .type "tuple_iterator", data := .fields #[.ref l, .int 0 0] }).objs.size)))
        { s with heap := (s.heap.push { cls := .type "tuple_iterator", data := .fields #[.ref l, .int 0 0] }).push { cls := .type "enumerate", data := .fields #[.none, .bool false, .ref s.heap.objs.size, rawInt 0, .none, .none] } }) :=
  .of_wp fun prog w A R s h => by
    obtain ⟨hp, g, d, tk, os⟩ := s
    obtain ⟨hl, h⟩ := h
    have hsub := sub_enumerate
    have hL : Heap.IsTuple (Shared.heap ⟨hp, g, d, tk, os⟩) l items := ⟨_, hl, rfl, n, rfl⟩
    wp_walk using wpAny_loadPart' hl
    refine wpAny_stack_any fun st => wpAny_pure ?_
    split
    · rename_i c _ _ _ _ _
      cases (c == Value.type "enumerate")
      · wp_walk using wpAny_loadPart' hl, wpAny_pyIter_tuple hL
        exact ⟨_, rfl, h⟩
      · wp_walk using wpAny_loadPart' hl, wpAny_pyIter_tuple hL
        exact ⟨_, rfl, h⟩
    · wp_walk using wpAny_loadPart' hl, wpAny_pyIter_tuple hL
      exact ⟨_, rfl, h⟩
end
section
variable {prog : Program} {w : World} {A : Around} {E : Value → Shared → Prop} {s : Shared}
theorem call_enumT {l : Addr} {items : Array Value} {Q : Value → Shared → Prop} (hL : s.heap.IsTuple l items)
    (h : ∀ h', IsEnum h' (s.heap.objs.size + 1) s.heap.objs.size 0 .none → h'.IsTupleIter s.heap.objs.size l 0 → h'.objs.size = s.heap.objs.size + 2 → (∀ b o, s.heap.get? b = some o → h'.get? b = some o) → Q (.ref (s.heap.objs.size + 1)) { s with heap := h' }) :
    wpAny (model prog w) A (call (.type "enumerate") [.ref l]) Q E s := by
  obtain ⟨⟨c, dct, dt, sl⟩, hl, hc, n, hd⟩ := hL
  obtain rfl : c = .type "tuple" := hc
  obtain rfl : dt = .seq items n := hd
  refine callType_new F.called_enumerate (by decide) (F.typeCall_enumerate_1 _) (F.newCall_enumerate_1 _) (fun obj => F.args_object_init_2 obj _) F.entry_enumerate_new (enum_newT l items n dct sl) ⟨hl, ?_⟩
  have hz : ∀ o : Obj, (s.heap.push o).objs.size = s.heap.objs.size + 1 := fun o => Heap.size_push ..
  have g2 : ∀ (o1 o2 : Obj), o2.isFreed = false → ((s.heap.push o1).push o2).get? (s.heap.objs.size + 1) = some o2 := fun o1 o2 e => by
    have q := Heap.get?_push_size (s.heap.push o1) (o := o2) e
    rw [hz] at q
    exact q
  show _ ∧ _
  rw [hz]
  refine ⟨⟨_, g2 _ _ rfl, rfl⟩, h _ (g2 _ _ rfl) ⟨_, Heap.get?_push_of_some _ (Heap.get?_push_size _ rfl), rfl, rfl⟩ (by rw [Heap.size_push, hz]) fun b o y => Heap.get?_push_of_some _ (Heap.get?_push_of_some _ y)⟩
end
/-- a tuple's items with their numbers, each in a new pair -/
def IteT (K : PySem.W.Frag) (a : Addr) : It :=
  ⟨fun i H => ∃ (xs : List V) (x : V), SqT K H a xs ∧ xs[i]? = some x, fun i H v H' => ∃ T x, v = .ref T ∧ H T = none ∧ H' = upd H T (.tup [.int (i : Nat), x]) ∧ ∀ xs, SqT K H a xs → xs[i]? = some x,
    fun i H => ∃ xs : List V, SqT K H a xs ∧ i = xs.length⟩
theorem turn_enumT {P : Program} {w : World} {K : PySem.W.Frag} {elts : List Expr} {kk : Nat} {tpos : Pos} (a e it : Addr) (hai : a ≠ it) (hea : e ≠ a) :
    Turn P w K (.Tuple elts kk tpos) (IteT K a) [e, it] e (fun i h => (∃ old, IsEnum h e it ((i : Nat) : Int) old) ∧ h.IsTupleIter it a i ∧ e ≠ it) where
  mem := by simp
  obj := fun i h st b hb => by
    obtain ⟨⟨old, he⟩, ⟨o, ho, hc, hd⟩, _⟩ := st
    rcases (by simpa using hb : b = e ∨ b = it) with z | z
    · subst z
      exact ⟨_, he, fun v q => nomatch q⟩
    · subst z
      exact ⟨o, ho, fun v q => by rw [hd] at q; cases q⟩
  keep := fun i h h' st k => ⟨st.1.elim fun old he => ⟨old, k e (by simp) _ he⟩, st.2.1.at fun o q => k it (by simp) o q, st.2.2⟩
  item := by
    intro X hP hw hK hc i pins s σ H E I hf st hg
    subst hP hw hK
    obtain ⟨⟨old, he⟩, hit, hne⟩ := st
    obtain ⟨xs, x, hq, hx⟩ := hg
    obtain ⟨its, rv, p, hz⟩ := I.tuple hq
    obtain ⟨u, hu, ru⟩ := rv.get hx
    have hi : i < its.toArray.size := by
      obtain ⟨hlt, _⟩ := List.getElem?_eq_some_iff.mp hu
      simpa using hlt
    have hel : e < s.heap.objs.size := Heap.lt_size he
    have hil : it < s.heap.objs.size := by obtain ⟨_, q, _⟩ := hit; exact Heap.lt_size q
    have hh : X.A.in1.handled = none := by
      have := I.ok.hd hc
      simpa using this
    refine wpAny_pyNext_enum_itemD (Draws.tuple hh it a hai its.toArray) he ⟨hit, p⟩ hi hne (by simp; exact ⟨hne, hea⟩) fun y h' tk hy ho hst' hT hsz hk => ?_
    obtain rfl : y = u := by
      have q : its.toArray[i]? = some y := hy
      rw [show its.toArray[i]? = some u by simpa using hu] at q
      exact (Option.some.inj q).symm
    refine ⟨_, rfl, wpAny_letOwnedTupleGo_enum (s := { s with heap := h', toks := tk + 1 }) ho fun h'' he' sb => ?_⟩
    have hT2 : h''.get? s.heap.objs.size = some { cls := .type "tuple", data := .seq #[.int i tk, y] } := (sb.2 _ (Nat.ne_of_gt hel)).trans hT
    have new : ObjOk X.prog X.w (upd H s.heap.objs.size (.tup [.int (i : Nat), x])) h'' s.heap.objs.size (.tup [.int (i : Nat), x]) :=
      ⟨by show 2 ≤ sizeLine; decide, [.int i tk, y], .cons ⟨_, rfl⟩ (.cons ru .nil), ⟨_, hT2, rfl, _, rfl⟩⟩
    have I1 : Inv X pins σ (upd H s.heap.objs.size (.tup [.int (i : Nat), x])) { s with heap := h'', toks := tk + 1 } :=
      I.turnedNew (ch := [e, it]) (fun b ob hb q => (sb.2 b (fun z => hb (by simp [z]))).trans (hk b ob (fun z => hb (by simp [z])) (fun z => hb (by simp [z])) q)) hf (Nat.le_refl _) new
    refine ⟨.ref s.heap.objs.size, _, I1, rfl, ⟨_, x, rfl, I.hok.fresh (Nat.le_refl _), rfl, fun ys hy => by rw [I.tuple_inj hy hq]; exact hx⟩, ⟨⟨y, ?_⟩, hst'.1.at fun o q => (sb.2 it (Ne.symm hne)).trans q, hne⟩, fun b hb => ?_⟩
    · rw [show ((i + 1 : Nat) : Int) = (i : Int) + 1 by omega]
      exact he'
    · have hb' : b < s.heap.objs.size := by
        rcases (by simpa using hb : b = e ∨ b = it) with z | z
        · rw [z]; exact hel
        · rw [z]; exact hil
      rw [upd_ne (Nat.ne_of_lt hb')]
      exact (hf b hb).1
  done := by
    intro X hP hw hK hc i pins s σ H E I hf st hg
    subst hP hw hK
    obtain ⟨⟨old, he⟩, hit, hne⟩ := st
    obtain ⟨xs, hq, hx⟩ := hg
    obtain ⟨its, rv, p, hz⟩ := I.tuple hq
    obtain ⟨f0, f1, f2, f3, f4, f5⟩ := hf it (by simp)
    have hl := rv.length
    have hh : X.A.in1.handled = none := by
      have := I.ok.hd hc
      simpa using this
    refine wpAny_pyNext_enum_endD (Draws.tuple hh it a hai its.toArray) he ⟨?_, p⟩ fun h' eb => ⟨rfl, I.turned (t' := s.toks) (fun b o hb q => eb b o hb q) f0 f1 f3 f4 f5⟩
    rw [List.size_toArray, ← hl, ← hx]
    exact hit
  self := fun A i s Q E st h => let ⟨⟨_, he⟩, _⟩ := st; wpAny_pyIter_enum he h
def iEnumT (K : PySem.W.Frag) (ta : TA) : TI := fun σ H R => ta σ H fun vs H1 => ∃ a xs, vs = [.ref a] ∧ SqT K H1 a xs ∧ R (IteT K a) H1
theorem pi_enumT {X : Cx} {e : Expr} {ta : TA} {p pos tpos : Pos} {elts : List Expr} {kk : Nat} (hg : Gl X "enumerate") (hm : X.mg "enumerate" = none) (ha : PA X [e] ta) (hs : starEach [e] X.env = [(false, eval e X.env)] := by rfl) :
    PI X (.Tuple elts kk tpos) (.Call (.Name "enumerate" p) [e] [] pos) (iEnumT X.K ta) := by
  refine ⟨fun pins s σ H R I h => ?_⟩
  refine Call_ (ld_blt I hg hm boot_enumerate (PyProof.Rows.callWith_type1 (thn (ha.run pos pins s σ H _ I h) fun us s1 ⟨vs, H1, I1, r1, a, xs, ex, hq, q⟩ => ?_) hs rfl))
  subst ex
  obtain rfl := r1.ref1
  obtain ⟨its, rv, p', hz⟩ := I1.tuple hq
  have hal : a < s1.heap.objs.size := (let ⟨_, q, _⟩ := p'; Heap.lt_size q)
  refine call_enumT p' fun h' he hit hsz hk => wpAny_pyIter_enum he ?_
  have I2 : Inv X pins σ H1 { s1 with heap := h' } := I1.kept (t' := s1.toks) hk
  refine ⟨s1.heap.objs.size + 1, [s1.heap.objs.size + 1, s1.heap.objs.size], _, _, H1, rfl, I2, turn_enumT a (s1.heap.objs.size + 1) s1.heap.objs.size (Nat.ne_of_lt hal) (Nat.ne_of_gt (Nat.lt_succ_of_lt hal)), ⟨⟨.none, he⟩, hit, Nat.succ_ne_self _⟩, fun b hb => ?_, q⟩
  have hle : s1.heap.objs.size ≤ b := by
    rcases (by simpa using hb : b = s1.heap.objs.size + 1 ∨ b = s1.heap.objs.size) with z | z
    · rw [z]; exact Nat.le_add_right _ _
    · rw [z]; exact Nat.le_refl _
  exact I1.fpOk hle (I1.hok.fresh hle)
theorem for_enumT {K : PySem.W.Frag} {a : Addr} {xs : List V} {g : TG} {tb : TS} {D : Ends} {σ : L2.St} {H : Hp} (Pv : Nat → L2.St → Hp → Prop) (h0 : Pv 0 σ H) (hl : ∀ i σ H, i ≤ xs.length → Pv i σ H → SqT K H a xs)
    (turn : ∀ i x σ H T, xs[i]? = some x → Pv i σ H → H T = none → g (.ref T) σ (upd H T (.tup [.int (i : Nat), x])) fun σ' H' => tb { nx := fun σ2 H2 => Pv (i + 1) σ2 H2, rt := D.rt, bk := D.nx, ct := fun σ2 H2 => Pv (i + 1) σ2 H2 } σ' H')
    (after : ∀ σ H, Pv xs.length σ H → D.nx σ H) : ∃ W : Nat → Nat → L2.St → Hp → Prop, (∃ m, W 0 m σ H) ∧ ∀ i m σ H, W i m σ H →
      ((IteT K a).stop i H ∧ D.nx σ H) ∨ ((IteT K a).go i H ∧ ∃ Nx : L2.St → Hp → Prop, (∀ σ' H', Nx σ' H' → ∃ m', m' < m ∧ W (i + 1) m' σ' H') ∧ ∀ x H', (IteT K a).yld i H x H' → g x σ H' fun σ2 H2 => tb { nx := Nx, rt := D.rt, bk := D.nx, ct := Nx } σ2 H2) := by
  refine ⟨fun i m σ H => i + m = xs.length ∧ Pv i σ H, ⟨xs.length, Nat.zero_add _, h0⟩, fun i m σ H ⟨em, hP⟩ => ?_⟩
  have hS := hl i σ H (by omega) hP
  by_cases hi : i < xs.length
  · have gx : xs[i]? = some xs[i] := List.getElem?_eq_getElem hi
    refine .inr ⟨⟨xs, _, hS, gx⟩, fun σ' H' => Pv (i + 1) σ' H', fun σ' H' h => ⟨m - 1, by omega, by omega, h⟩, fun x H' hy => ?_⟩
    obtain ⟨T, y, rfl, nT, rfl, hy⟩ := hy
    have ey : y = xs[i] := Option.some.inj ((hy xs hS).symm.trans gx)
    rw [ey]
    exact turn i _ σ H T gx hP nT
  · have e : i = xs.length := by omega
    refine .inl ⟨⟨xs, hS, e⟩, after σ H ?_⟩
    rw [← e]
    exact hP

/-! ### lcm -/
def rLcm : List V → Hp → VK → Prop := fun vs H Q => ∃ a b : Nat, vs = [.int a, .int b] ∧ a < 2 ^ 64 ∧ b < 2 ^ 64 ∧ Q (.int ((Nat.lcm a b : Nat) : Int)) H
theorem cr_lcm {X : Cx} : CallR X (.builtin "math.lcm") rLcm := by
  intro pins s σ H vs us Q I r h
  obtain ⟨a, b, rfl, ha, hb, q⟩ := h
  obtain ⟨t, u, rfl⟩ := Vals.int2 r
  exact PySem.W.mc_lcm (by simpa using ha) (by simpa using hb) fun _ => ⟨.int _, H, I.tok _, ⟨_, rfl⟩, by simpa using q⟩
/-! ### len(set(t)), t a tuple of ints -/
theorem nodup_sub_len : ∀ {l m : List Int}, l.Nodup → (∀ x ∈ l, x ∈ m) → l.length ≤ m.length
  | [], _, _, _ => Nat.zero_le _
  | x :: r, m, nd, h => by
    have hx : x ∈ m := h x (List.mem_cons_self ..)
    have nr := (List.nodup_cons.mp nd)
    have ih := nodup_sub_len (l := r) (m := m.erase x) nr.2 fun y hy => (List.mem_erase_of_ne (fun e => nr.1 (by rw [← e]; exact hy))).mpr (h y (List.mem_cons_of_mem _ hy))
    rw [List.length_erase_of_mem hx] at ih
    have : 0 < m.length := List.length_pos_of_mem hx
    show r.length + 1 ≤ m.length
    omega
theorem nodup_of_len : ∀ {l m : List Int}, m.Nodup → (∀ x ∈ m, x ∈ l) → l.length ≤ m.length → l.Nodup
  | [], _, _, _, _ => List.nodup_nil
  | x :: r, m, nd, h, hl => by
    have hx : x ∉ r := fun hm => by
      have q := nodup_sub_len (l := m) (m := r) nd fun y hy => (List.mem_cons.mp (h y hy)).elim (fun e => by rw [e]; exact hm) id
      simp at hl
      omega
    refine List.nodup_cons.mpr ⟨hx, nodup_of_len (m := m.erase x) (nd.erase x) (fun y hy => ?_) ?_⟩
    · have hm := List.mem_of_mem_erase hy
      rcases List.mem_cons.mp (h y hm) with e | e
      · rw [e] at hy
        exact absurd hy (nd.not_mem_erase)
      · exact e
    · by_cases hm : x ∈ m
      · rw [List.length_erase_of_mem hm]
        simp at hl
        omega
      · rw [List.erase_of_not_mem hm]
        simp at hl
        omega
/-- how many: all of them, just where none stands twice -/
def tLenSetT (K : PySem.W.Frag) (ta : TE) : TE := fun σ H Q => ta σ H fun x H1 => ∃ (l : Addr) (ns : List Int), x = .ref l ∧ SqT K H1 l (ns.map V.int) ∧ ns.length ≤ 4000 ∧ ∀ c : Nat, c ≤ ns.length → (c = ns.length ↔ ns.Nodup) → Q (.int c) H1
theorem pe_lenSetT {X : Cx} {a : Expr} {ta : TE} {p p2 q pos : Pos} (hg : Gl X "len") (hm : X.mg "len" = none) (hg2 : Gl X "set") (hm2 : X.mg "set" = none) (ha : PE X a ta) (hc : X.calm = true := by rfl)
    (na : starEach [a] X.env = (false, eval a X.env) :: starEach [] X.env := by rfl) : PE X (.Call (.Name "len" p) [.Call (.Name "set" p2) [a] [] q] [] pos) (tLenSetT X.K ta) := by
  refine ⟨fun pins s σ H Q I h => Call_ (ld_blt I hg hm boot_len ?_)⟩
  refine PyProof.Rows.callWith_builtin1 (PyProof.Rows.args_cons (Call_ (ld_blt I hg2 hm2 boot_set ?_)) rfl) rfl rfl
  refine PyProof.Rows.callWith_type1 (PyProof.Rows.args_cons (thn (ha.run pins s σ H _ I h) fun v s1 ⟨x, H1, I1, r1, q1⟩ => PyProof.Rows.args_nil ?_) na) na rfl
  obtain ⟨l, ns, rfl, hq, hl, q1⟩ := q1
  cases r1
  obtain ⟨its, r, pl, hz⟩ := I1.tuple hq
  refine call_set_tupI ns (I1.ok.hd hc) pl (by simpa using RZ.intsAre_vals r) (by unfold scanBound; omega) fun h' tk c hS hcl hk => PyProof.Rows.args_nil ?_
  obtain ⟨o, es, ep, t, ho, hex, hd, _, nd, hmem, _, hf, hn, _⟩ := hS
  have I2 : Inv X pins σ H1 { s1 with heap := h', toks := tk } := I1.kept hk
  have hmm : ∀ k, k ∈ es.toList.map keyOf ↔ k ∈ ns := fun k => by rw [← hmem k]; exact decide_eq_true_iff
  have hlen : (es.toList.map keyOf).length = c := by rw [List.length_map, Array.length_toList]; exact hn
  refine call_len_set ho hex hd hf (by rw [hn] <;> omega) ⟨.int c, H1, I2.tok _, ⟨_, by rw [hn]⟩, q1 c hcl ⟨fun e => ?_, fun e => ?_⟩⟩
  · exact nodup_of_len nd (fun x hx => (hmm x).mp hx) (by rw [hlen, e]; exact Nat.le_refl _)
  · have q := nodup_sub_len e fun x hx => (hmm x).mpr hx
    rw [hlen] at q
    omega
/-! ### xs.count(y), y and the items plain -/
theorem count_eqU {x : V} : ∀ {xs : List V} {us : List Value}, Vals xs us → xs.all flatV = true → us.countP (eqU x) = xs.countP fun y => eqV y x
  | _, _, .nil, _ => rfl
  | y :: xs, u :: us, .cons r t, f => by
    rw [List.all_cons, Bool.and_eq_true] at f
    rw [List.countP_cons, List.countP_cons, count_eqU t f.2, eqU_of r f.1]
def rCntV (K : PySem.W.Frag) : V → List V → Hp → VK → Prop := fun x xs H Q => ∃ (p : Addr) (ys : List V) (y : V), x = .ref p ∧ xs = [y] ∧ SqL K H p ys ∧ flatV y = true ∧ ys.all flatV = true ∧ Q (.int (ys.countP fun z => eqV z y : Nat)) H
theorem mt_countV {X : Cx} : MtR X "list.count" (rCntV X.K) := by
  intro pins s σ H x xs v us Q I rx rxs h
  obtain ⟨p, ys, y, rfl, rfl, hs, fy, fys, q⟩ := h
  cases rx
  obtain ⟨u, rfl, ru⟩ := rxs.one
  obtain ⟨its, rv, ⟨⟨cls, dd, data, sl⟩, n, ho, hc, hdn, hd⟩, hlen⟩ := I.list hs
  simp only at hc hd
  subst hc hd
  refine call_meets PySem.F.slot_list_count ⟨_, ho, rfl⟩ PySem.F.entry_list_count (PySem.F.args_list_count_2 _ _)
    (SeqAt.list_countAt p its.toArray n dd sl u (eqU y)) ⟨ho, fun u' hu' => mem_eqAt ru fy rv fys u' (by simpa using hu'), ?_⟩
  refine ⟨.int (ys.countP fun z => eqV z y : Nat), H, I.tok _, ⟨s.toks, ?_⟩, q⟩
  rw [← count_eqU rv fys]
end Sv


set_option maxHeartbeats 1000000
/-! effects as lists of numbers: iterates, periods, cycles, repetitions -/
namespace Sv
/-- a list of each number below its length once -/
def Eff (e : List Nat) : Prop := (∀ x ∈ e, x < e.length) ∧ e.Nodup
def ap (e : List Nat) (x : Nat) : Nat := e.getD x 0
def it (e : List Nat) : Nat → Nat → Nat
  | 0, x => x
  | k + 1, x => ap e (it e k x)
theorem ap_at {e : List Nat} {x : Nat} (h : x < e.length) : e[x]? = some (ap e x) := by
  unfold ap
  rw [List.getD_eq_getElem?_getD, List.getElem?_eq_getElem h]
  rfl
theorem ap_lt {e : List Nat} (E : Eff e) {x : Nat} (h : x < e.length) : ap e x < e.length := E.1 _ (List.mem_of_getElem? (ap_at h))
theorem ap_inj {e : List Nat} (E : Eff e) {x y : Nat} (hx : x < e.length) (hy : y < e.length) (q : ap e x = ap e y) : x = y := by
  have h1 := ap_at hx
  have h2 := ap_at hy
  rw [q, ← h2] at h1
  rw [List.getElem?_eq_getElem hx, List.getElem?_eq_getElem hy] at h1
  exact (List.getElem_inj E.2).mp (Option.some.inj h1)
theorem it_lt {e : List Nat} (E : Eff e) : ∀ {k x : Nat}, x < e.length → it e k x < e.length
  | 0, _, h => h
  | k + 1, _, h => ap_lt E (it_lt E h)
theorem it_add (e : List Nat) (a b x : Nat) : it e (a + b) x = it e a (it e b x) := by
  induction a with
  | zero =>
    rw [Nat.zero_add]
    rfl
  | succ a ih =>
    rw [Nat.succ_add]
    show ap e (it e (a + b) x) = ap e (it e a (it e b x))
    rw [ih]
theorem it_inj {e : List Nat} (E : Eff e) : ∀ {k x y : Nat}, x < e.length → y < e.length → it e k x = it e k y → x = y
  | 0, _, _, _, _, q => q
  | k + 1, _, _, hx, hy, q => it_inj (k := k) E hx hy (ap_inj E (it_lt E hx) (it_lt E hy) q)
theorem nat_sub_len : ∀ {l m : List Nat}, l.Nodup → (∀ x ∈ l, x ∈ m) → l.length ≤ m.length
  | [], _, _, _ => Nat.zero_le _
  | x :: r, m, nd, h => by
    have hx : x ∈ m := h x (List.mem_cons_self ..)
    have nr := (List.nodup_cons.mp nd)
    have ih := nat_sub_len (l := r) (m := m.erase x) nr.2 fun y hy => (List.mem_erase_of_ne (fun e => nr.1 (by rw [← e]; exact hy))).mpr (h y (List.mem_cons_of_mem _ hy))
    rw [List.length_erase_of_mem hx] at ih
    have := List.length_pos_of_mem hx
    show r.length + 1 ≤ m.length
    omega
theorem below_len {l : List Nat} {n : Nat} (nd : l.Nodup) (h : ∀ x ∈ l, x < n) : l.length ≤ n := by
  have q := nat_sub_len (m := List.range n) nd fun x hx => List.mem_range.mpr (h x hx)
  rwa [List.length_range] at q
theorem least {P : Nat → Prop} : (∃ k, P k) → ∃ k, P k ∧ ∀ j, j < k → ¬ P j := by
  intro ⟨k, hk⟩
  induction k using Nat.strongRecOn with
  | _ k ih =>
    by_cases h : ∃ j, j < k ∧ P j
    · obtain ⟨j, hj, pj⟩ := h
      exact ih j hj pj
    · exact ⟨k, hk, fun j hj pj => h ⟨j, hj, pj⟩⟩
theorem map_nodup {f : Nat → Nat} {n : Nat} (h : ∀ i j, i < j → j < n → f i ≠ f j) : ((List.range n).map f).Nodup := by
  refine List.pairwise_iff_getElem.mpr fun i j hi hj hij => ?_
  have hi' : i < n := by simpa using hi
  have hj' : j < n := by simpa using hj
  simp only [List.getElem_map, List.getElem_range]
  exact h i j hij hj'
theorem returns {e : List Nat} (E : Eff e) {s : Nat} (hs : s < e.length) : ∃ k, 1 ≤ k ∧ k ≤ e.length ∧ it e k s = s := by
  by_cases h : ∃ i j, i < j ∧ j < e.length + 1 ∧ it e i s = it e j s
  · obtain ⟨i, j, hij, hj, q⟩ := h
    refine ⟨j - i, by omega, by omega, ?_⟩
    have e1 : it e j s = it e i (it e (j - i) s) := by
      rw [← it_add]
      congr 1
      omega
    rw [e1] at q
    exact (it_inj (k := i) E hs (it_lt E hs) q).symm
  · have nd := map_nodup (f := fun k => it e k s) (n := e.length + 1) fun i j hij hj q => h ⟨i, j, hij, hj, q⟩
    have hl := below_len nd (n := e.length) fun x hx => by
      obtain ⟨k, _, rfl⟩ := List.mem_map.mp hx
      exact it_lt E hs
    simp at hl
    omega
/-- the period of a place -/
noncomputable def per (e : List Nat) (s : Nat) : Nat := open Classical in if h : ∃ k, (1 ≤ k ∧ it e k s = s) then Classical.choose (least h) else 1
theorem per_spec {e : List Nat} (E : Eff e) {s : Nat} (hs : s < e.length) : 1 ≤ per e s ∧ it e (per e s) s = s ∧ (∀ j, 1 ≤ j → j < per e s → it e j s ≠ s) ∧ per e s ≤ e.length := by
  obtain ⟨k, h1, h2, h3⟩ := returns E hs
  have h : ∃ k, (1 ≤ k ∧ it e k s = s) := ⟨k, h1, h3⟩
  have q := Classical.choose_spec (least h)
  have ep : per e s = Classical.choose (least h) := by
    unfold per
    rw [dif_pos h]
  rw [ep]
  refine ⟨q.1.1, q.1.2, fun j a b c => q.2 j b ⟨a, c⟩, ?_⟩
  refine Nat.le_trans ?_ h2
  by_cases hk : Classical.choose (least h) ≤ k
  · exact hk
  · exact absurd ⟨h1, h3⟩ (q.2 k (by omega))
theorem per_pos {e : List Nat} (E : Eff e) {s : Nat} (hs : s < e.length) : 0 < per e s := (per_spec E hs).1
theorem it_mul {e : List Nat} {s p : Nat} (h : it e p s = s) : ∀ m : Nat, it e (m * p) s = s
  | 0 => by rw [Nat.zero_mul]; rfl
  | m + 1 => by
    rw [Nat.succ_mul, it_add, h]
    exact it_mul h m
theorem it_mod {e : List Nat} (E : Eff e) {s : Nat} (hs : s < e.length) (k : Nat) : it e k s = it e (k % per e s) s := by
  have h := Nat.div_add_mod k (per e s)
  have e1 : it e k s = it e (k % per e s + (k / per e s) * per e s) s := by
    congr 1
    rw [Nat.mul_comm (k / per e s)]
    omega
  rw [e1, it_add, it_mul (per_spec E hs).2.1]
theorem it_eq_iff {e : List Nat} (E : Eff e) {s : Nat} (hs : s < e.length) (k : Nat) : it e k s = s ↔ per e s ∣ k := by
  constructor
  · intro h
    rw [it_mod E hs] at h
    have hlt := Nat.mod_lt k (per_pos E hs)
    by_cases h0 : k % per e s = 0
    · exact Nat.dvd_of_mod_eq_zero h0
    · exact absurd h ((per_spec E hs).2.2.1 _ (by omega) hlt)
  · intro ⟨m, hm⟩
    rw [hm, Nat.mul_comm]
    exact it_mul (per_spec E hs).2.1 m
theorem per_it {e : List Nat} (E : Eff e) {s : Nat} (hs : s < e.length) (j : Nat) : per e (it e j s) = per e s := by
  have key : ∀ k, it e k (it e j s) = it e j s ↔ it e k s = s := fun k => by
    constructor
    · intro h
      rw [← it_add, Nat.add_comm, it_add] at h
      exact it_inj (k := j) E (it_lt E hs) hs h
    · intro h
      rw [← it_add, Nat.add_comm, it_add, h]
  have h1 := per_spec E hs
  have h2 := per_spec E (it_lt E hs : it e j s < e.length)
  refine Nat.le_antisymm ?_ ?_
  · by_cases h : per e (it e j s) ≤ per e s
    · exact h
    · exact absurd ((key _).mpr h1.2.1) (h2.2.2.1 _ h1.1 (by omega))
  · by_cases h : per e s ≤ per e (it e j s)
    · exact h
    · exact absurd ((key _).mp h2.2.1) (h1.2.2.1 _ h2.1 (by omega))
/-- a place, so many times on (or back) -/
noncomputable def rp (e : List Nat) (c : Int) (p : Nat) : Nat := it e (c % (per e p : Int)).toNat p
theorem rp_lt {e : List Nat} (E : Eff e) {c : Int} {p : Nat} (hp : p < e.length) : rp e c p < e.length := it_lt E hp
theorem per_rp {e : List Nat} (E : Eff e) {c : Int} {p : Nat} (hp : p < e.length) : per e (rp e c p) = per e p := per_it E hp _
theorem rp_nat {e : List Nat} (E : Eff e) (k : Nat) {p : Nat} (hp : p < e.length) : rp e (k : Int) p = it e k p := by
  unfold rp
  rw [it_mod E hp k]
  congr 1
theorem rp_add {e : List Nat} (E : Eff e) (a b : Int) {p : Nat} (hp : p < e.length) : rp e b (rp e a p) = rp e (a + b) p := by
  have hpos : (0 : Int) < (per e p : Int) := by
    have := per_pos E hp
    omega
  unfold rp
  rw [per_it E hp, ← it_add, it_mod E hp]
  congr 1
  have h1 := Int.emod_nonneg a (Int.ne_of_gt hpos)
  have h2 := Int.emod_nonneg b (Int.ne_of_gt hpos)
  have h3 := Int.emod_nonneg (a + b) (Int.ne_of_gt hpos)
  have e1 : (((b % (per e p : Int)).toNat + (a % (per e p : Int)).toNat : Nat) : Int) % (per e p : Int) = (a + b) % (per e p : Int) := by
    rw [Int.natCast_add, Int.toNat_of_nonneg h1, Int.toNat_of_nonneg h2, ← Int.add_emod, Int.add_comm]
  rw [← Int.natCast_emod] at e1
  omega
theorem rp_zero {e : List Nat} (p : Nat) : rp e 0 p = p := by
  unfold rp
  rw [Int.zero_emod]
  rfl
theorem rp_inj {e : List Nat} (E : Eff e) {c : Int} {p q : Nat} (hp : p < e.length) (hq : q < e.length) (h : rp e c p = rp e c q) : p = q := by
  have h1 := congrArg (rp e (-c)) h
  rw [rp_add E _ _ hp, rp_add E _ _ hq] at h1
  have e0 : c + -c = 0 := by omega
  rwa [e0, rp_zero, rp_zero] at h1
/-- the effect, so many times -/
noncomputable def rep (e : List Nat) (c : Int) : List Nat := (List.range e.length).map (rp e c)
theorem rep_len (e : List Nat) (c : Int) : (rep e c).length = e.length := by unfold rep; simp
theorem rep_ap {e : List Nat} {c : Int} {p : Nat} (hp : p < e.length) : ap (rep e c) p = rp e c p := by
  unfold rep ap
  rw [List.getD_eq_getElem?_getD, List.getElem?_map, List.getElem?_range hp]
  rfl
theorem map_eff {n : Nat} {f : Nat → Nat} (h1 : ∀ p, p < n → f p < n) (h2 : ∀ p q, p < n → q < n → f p = f q → p = q) : Eff ((List.range n).map f) := by
  refine ⟨fun x hx => ?_, map_nodup fun i j hij hj q => ?_⟩
  · obtain ⟨p, hp, rfl⟩ := List.mem_map.mp hx
    rw [List.length_map, List.length_range]
    exact h1 p (List.mem_range.mp hp)
  · have := h2 i j (by omega) hj q
    omega
theorem rep_eff {e : List Nat} (E : Eff e) (c : Int) : Eff (rep e c) := map_eff (fun p hp => rp_lt E hp) fun p q hp hq h => rp_inj E hp hq h
/-- two lists of one length are one if they are so at each place -/
theorem ext_ap {a b : List Nat} (hl : a.length = b.length) (h : ∀ p, p < a.length → ap a p = ap b p) : a = b := by
  refine List.ext_getElem? fun i => ?_
  by_cases hi : i < a.length
  · rw [ap_at hi, ap_at (by omega), h i hi]
  · rw [List.getElem?_eq_none (by omega), List.getElem?_eq_none (by omega)]
def comp (a b : List Nat) : List Nat := a.map (ap b)
theorem comp_len (a b : List Nat) : (comp a b).length = a.length := by unfold comp; simp
theorem comp_ap {a b : List Nat} {p : Nat} (hp : p < a.length) : ap (comp a b) p = ap b (ap a p) := by
  unfold comp
  have h : (a.map (ap b))[p]? = some (ap b (ap a p)) := by rw [List.getElem?_map, ap_at hp]; rfl
  rw [ap_at (by simpa using hp)] at h
  exact Option.some.inj h
theorem comp_eff {a b : List Nat} (A : Eff a) (B : Eff b) (hl : a.length = b.length) : Eff (comp a b) := by
  refine ⟨fun x hx => ?_, ?_⟩
  · obtain ⟨y, hy, rfl⟩ := List.mem_map.mp hx
    rw [comp_len, hl]
    exact ap_lt B (by rw [← hl]; exact A.1 y hy)
  · unfold comp
    refine List.pairwise_iff_getElem.mpr fun i j hi hj hij q => ?_
    simp only [List.getElem_map] at q
    simp at hi hj
    have q2 := ap_inj B (by rw [← hl]; exact A.1 _ (List.getElem_mem hi)) (by rw [← hl]; exact A.1 _ (List.getElem_mem hj)) q
    exact absurd ((List.getElem_inj A.2).mp q2) (by omega)
theorem comp_assoc {a b c : List Nat} (A : Eff a) (hl : a.length = b.length) : comp (comp a b) c = comp a (comp b c) := by
  refine ext_ap (by simp [comp_len]) fun p hp => ?_
  rw [comp_len, comp_len] at hp
  rw [comp_ap (by rw [comp_len]; exact hp), comp_ap hp, comp_ap hp, comp_ap (by rw [← hl]; exact ap_lt A hp)]
theorem rep_comp {e : List Nat} (E : Eff e) (a b : Int) : comp (rep e a) (rep e b) = rep e (a + b) := by
  refine ext_ap (by simp [comp_len, rep_len]) fun p hp => ?_
  rw [comp_len, rep_len] at hp
  rw [comp_ap (by rw [rep_len]; exact hp), rep_ap hp, rep_ap (rp_lt E hp), rep_ap hp, rp_add E _ _ hp]
theorem rep_one {e : List Nat} (E : Eff e) : rep e 1 = e := by
  refine ext_ap (rep_len e 1) fun p hp => ?_
  rw [rep_len] at hp
  rw [rep_ap hp]
  exact rp_nat E 1 hp
theorem rep_zero (e : List Nat) : rep e 0 = List.range e.length := by
  unfold rep
  rw [show (List.range e.length).map (rp e 0) = (List.range e.length).map id from List.map_congr_left fun p _ => rp_zero p]
  exact List.map_id _
/-- the inverse, as the program makes it: step by step -/
def invF (e : List Nat) : Nat → List Nat
  | 0 => List.replicate e.length 0
  | k + 1 => (invF e k).set (ap e k) k
theorem invF_len (e : List Nat) : ∀ k, (invF e k).length = e.length
  | 0 => List.length_replicate
  | k + 1 => by
    show ((invF e k).set _ _).length = _
    rw [List.length_set, invF_len e k]
theorem invF_at {e : List Nat} (E : Eff e) : ∀ (k : Nat), k ≤ e.length → ∀ i, i < k → ap (invF e k) (ap e i) = i
  | 0, _, i, hi => by omega
  | k + 1, hk, i, hi => by
    have hlen := invF_len e k
    show ap ((invF e k).set (ap e k) k) (ap e i) = i
    have hik : ap e i < (invF e k).length := by
      rw [hlen]
      exact ap_lt E (by omega)
    by_cases h : i = k
    · subst h
      unfold ap at *
      rw [List.getD_eq_getElem?_getD, List.getElem?_set_self hik]
      rfl
    · have ne : ap e k ≠ ap e i := fun q => h (ap_inj E (by omega) (by omega) q).symm
      have ih := invF_at E k (by omega) i (by omega)
      unfold ap at *
      rw [List.getD_eq_getElem?_getD, List.getElem?_set_ne ne, ← List.getD_eq_getElem?_getD]
      exact ih
def inv (e : List Nat) : List Nat := invF e e.length
theorem inv_len (e : List Nat) : (inv e).length = e.length := invF_len e _
theorem inv_ap {e : List Nat} (E : Eff e) {i : Nat} (hi : i < e.length) : ap (inv e) (ap e i) = i := invF_at E _ (Nat.le_refl _) i hi
/-- the inverse of a repetition -/
theorem inv_rep {e : List Nat} (E : Eff e) (c : Int) : inv (rep e c) = rep e (-c) := by
  refine ext_ap (by rw [inv_len, rep_len, rep_len]) fun q hq => ?_
  rw [inv_len, rep_len] at hq
  have h1 : rp e c (rp e (-c) q) = q := by
    rw [rp_add E _ _ hq, show -c + c = 0 by omega, rp_zero]
  have h2 := inv_ap (rep_eff E c) (i := rp e (-c) q) (by rw [rep_len]; exact rp_lt E hq)
  rw [rep_ap (rp_lt E hq), h1] at h2
  rw [h2, rep_ap hq]
theorem inv_eq {e : List Nat} (E : Eff e) : inv e = rep e (-1) := by
  have h := inv_rep E 1
  rwa [rep_one E] at h
theorem inv_eff {e : List Nat} (E : Eff e) : Eff (inv e) := by
  rw [inv_eq E]
  exact rep_eff E _
theorem inv_inv {e : List Nat} (E : Eff e) : inv (inv e) = e := by
  rw [inv_eq E, inv_rep E, show (- -1 : Int) = 1 by decide, rep_one E]
theorem comp_inv {e : List Nat} (E : Eff e) : comp e (inv e) = List.range e.length := by
  have h := rep_comp E 1 (-1)
  rw [rep_one E, ← inv_eq E, show (1 + -1 : Int) = 0 by decide, rep_zero] at h
  exact h
theorem rep_succ {e : List Nat} (E : Eff e) (k : Nat) : comp (rep e (k : Int)) e = rep e ((k + 1 : Nat) : Int) := by
  have h := rep_comp E (k : Int) 1
  rw [rep_one E] at h
  rw [h]
  rfl
end Sv


set_option maxHeartbeats 1000000
/-! the cycles, one after another; the order -/
namespace Sv
noncomputable def cyc (e : List Nat) (s : Nat) : List Nat := (List.range (per e s)).map fun k => it e k s
theorem cyc_len (e : List Nat) (s : Nat) : (cyc e s).length = per e s := by unfold cyc; simp
theorem cyc_at {e : List Nat} {s j : Nat} (h : j < per e s) : (cyc e s)[j]? = some (it e j s) := by
  unfold cyc
  rw [List.getElem?_map, List.getElem?_range h]
  rfl
theorem cyc_mem {e : List Nat} (E : Eff e) {s : Nat} (hs : s < e.length) {p : Nat} : p ∈ cyc e s ↔ ∃ k, p = it e k s := by
  unfold cyc
  rw [List.mem_map]
  constructor
  · rintro ⟨k, _, rfl⟩
    exact ⟨k, rfl⟩
  · rintro ⟨k, rfl⟩
    exact ⟨k % per e s, List.mem_range.mpr (Nat.mod_lt _ (per_pos E hs)), (it_mod E hs k).symm⟩
theorem cyc_nodup {e : List Nat} (E : Eff e) {s : Nat} (hs : s < e.length) : (cyc e s).Nodup := map_nodup fun i j hij hj q => by
  have e1 : it e j s = it e i (it e (j - i) s) := by
    rw [← it_add]
    congr 1
    omega
  rw [e1] at q
  have q2 := (it_inj (k := i) E hs (it_lt E hs) q).symm
  exact (per_spec E hs).2.2.1 (j - i) (by omega) (by omega) q2
open Classical in
noncomputable def whN (e : List Nat) : Nat → List (List Nat)
  | 0 => []
  | k + 1 => if k ∈ (whN e k).flatten then whN e k else whN e k ++ [cyc e k]
noncomputable def wheels (e : List Nat) : List (List Nat) := whN e e.length
structure Wh (e : List Nat) (cs : List (List Nat)) : Prop where
  cy : ∀ c ∈ cs, ∃ s, s < e.length ∧ c = cyc e s
  nd : cs.flatten.Nodup
theorem Wh.lt {e : List Nat} (E : Eff e) {cs : List (List Nat)} (W : Wh e cs) {p : Nat} (h : p ∈ cs.flatten) : p < e.length := by
  obtain ⟨c, hc, hp⟩ := List.mem_flatten.mp h
  obtain ⟨s, hs, rfl⟩ := W.cy c hc
  obtain ⟨k, rfl⟩ := (cyc_mem E hs).mp hp
  exact it_lt E hs
theorem Wh.closed {e : List Nat} (E : Eff e) {cs : List (List Nat)} (W : Wh e cs) {p j : Nat} (hp : p < e.length) (h : it e j p ∈ cs.flatten) : p ∈ cs.flatten := by
  obtain ⟨c, hc, hm⟩ := List.mem_flatten.mp h
  obtain ⟨s, hs, rfl⟩ := W.cy c hc
  obtain ⟨k, hk⟩ := (cyc_mem E hs).mp hm
  refine List.mem_flatten.mpr ⟨_, hc, (cyc_mem E hs).mpr ⟨(per e p - j % per e p) + k, ?_⟩⟩
  have hpos := per_pos E hp
  have hlt := Nat.mod_lt j hpos
  rw [it_add, ← hk, it_mod E hp j, ← it_add]
  rw [show per e p - j % per e p + j % per e p = per e p by omega]
  exact (per_spec E hp).2.1.symm
theorem whN_ok {e : List Nat} (E : Eff e) : ∀ k, k ≤ e.length → Wh e (whN e k) ∧ ∀ p, p < k → p ∈ (whN e k).flatten
  | 0, _ => ⟨⟨fun c h => (by cases h), List.nodup_nil⟩, fun p h => by omega⟩
  | k + 1, hk => by
    obtain ⟨W, hc⟩ := whN_ok E k (by omega)
    unfold whN
    by_cases h : k ∈ (whN e k).flatten
    · rw [if_pos h]
      refine ⟨W, fun p hp => ?_⟩
      by_cases hpk : p = k
      · rw [hpk]; exact h
      · exact hc p (by omega)
    · rw [if_neg h]
      refine ⟨⟨fun c hm => ?_, ?_⟩, fun p hp => ?_⟩
      · rcases List.mem_append.mp hm with hm | hm
        · exact W.cy c hm
        · exact ⟨k, by omega, by simpa using hm⟩
      · rw [List.flatten_append, List.flatten_singleton]
        refine List.nodup_append.mpr ⟨W.nd, cyc_nodup E (by omega), fun a ha b hb q => ?_⟩
        subst q
        obtain ⟨j, hj⟩ := (cyc_mem E (by omega)).mp hb
        rw [hj] at ha
        exact h (W.closed E (by omega) ha)
      · rw [List.flatten_append, List.flatten_singleton]
        by_cases hpk : p = k
        · rw [hpk]
          exact List.mem_append_right _ ((cyc_mem E (by omega)).mpr ⟨0, rfl⟩)
        · exact List.mem_append_left _ (hc p (by omega))
theorem wheels_ok {e : List Nat} (E : Eff e) : Wh e (wheels e) ∧ ∀ p, p < e.length → p ∈ (wheels e).flatten := whN_ok E _ (Nat.le_refl _)
theorem Wh.flat_len {e : List Nat} (E : Eff e) {cs : List (List Nat)} (W : Wh e cs) : cs.flatten.length ≤ e.length := below_len W.nd fun x hx => W.lt E hx
theorem Wh.len {e : List Nat} (E : Eff e) {cs : List (List Nat)} (W : Wh e cs) : cs.length ≤ e.length := by
  have h : ∀ cs : List (List Nat), (∀ c ∈ cs, 1 ≤ c.length) → cs.length ≤ cs.flatten.length := by
    intro cs
    induction cs with
    | nil => intro _; exact Nat.le_refl _
    | cons c r ih =>
      intro h
      have h1 := h c (List.mem_cons_self ..)
      have h2 := ih fun d hd => h d (List.mem_cons_of_mem _ hd)
      rw [List.flatten_cons, List.length_append]
      show r.length + 1 ≤ _
      omega
  refine Nat.le_trans (h cs fun c hc => ?_) (W.flat_len E)
  obtain ⟨s, hs, rfl⟩ := W.cy c hc
  rw [cyc_len]
  exact per_pos E hs
/-! ### the order -/
def lcmL (cs : List (List Nat)) : Nat := cs.foldl (fun m c => Nat.lcm m c.length) 1
theorem lcmL_snoc (cs : List (List Nat)) (c : List Nat) : lcmL (cs ++ [c]) = Nat.lcm (lcmL cs) c.length := by
  unfold lcmL
  rw [List.foldl_append]
  rfl
theorem snoc_ind {α : Type} {P : List α → Prop} (h0 : P []) (h1 : ∀ l a, P l → P (l ++ [a])) (l : List α) : P l := by
  have h : ∀ n (l : List α), l.length = n → P l := by
    intro n
    induction n with
    | zero => intro l hl; rw [List.eq_nil_of_length_eq_zero hl]; exact h0
    | succ n ih =>
      intro l hl
      have hne : l ≠ [] := fun q => by rw [q] at hl; cases hl
      rw [← List.dropLast_concat_getLast hne]
      exact h1 _ _ (ih _ (by rw [List.length_dropLast]; omega))
  exact h _ l rfl
theorem lcmL_dvd (cs : List (List Nat)) : ∀ c ∈ cs, c.length ∣ lcmL cs := by
  refine snoc_ind (P := fun cs => ∀ c ∈ cs, c.length ∣ lcmL cs) (fun c h => by cases h) (fun l a ih c h => ?_) cs
  rw [lcmL_snoc]
  rcases List.mem_append.mp h with h | h
  · exact Nat.dvd_trans (ih c h) (Nat.dvd_lcm_left _ _)
  · have e : c = a := by simpa using h
    rw [e]
    exact Nat.dvd_lcm_right _ _
theorem lcmL_least (cs : List (List Nat)) (m : Nat) : (∀ c ∈ cs, c.length ∣ m) → lcmL cs ∣ m := by
  refine snoc_ind (P := fun cs => (∀ c ∈ cs, c.length ∣ m) → lcmL cs ∣ m) (fun _ => Nat.one_dvd _) (fun l a ih h => ?_) cs
  rw [lcmL_snoc]
  exact Nat.lcm_dvd (ih fun c hc => h c (List.mem_append_left _ hc)) (h a (by simp))
theorem lcmL_bound (cs : List (List Nat)) : lcmL cs ≤ 2 ^ cs.flatten.length := by
  refine snoc_ind (P := fun cs => lcmL cs ≤ 2 ^ cs.flatten.length) (by decide) (fun l a ih => ?_) cs
  rw [lcmL_snoc, List.flatten_append, List.flatten_singleton, List.length_append, Nat.pow_add]
  have h1 : Nat.lcm (lcmL l) a.length ≤ lcmL l * a.length := by
    unfold Nat.lcm
    exact Nat.div_le_self _ _
  refine Nat.le_trans h1 (Nat.mul_le_mul ih (Nat.le_of_lt Nat.lt_two_pow_self))
noncomputable def ord (e : List Nat) : Nat := lcmL (wheels e)
theorem per_dvd_ord {e : List Nat} (E : Eff e) {p : Nat} (hp : p < e.length) : per e p ∣ ord e := by
  obtain ⟨W, h⟩ := wheels_ok E
  obtain ⟨c, hc, hm⟩ := List.mem_flatten.mp (h p hp)
  obtain ⟨s, hs, rfl⟩ := W.cy c hc
  obtain ⟨k, rfl⟩ := (cyc_mem E hs).mp hm
  have q := lcmL_dvd _ _ hc
  rw [cyc_len] at q
  rw [per_it E hs]
  exact q
theorem ord_dvd {e : List Nat} (E : Eff e) {m : Nat} (h : ∀ p, p < e.length → per e p ∣ m) : ord e ∣ m := by
  obtain ⟨W, _⟩ := wheels_ok E
  refine lcmL_least _ _ fun c hc => ?_
  obtain ⟨s, hs, rfl⟩ := W.cy c hc
  rw [cyc_len]
  exact h s hs
theorem lcmL_pos {e : List Nat} (E : Eff e) {cs : List (List Nat)} : Wh e cs → 0 < lcmL cs := by
  intro W
  refine snoc_ind (P := fun cs => (∀ c ∈ cs, 0 < c.length) → 0 < lcmL cs) (fun _ => by decide) (fun l a ih h => ?_) cs fun c hc => ?_
  · rw [lcmL_snoc]
    exact Nat.lcm_pos (ih fun c hc => h c (List.mem_append_left _ hc)) (h a (by simp))
  · obtain ⟨s, hs, rfl⟩ := W.cy c hc
    rw [cyc_len]
    exact per_pos E hs
theorem ord_pos {e : List Nat} (E : Eff e) : 0 < ord e := lcmL_pos E (wheels_ok E).1
theorem rp_dvd {e : List Nat} (E : Eff e) {p : Nat} (hp : p < e.length) {c d : Int} (h : c % (ord e : Int) = d % (ord e : Int)) : rp e c p = rp e d p := by
  obtain ⟨m, hm⟩ := per_dvd_ord E hp
  have h2 : (per e p : Int) ∣ (ord e : Int) := ⟨(m : Int), by rw [hm, Int.natCast_mul]⟩
  unfold rp
  rw [← Int.emod_emod_of_dvd c h2, h, Int.emod_emod_of_dvd d h2]
theorem rep_mod {e : List Nat} (E : Eff e) {c d : Int} (h : c % (ord e : Int) = d % (ord e : Int)) : rep e c = rep e d := List.map_congr_left fun p hp => rp_dvd E (List.mem_range.mp hp) h
theorem rep_ord {e : List Nat} (E : Eff e) : rep e (ord e : Int) = List.range e.length := by
  rw [← rep_zero]
  exact rep_mod E (by rw [Int.emod_self, Int.zero_emod])
theorem rep_id_dvd {e : List Nat} (E : Eff e) {m : Nat} (h : rep e (m : Int) = List.range e.length) : ord e ∣ m := ord_dvd E fun p hp => by
  have q := congrArg (fun l => ap l p) h
  have q : ap (rep e (m : Int)) p = ap (List.range e.length) p := q
  rw [rep_ap hp, rp_nat E m hp] at q
  have e2 : ap (List.range e.length) p = p := by
    unfold ap
    rw [List.getD_eq_getElem?_getD, List.getElem?_range hp]
    rfl
  rw [e2] at q
  exact (it_eq_iff E hp m).mp q
theorem ord_least {e : List Nat} (E : Eff e) {k : Nat} (hk : 2 ≤ k) (hd : (ord e) % k = 0) : rep e ((ord e / k : Nat) : Int) ≠ List.range e.length := fun h => by
  have q := Nat.le_of_dvd (Nat.div_pos (Nat.le_of_dvd (ord_pos E) (Nat.dvd_of_mod_eq_zero hd)) (by omega)) (rep_id_dvd E h)
  have := Nat.div_lt_self (ord_pos E) hk
  omega
end Sv


set_option maxHeartbeats 4000000
namespace Sv
open PySem PySem.Spec PyProof.Rows L2
theorem b_isinstance : bootBuiltins "isinstance" = some (.builtin "isinstance") := by decide +kernel
theorem b_len : bootBuiltins "len" = some (.builtin "len") := by decide +kernel
theorem b_max : bootBuiltins "max" = some (.builtin "max") := by decide +kernel
theorem b_bool : bootBuiltins "bool" = some (.type "bool") := by decide +kernel
theorem b_int : bootBuiltins "int" = some (.type "int") := by decide +kernel
theorem b_str : bootBuiltins "str" = some (.type "str") := by decide +kernel
theorem b_list : bootBuiltins "list" = some (.type "list") := by decide +kernel
theorem b_tuple : bootBuiltins "tuple" = some (.type "tuple") := by decide +kernel
theorem b_dict : bootBuiltins "dict" = some (.type "dict") := by decide +kernel
theorem pe_ty {X : Cx} {x : Str} {T : String} {pos : Pos} (hg : Gl X x) (hm : X.mg x = none) (hv : bootBuiltins x = some (.type T)) (hn : x ≠ "__name__" := by decide) (hd : (x == ("__debug__" : Str)) = false := by decide) : PE X (.Name x pos) (tC (.ty T)) :=
  pe_bltn hg hm hv rfl hn hd
def topS (i : Nat) : Stmt := PySem.Challenge.pw_swapshelves_k05_whole_effects_are_a_grou.main.body.getD i (.Pass ⟨0, 0, 0, 0⟩)
abbrev sWithin : Stmt := topS 20
abbrev sCheckBetween : Stmt := topS 22
abbrev sOrderOf : Stmt := topS 34
abbrev sCheckCount : Stmt := topS 21
abbrev sCompose : Stmt := topS 24
abbrev sInvert : Stmt := topS 25
abbrev sRepeat : Stmt := topS 26
abbrev sCycles : Stmt := topS 27
abbrev sOrder : Stmt := topS 28
abbrev sCheckEffect : Stmt := topS 29
abbrev sIsEffect : Stmt := topS 30
abbrev sChained : Stmt := topS 31
abbrev sInverse : Stmt := topS 32
abbrev sRepeated : Stmt := topS 33
abbrev sCyclesOf : Stmt := topS 35
abbrev sCycleFrom : Stmt := topS 36
abbrev sMix : Stmt := topS 38
abbrev sNext : Stmt := topS 39
abbrev sAlike : Stmt := topS 40
abbrev sError : Stmt := topS 41
abbrev sEffect : Stmt := topS 42
abbrev sWheels : Stmt := topS 43
abbrev sRight : Stmt := topS 44
abbrev sLaw : Stmt := topS 45
theorem scWithin : FnScope ["number", "low", "high"] ["number", "low", "high"] (defScope sWithin) := ⟨rfl, rfl, rfl, by decide +kernel, rfl, by decide +kernel, by decide +kernel⟩
theorem scCheckBetween : FnScope ["number", "low", "high"] ["number", "low", "high"] (defScope sCheckBetween) := ⟨rfl, rfl, rfl, by decide +kernel, rfl, by decide +kernel, by decide +kernel⟩
theorem scCheckCount : FnScope ["count"] ["count"] (defScope sCheckCount) := ⟨rfl, rfl, rfl, by decide +kernel, rfl, by decide +kernel, by decide +kernel⟩
theorem scIsEffect : FnScope ["effect", "number"] ["effect"] (defScope sIsEffect) := ⟨rfl, rfl, rfl, by decide +kernel, rfl, by decide +kernel, by decide +kernel⟩
theorem scCheckEffect : FnScope ["effect"] ["effect"] (defScope sCheckEffect) := ⟨rfl, rfl, rfl, by decide +kernel, rfl, by decide +kernel, by decide +kernel⟩
section
variable {P : Program} {w : World} {K : PySem.W.Frag} {mg : Str → Option Value} {base : Heap}
def spWithin : Sp := fun vs H Q _ => ∃ n lo hi : Int, vs = [.int n, .int lo, .int hi] ∧ Q (.bl (decide (lo ≤ n ∧ n ≤ hi))) H
theorem isi_ty {K : PySem.W.Frag} {H : Hp} {Q : VK} {x : V} {a b : String} {r : Bool} (t : TyX K H x (.type a)) (h : kitB a b = some r) (q : Q (.bl r) H) : rIsi K [x, .ty b] H Q :=
  ⟨x, .ty b, _, _, r, rfl, .ty b, t, kit_ty h, q⟩
theorem ok_within {f : Addr} {fd : FuncData} {k : Nat} (F : Fun K "is_within" "is_within" sWithin f fd) (mi : mg "isinstance" = none) (mb : mg "bool" = none) (mn : mg "int" = none) :
    FnOk P w K mg base CX0 (k + 1) f fd ["number", "low", "high"] spWithin := by
  refine F.ok scWithin (fun vs H Q E h => ?_) (fun cdv A outer s H vs Q E hr h => ?_)
  · obtain ⟨n, lo, hi, rfl, _⟩ := h
    rfl
  · obtain ⟨n, lo, hi, rfl, q⟩ := h
    refine ⟨_, pss_cons (ps_if (pw_or (pt_val (pe_callB call_isi (by rfl) mi b_isinstance (pa_cons (pv 0) (pa_cons (pe_ty (by rfl) mb b_bool) pa_nil))))
        (pw_or1 (pt_not (pt_val (pe_callB call_isi (by rfl) mi b_isinstance (pa_cons (pv 0) (pa_cons (pe_ty (by rfl) mn b_int) pa_nil))))))).pt
      (pss_one (ps_ret pe_bl)) pss_nil)
      (pss_one (ps_ret (pe_chain op_le op_le (pv 1) (pv 0) (pv 2)))), ?_⟩
    refine ⟨.int n, rfl, .int n, .ty "bool", _, _, false, rfl, .ty "bool", .base (.int n), kit_ty (by decide +kernel), false, rfl, iteF ?_⟩
    refine ⟨.int n, rfl, .int n, .ty "int", _, _, true, rfl, .ty "int", .base (.int n), kit_ty (by decide +kernel), true, rfl, iteF ?_⟩
    refine ⟨.int lo, rfl, .int n, rfl, lo, n, rfl, rfl, _, rfl, ?_⟩
    by_cases h1 : lo ≤ n
    · rw [decide_eq_true h1]
      refine iteT ⟨.int hi, rfl, n, hi, rfl, rfl, ?_⟩
      show Q (.bl (decide (n ≤ hi))) H
      have e : decide (n ≤ hi) = decide (lo ≤ n ∧ n ≤ hi) := by simp [h1]
      rw [e]
      exact q
    · rw [decide_eq_false h1]
      have e : decide (lo ≤ n ∧ n ≤ hi) = false := by simp [h1]
      rw [e] at q
      exact iteF q
/-! ### effects as tuples -/
def vN (e : List Nat) : List V := e.map fun (n : Nat) => V.int (n : Int)
theorem vN_len (e : List Nat) : (vN e).length = e.length := by unfold vN; simp
theorem vN_get {e : List Nat} {i : Nat} (h : i < e.length) : (vN e)[i]? = some (.int (ap e i : Nat)) := by
  unfold vN
  rw [List.getElem?_map, ap_at h]
  rfl
def EffI (ns : List Int) : Prop := (∀ x ∈ ns, 0 ≤ x ∧ x ≤ (ns.length : Int) - 1) ∧ ns.Nodup
instance (ns : List Int) : Decidable (EffI ns) := by unfold EffI; infer_instance
theorem effI_of {e : List Nat} (E : Eff e) : EffI (e.map fun (n : Nat) => (n : Int)) := by
  refine ⟨fun x hx => ?_, ?_⟩
  · obtain ⟨y, hy, rfl⟩ := List.mem_map.mp hx
    have := E.1 y hy
    rw [List.length_map]
    omega
  · refine List.pairwise_iff_getElem.mpr fun i j hi hj hij q => ?_
    simp only [List.getElem_map] at q
    simp at hi hj
    exact absurd ((List.getElem_inj E.2).mp (by omega : e[i] = e[j])) (by omega)
theorem vN_ints (e : List Nat) : vN e = (e.map fun (n : Nat) => (n : Int)).map V.int := by unfold vN; rw [List.map_map]; rfl
theorem tyx_tup {H : Hp} {a : Addr} {xs : List V} (h : SqT K H a xs) : TyX K H (.ref a) (.type "tuple") := by
  rcases h with (h | ⟨o, h⟩) | ⟨o, its, n, h1, h2, _⟩
  · exact .base (.tup h)
  · exact .fTuple h
  · exact .kTuple h1 h2
def spIsEffect (K : PySem.W.Frag) : Sp := fun vs H Q _ => ∃ (a : Addr) (ns : List Int), vs = [.ref a] ∧ SqT K H a (ns.map V.int) ∧ ns.length ≤ 1000 ∧ Q (.bl (decide (EffI ns))) H
theorem ok_isEffect {f fW : Addr} {fd fdW : FuncData} {k : Nat} (F : Fun K "is_effect" "is_effect" sIsEffect f fd) (FW : Fun K "is_within" "is_within" sWithin fW fdW) (bW : Binds K fdW ["number", "low", "high"] []) (gW : mg "is_within" = some (.ref fW))
    (mi : mg "isinstance" = none) (mb : mg "bool" = none) (mn : mg "int" = none) (mt : mg "tuple" = none) (ml : mg "len" = none) (ms : mg "set" = none) :
    FnOk P w K mg base CX0 (k + 2) f fd ["effect"] (spIsEffect K) := by
  have GW : FnOk P w K mg base CX0 (k + 1) fW fdW ["number", "low", "high"] spWithin := ok_within FW mi mb mn
  refine F.ok scIsEffect (fun vs H Q E h => ?_) (fun cdv A outer s H vs Q E hr h => ?_)
  · obtain ⟨a, ns, rfl, _⟩ := h
    rfl
  · obtain ⟨a, ns, rfl, hS, hl, q⟩ := h
    refine ⟨_, pss_cons (ps_if (pt_not (pt_val (pe_callB call_isi (by rfl) mi b_isinstance (pa_cons (pv 0) (pa_cons (pe_ty (by rfl) mt b_tuple) pa_nil))))) (pss_one (ps_ret pe_bl)) pss_nil)
      (pss_cons (ps_for PassesOwn.never rfl (pi_tup (pv 0)) (pg_name (i := 1) scIsEffect.nd rfl (Or.inl rfl))
        (pss_one (ps_if (pt_not (pt_val (pe_call GW hr (by rfl) gW FW.kp bW .nil pass0 (pa_cons (pv 1) (pa_cons pe_int (pa_cons (pe_op op_sub (pe_callB call_len_seq (by rfl) ml b_len (pa_cons (pv 0) pa_nil)) pe_int) pa_nil)))))) (pss_one (ps_ret pe_bl)) pss_nil)))
      (pss_one (ps_ret (pe_cmpR op_eq (pe_lenSetT (by rfl) ml (by rfl) ms (pv 0)) (pe_callB call_len_seq (by rfl) ml b_len (pa_cons (pv 0) pa_nil)) (nomark _))))), ?_⟩
    refine ⟨.ref a, rfl, .ref a, .ty "tuple", _, _, true, rfl, .ty "tuple", tyx_tup hS, kit_ty (by decide +kernel), true, rfl, iteF ?_⟩
    have hlen : (ns.map V.int).length = ns.length := by rw [List.length_map]
    refine ⟨.ref a, rfl, a, rfl, ⟨_, hS⟩, for_tup (xs := ns.map V.int) (fun i σ H' => (∃ y, σ = [some (.ref a), y]) ∧ H' = H ∧ ∀ j x, j < i → ns[j]? = some x → 0 ≤ x ∧ x ≤ (ns.length : Int) - 1) ⟨⟨none, rfl⟩, rfl, fun j x hj => by omega⟩ (fun i σ H' _ h => by rw [h.2.1]; exact hS)
      (fun i x σ H' hx ⟨⟨y, es⟩, eH, hok⟩ => ?_) (fun σ H' ⟨⟨y, es⟩, eH, hok⟩ => ?_)⟩
    · subst es
      subst eH
      rw [List.getElem?_map] at hx
      cases hn : ns[i]? with
      | none => rw [hn] at hx; cases hx
      | some n =>
        rw [hn] at hx
        obtain rfl : V.int n = x := Option.some.inj hx
        refine ⟨.int n, rfl, .ref a, rfl, a, _, rfl, .inr hS, _, _, rfl, rfl, n, 0, _, rfl, _, rfl, ?_⟩
        rw [hlen]
        by_cases h : 0 ≤ n ∧ n ≤ (ns.length : Int) - 1
        · rw [decide_eq_true h]
          refine iteF ⟨⟨_, rfl⟩, rfl, fun j x hj e => ?_⟩
          by_cases hji : j = i
          · rw [hji, hn] at e
            rw [← Option.some.inj e]
            exact h
          · exact hok j x (by omega) e
        · rw [decide_eq_false h]
          refine iteT ?_
          have e : decide (EffI ns) = false := decide_eq_false fun z => h (z.1 n (List.mem_of_getElem? hn))
          rw [e] at q
          exact q
    · subst es
      subst eH
      rw [hlen] at hok
      refine ⟨.ref a, rfl, a, ns, rfl, hS, by omega, fun c hc hiff => ?_⟩
      refine ⟨.ref a, rfl, a, _, rfl, .inr hS, rfl, ?_⟩
      rw [hlen]
      have e : decide (V.int (c : Int) = V.int (ns.length : Nat)) = decide (EffI ns) := by
        have h1 : ∀ x ∈ ns, 0 ≤ x ∧ x ≤ (ns.length : Int) - 1 := fun x hx => by
          obtain ⟨j, hj⟩ := List.mem_iff_getElem?.mp hx
          exact hok j x (List.getElem?_eq_some_iff.mp hj).1 hj
        by_cases h : c = ns.length
        · rw [decide_eq_true (by rw [h]), decide_eq_true ⟨h1, hiff.mp h⟩]
        · rw [decide_eq_false fun z => h (by have := V.int.inj z; omega), decide_eq_false fun z => h (hiff.mpr z.2)]
      show Q (.bl (decide (V.int (c : Int) = V.int (ns.length : Nat)))) H'
      rw [e]
      exact q
end
end Sv


set_option maxHeartbeats 4000000
namespace Sv
open PySem PySem.Spec PyProof.Rows L2
/-- an own class of exceptions as it stands behind the top -/
structure ExcF (K : PySem.W.Frag) (mg : Str → Option Value) (x : Str) (C : Addr) : Prop where
  g : mg x = some (.ref C)
  x : PySem.W.excIn K C [.type "ValueError", .type "Exception", .type "BaseException", .type "object"] "ValueError.__new__" = true
  k : PySem.W.keepIn K (.ref C) = true
  b : PySem.W.subIn K (.ref C) (.type "BaseException") = some true
  t : PySem.W.typeIn K (.ref C) = some (.type "type")
section
variable {P : Program} {w : World} {K : PySem.W.Frag} {mg : Str → Option Value} {base : Heap}
/-- the facts of the program's defs -/
structure Bt (mg : Str → Option Value) : Prop where
  isinstance : mg "isinstance" = none
  bool : mg "bool" = none
  int : mg "int" = none
  str : mg "str" = none
  list : mg "list" = none
  tuple : mg "tuple" = none
  dict : mg "dict" = none
  len : mg "len" = none
  set : mg "set" = none
  range : mg "range" = none
  enumerate : mg "enumerate" = none
  zip : mg "zip" = none
  max : mg "max" = none
structure Df (K : PySem.W.Frag) (mg : Str → Option Value) (x : Str) (st : Stmt) (ps : List Str) (f : Addr) (fd : FuncData) : Prop where
  F : Fun K x x st f fd
  b : Binds K fd ps []
  g : mg x = some (.ref f)
/-- the effects' file -/
structure Ef (K : PySem.W.Frag) (mg : Str → Option Value) (fW fC fE fI fH fV fR fY fF CE CC CD : Addr) (dW dC dE dI dH dV dR dY dF : FuncData) : Prop where
  bt : Bt mg
  lcm : mg "lcm" = some (.builtin "math.lcm")
  lim : ∃ t, mg "COUNT_LIMIT" = some (.int 1000000000000000000 t)
  W : Df K mg "is_within" sWithin ["number", "low", "high"] fW dW
  C : Df K mg "check_count" sCheckCount ["count"] fC dC
  E : Df K mg "check_effect" sCheckEffect ["effect"] fE dE
  I : Df K mg "is_effect" sIsEffect ["effect"] fI dI
  H : Df K mg "chained" sChained ["one", "other"] fH dH
  V : Df K mg "inverse" sInverse ["effect"] fV dV
  R : Df K mg "repeated" sRepeated ["effect", "count"] fR dR
  Y : Df K mg "cycles_of" sCyclesOf ["effect"] fY dY
  F : Df K mg "cycle_from" sCycleFrom ["effect", "start"] fF dF
  B : ∃ (f : Addr) (fd : FuncData), Df K mg "check_between" sCheckBetween ["number", "low", "high"] f fd
  OO : ∃ (f : Addr) (fd : FuncData), Df K mg "order_of" sOrderOf ["effect"] f fd
  ce : ExcF K mg "InvalidEffect" CE
  cc : ExcF K mg "InvalidCount" CC
  cd : ExcF K mg "DifferentSizes" CD
variable {fW fC fE fI fH fV fR fY fF CE CC CD : Addr} {dW dC dE dI dH dV dR dY dF : FuncData}
abbrev CtOk (n : Int) : Prop := -1000000000000000000 ≤ n ∧ n ≤ 1000000000000000000
def spCheckCount (CC : Addr) : Sp := fun vs H Q E => ∃ n : Int, vs = [.int n] ∧ (CtOk n → Q .non H) ∧ (¬ CtOk n → E (.ref CC) none H)
def spCheckBetween (CC : Addr) : Sp := fun vs H Q E => ∃ n lo hi : Int, vs = [.int n, .int lo, .int hi] ∧ ((lo ≤ n ∧ n ≤ hi) → Q .non H) ∧ (¬ (lo ≤ n ∧ n ≤ hi) → E (.ref CC) none H)
theorem ok_checkBetween (T : Ef K mg fW fC fE fI fH fV fR fY fF CE CC CD dW dC dE dI dH dV dR dY dF) {f : Addr} {fd : FuncData} (D : Df K mg "check_between" sCheckBetween ["number", "low", "high"] f fd) : FnOk P w K mg base (L2.CX P w) 2 f fd ["number", "low", "high"] (spCheckBetween CC) := by
  have GW : FnOk P w K mg base CX0 1 fW dW ["number", "low", "high"] spWithin := ok_within T.W.F T.bt.isinstance T.bt.bool T.bt.int
  refine D.F.okX scCheckBetween (fun vs H Q E h => ?_) (fun cdv A outer s H vs Q E hr h => ?_)
  · obtain ⟨n, lo, hi, rfl, _⟩ := h
    rfl
  · obtain ⟨n, lo, hi, rfl, q1, q2⟩ := h
    refine ⟨_, pss_one (ps_if (pt_not (pt_val (pe_call GW hr (by rfl) T.W.g T.W.F.kp T.W.b .nil pass0 (pa_cons (pv 0) (pa_cons (pv 1) (pa_cons (pv 2) pa_nil))))))
      (pss_one (ps_raise rfl (takes_of rfl rfl rfl rfl) (pmk_own PySem.F.excBase_ValueError T.cc.x T.cc.g T.cc.k (raises_own T.cc.b T.cc.t) rfl))) pss_nil), ?_⟩
    refine ⟨.int n, rfl, .int lo, rfl, .int hi, rfl, n, lo, hi, rfl, _, rfl, ?_⟩
    by_cases h : lo ≤ n ∧ n ≤ hi
    · rw [decide_eq_true h]
      exact iteF (q1 h)
    · rw [decide_eq_false h]
      exact iteT (q2 h)
theorem ok_checkCount (T : Ef K mg fW fC fE fI fH fV fR fY fF CE CC CD dW dC dE dI dH dV dR dY dF) : FnOk P w K mg base (L2.CX P w) 3 fC dC ["count"] (spCheckCount CC) := by
  obtain ⟨f, fd, DB⟩ := T.B
  have GB : FnOk P w K mg base (L2.CX P w) 2 f fd ["number", "low", "high"] (spCheckBetween CC) := ok_checkBetween T DB
  obtain ⟨tl, hlim⟩ := T.lim
  refine T.C.F.okX scCheckCount (fun vs H Q E h => ?_) (fun cdv A outer s H vs Q E hr h => ?_)
  · obtain ⟨n, rfl, _⟩ := h
    rfl
  · obtain ⟨n, rfl, q1, q2⟩ := h
    exact ⟨_, pss_one (ps_expr (pe_call (E := E) GB hr (by rfl) DB.g DB.F.kp DB.b .nil (passes_call (takes_of rfl rfl rfl rfl) fun _ _ _ _ h => h) (pa_cons (pv 0) (pa_cons (pe_un un_neg (pe_glob (v := .int 1000000000000000000) (by rfl) hlim ⟨_, rfl⟩)) (pa_cons (pe_glob (v := .int 1000000000000000000) (by rfl) hlim ⟨_, rfl⟩) pa_nil))))),
      .int n, rfl, _, rfl, n, -1000000000000000000, 1000000000000000000, rfl, q1, q2⟩
def spCheckEffect (K : PySem.W.Frag) (CE : Addr) : Sp := fun vs H Q E => ∃ (a : Addr) (ns : List Int), vs = [.ref a] ∧ SqT K H a (ns.map V.int) ∧ ns.length ≤ 1000 ∧ (EffI ns → Q .non H) ∧ (¬ EffI ns → E (.ref CE) none H)
theorem ok_checkEffect (T : Ef K mg fW fC fE fI fH fV fR fY fF CE CC CD dW dC dE dI dH dV dR dY dF) : FnOk P w K mg base (L2.CX P w) 3 fE dE ["effect"] (spCheckEffect K CE) := by
  have GI : FnOk P w K mg base CX0 2 fI dI ["effect"] (spIsEffect K) := ok_isEffect T.I.F T.W.F T.W.b T.W.g T.bt.isinstance T.bt.bool T.bt.int T.bt.tuple T.bt.len T.bt.set
  refine T.E.F.okX scCheckEffect (fun vs H Q E h => ?_) (fun cdv A outer s H vs Q E hr h => ?_)
  · obtain ⟨a, ns, rfl, _⟩ := h
    rfl
  · obtain ⟨a, ns, rfl, hS, hl, q1, q2⟩ := h
    refine ⟨_, pss_one (ps_if (pt_not (pt_val (pe_call GI hr (by rfl) T.I.g T.I.F.kp T.I.b .nil pass0 (pa_cons (pv 0) pa_nil))))
      (pss_one (ps_raise rfl (takes_of rfl rfl rfl rfl) (pmk_own PySem.F.excBase_ValueError T.ce.x T.ce.g T.ce.k (raises_own T.ce.b T.ce.t) rfl))) pss_nil), ?_⟩
    refine ⟨.ref a, rfl, a, ns, rfl, hS, hl, _, rfl, ?_⟩
    by_cases h : EffI ns
    · rw [decide_eq_true h]
      exact iteF (q1 h)
    · rw [decide_eq_false h]
      exact iteT (q2 h)
/-! ### chained -/
theorem scChained : FnScope ["one", "other", "place"] ["one", "other"] (defScope sChained) := ⟨rfl, rfl, rfl, by decide +kernel, rfl, by decide +kernel, by decide +kernel⟩
theorem same_upd {H : Hp} {p : Addr} {o : HO} (h : H p = none) : Same H (upd H p o) := fun b x e => by
  rw [upd_ne (ne_of_none e h)]
  exact e
theorem same_of {H H' : Hp} {p : Addr} {o : HO} (e : Same H H') (h : H p = none) : Same H (upd H' p o) := fun b x q => by
  rw [upd_ne (ne_of_none q h)]
  exact e b x q
theorem sqT_same {H H' : Hp} {a : Addr} {xs : List V} (e : Same H H') (h : SqT K H a xs) : SqT K H' a xs := by
  rcases h with (h | ⟨o, h⟩) | h
  · exact .inl (.inl (e _ _ h))
  · exact .inl (.inr ⟨o, e _ _ h⟩)
  · exact .inr h
theorem sz1000 {n : Nat} (h : n ≤ 1000) : n ≤ sizeLine := Nat.le_of_lt (small1000 h)
theorem yes_go {σ2 : L2.St} {H2 : Hp} {A B : Hp → Prop} (h : A H2) : tYes σ2 H2 (fun b H3 => if b = true then A H3 else B H3) := by
  show (if true = true then A H2 else B H2)
  rw [if_pos rfl]
  exact h
theorem vN_snoc {e : List Nat} {i : Nat} (h : i < e.length) : vN (e.take (i + 1)) = vN (e.take i) ++ [.int (ap e i : Nat)] := by
  unfold vN
  rw [List.take_add_one, ap_at h, List.map_append]
  rfl
theorem vN_lt {e : List Nat} {i : Nat} {x : V} (h : (vN e)[i]? = some x) : i < e.length ∧ x = .int (ap e i : Nat) := by
  have h1 := (List.getElem?_eq_some_iff.mp h).1
  rw [vN_len] at h1
  rw [vN_get h1] at h
  exact ⟨h1, (Option.some.inj h).symm⟩
theorem vN_take (e : List Nat) : vN (e.take e.length) = vN e := by rw [List.take_length]
/-- what is tracked but a new object of ours -/
theorem same_at {H H' : Hp} {D : Addr} {o : HO} (sm : Same H H') (hD : H D = none) : Same H (upd H' D o) := same_of sm hD
/-- hands back a new tuple of the numbers g -/
def NewT (H : Hp) (g : List Nat) (Q : VK) : Prop := ∀ H' p, Same H H' → H p = none → H' p = some (.tup (vN g)) → Q (.ref p) H'
def spChained (K : PySem.W.Frag) : Sp := fun vs H Q _ => ∃ (a b : Addr) (e g : List Nat), vs = [.ref a, .ref b] ∧ SqT K H a (vN e) ∧ SqT K H b (vN g) ∧ (∀ x ∈ e, x < g.length) ∧ e.length ≤ 1000 ∧ NewT H (comp e g) Q
theorem ok_chained (T : Ef K mg fW fC fE fI fH fV fR fY fF CE CC CD dW dC dE dI dH dV dR dY dF) : FnOk P w K mg base CX0 1 fH dH ["one", "other"] (spChained K) := by
  refine T.H.F.ok scChained (fun vs H Q E h => ?_) (fun cdv A outer s H vs Q E hr h => ?_)
  · obtain ⟨a, b, e, g, rfl, _⟩ := h
    rfl
  · obtain ⟨a, b, e, g, rfl, hA, hB, hx, hl, q⟩ := h
    refine ⟨_, pss_one (ps_ret (pe_callTy call_tuple_of (by rfl) T.bt.tuple b_tuple (pa_cons
      (pe_lc (own := [("place", 2)]) (g := gName 2) (tt := tYes) (te := tOp (rIxT K) (tVar 1) (tVar 2)) rfl scChained.nd (pi_tup (pv 0)) (blkOk_by (N := ["one", "other", "place"]) (sc := defScope sChained) (by decide +kernel))
        (fun _ _ _ _ _ => pg_name (i := 2) scChained.nd rfl (Or.inl rfl)) (fun _ _ _ _ _ => pts_nil) (fun _ _ _ _ _ => pe_ix ix_tup (pv 1) (pv 2) (fun _ _ => rfl))) pa_nil))), ?_⟩
    refine ⟨.ref a, rfl, a, rfl, ⟨_, hA⟩, fun D hD => lc_tup (xs := vN e) (fun i H' => Same H H' ∧ H' D = some (.lst (vN ((comp e g).take i)))) ⟨same_upd hD, upd_same⟩ (fun i H' _ h => sqT_same h.1 hA) (fun i x H' hx' ⟨sm, hd⟩ => ?_) (fun H' ⟨sm, hd⟩ => ?_)⟩
    · obtain ⟨hi, rfl⟩ := vN_lt hx'
      have hi' : i < (comp e g).length := by rwa [comp_len]
      refine ⟨rfl, yes_go ⟨.ref b, rfl, .int (ap e i : Nat), rfl, b, vN g, _, _, rfl, rfl, sqT_same sm hB, atI_nat (vN_get (hx _ (List.mem_of_getElem? (ap_at hi)))), _, hd, ?_, same_of sm hD, ?_⟩⟩
      · rw [vN_len, List.length_take]
        exact Nat.lt_of_le_of_lt (Nat.min_le_left _ _) (small1000 (by omega))
      · rw [upd_same, vN_snoc hi', comp_ap hi]
    · rw [vN_len, ← comp_len e g, List.take_length] at hd
      refine ⟨D, _, rfl, .inl ⟨.inl (.inl hd), fun l hl => q _ _ (same_of sm (Same.free sm hl)) (Same.free sm hl) upd_same⟩⟩
theorem ixN_nat {n j : Nat} (h : j < n) : ixN n (j : Int) = some j := by
  unfold ixN
  rw [if_pos (by omega), if_pos (by omega), Int.toNat_natCast]
/-! ### inverse -/
theorem scInverse : FnScope ["effect", "origins", "place", "target"] ["effect"] (defScope sInverse) := ⟨rfl, rfl, rfl, by decide +kernel, rfl, by decide +kernel, by decide +kernel⟩
def spInverse (K : PySem.W.Frag) : Sp := fun vs H Q _ => ∃ (a : Addr) (e : List Nat), vs = [.ref a] ∧ SqT K H a (vN e) ∧ Eff e ∧ e.length ≤ 1000 ∧ NewT H (inv e) Q
theorem rep_one_list (n : Nat) (v : V) : (List.replicate n [v]).flatten = List.replicate n v := by
  induction n with
  | zero => rfl
  | succ n ih => rw [List.replicate_succ, List.flatten_cons, ih]; rfl
theorem vN_set (e : List Nat) (i y : Nat) : (vN e).set i (.int (y : Int)) = vN (e.set i y) := by
  unfold vN
  rw [List.map_set]
theorem ok_inverse (T : Ef K mg fW fC fE fI fH fV fR fY fF CE CC CD dW dC dE dI dH dV dR dY dF) : FnOk P w K mg base CX0 1 fV dV ["effect"] (spInverse K) := by
  refine T.V.F.ok scInverse (fun vs H Q E h => ?_) (fun cdv A outer s H vs Q E hr h => ?_)
  · obtain ⟨a, e, rfl, _⟩ := h
    rfl
  · obtain ⟨a, e, rfl, hA, he, hl, q⟩ := h
    refine ⟨_, pss_cons (ps_set (i := 1) scInverse.nd rfl (Or.inl rfl) (pe_op op_rep (pe_lst (pa_cons pe_int pa_nil)) (pe_callB call_len_seq (by rfl) T.bt.len b_len (pa_cons (pv 0) pa_nil))))
      (pss_cons (ps_for PassesOwn.never rfl (pi_enumT (by rfl) T.bt.enumerate (pa_cons (pv 0) pa_nil)) (pg_tup rfl (pgs_cons (pg_name (i := 2) scInverse.nd rfl (.inl rfl)) (pgs_cons (pg_name (i := 3) scInverse.nd rfl (.inl rfl)) pgs_nil)))
        (pss_one (ps_asg (pv 2) (pg_sub (pv 1) (pv 3) set_list))))
      (pss_one (ps_ret (pe_callTy call_tuple_of (by rfl) T.bt.tuple b_tuple (pa_cons (pv 1) pa_nil))))), ?_⟩
    refine ⟨by decide, fun p hp => ?_⟩
    refine ⟨.ref a, rfl, a, vN e, rfl, .inr (sqT_same (same_upd hp) hA), ?_⟩
    rw [vN_len]
    have small : (e.length : Int) < 2 ^ 63 := by
      have : (1000 : Int) < 2 ^ 63 := by decide
      omega
    refine ⟨p, (e.length : Int), [.int 0], rfl, rfl, upd_same, by omega, small, ?_, fun l hl2 => ?_⟩
    · show 1 * (e.length : Int).toNat ≤ sizeLine
      rw [Nat.one_mul, Int.toNat_natCast]
      exact sz1000 hl
    · have sm2 : Same H (upd (upd H p (.lst [.int 0])) l (.lst (List.replicate (e.length : Int).toNat [V.int 0]).flatten)) := same_of (same_upd hp) (Same.free (same_upd hp) hl2)
      have nl : H l = none := Same.free (same_upd hp) hl2
      have e0 : (List.replicate (e.length : Int).toNat [V.int 0]).flatten = vN (invF e 0) := by
        rw [rep_one_list, Int.toNat_natCast]
        show _ = vN (List.replicate e.length 0)
        unfold vN
        rw [List.map_replicate]
        rfl
      rw [e0] at sm2 ⊢
      refine ⟨.ref a, rfl, a, vN e, rfl, sqT_same sm2 hA, for_enumT (xs := vN e) (fun i σ H' => (∃ y2 y3, σ = [some (.ref a), some (.ref l), y2, y3]) ∧ Same H H' ∧ H' l = some (.lst (vN (invF e i)))) ⟨⟨none, none, rfl⟩, sm2, upd_same⟩
        (fun i σ H' _ h => sqT_same h.2.1 hA) (fun i x σ H' U hx ⟨⟨y2, y3, es⟩, sm, hd⟩ hU => ?_) (fun σ H' ⟨⟨y2, y3, es⟩, sm, hd⟩ => ?_)⟩
      · subst es
        obtain ⟨hi, rfl⟩ := vN_lt hx
        have nlU : l ≠ U := ne_of_none hd hU
        refine ⟨U, [.int (i : Nat), .int (ap e i : Nat)], rfl, .inl (.inl upd_same), rfl, _, _, rfl, _, _, rfl, rfl, ?_⟩
        refine ⟨.int (i : Nat), rfl, .ref l, rfl, .int (ap e i : Nat), rfl, l, vN (invF e i), _, ap e i, rfl, rfl, by rw [upd_ne nlU]; exact hd, ?_, ⟨some (.int (i : Nat)), some (.int (ap e i : Nat)), rfl⟩, same_of (same_of sm (Same.free sm hU)) nl, ?_⟩
        · rw [vN_len, invF_len]
          exact ixN_nat (ap_lt he hi)
        · rw [upd_same, vN_set]
          rfl
      · subst es
        rw [vN_len] at hd
        exact ⟨.ref l, rfl, l, _, rfl, .inl ⟨.inl (.inl hd), fun l2 hl2 => q _ _ (same_of sm (Same.free sm hl2)) (Same.free sm hl2) upd_same⟩⟩
end
end Sv


set_option maxHeartbeats 4000000
namespace Sv
open PySem PySem.Spec PyProof.Rows L2
section
variable {P : Program} {w : World} {K : PySem.W.Frag} {mg : Str → Option Value} {base : Heap}
variable {fW fC fE fI fH fV fR fY fF CE CC CD : Addr} {dW dC dE dI dH dV dR dY dF : FuncData}
/-! ### cycle_from -/
theorem scCycleFrom : FnScope ["effect", "start", "cycle", "place"] ["effect", "start"] (defScope sCycleFrom) := ⟨rfl, rfl, rfl, by decide +kernel, rfl, by decide +kernel, by decide +kernel⟩
def spCycleFrom (K : PySem.W.Frag) : Sp := fun vs H Q _ => ∃ (a : Addr) (e : List Nat) (s : Nat), vs = [.ref a, .int (s : Nat)] ∧ SqT K H a (vN e) ∧ Eff e ∧ s < e.length ∧ e.length ≤ 1000 ∧ NewT H (cyc e s) Q
theorem vN_one (k : Nat) : [V.int (k : Int)] = vN [k] := rfl
theorem vN_app (a b : List Nat) : vN (a ++ b) = vN a ++ vN b := by unfold vN; rw [List.map_append]
/-- the first k places of a walk from s -/
def walkL (e : List Nat) (s k : Nat) : List Nat := (List.range k).map fun j => it e j s
theorem walkL_succ (e : List Nat) (s k : Nat) : walkL e s (k + 1) = walkL e s k ++ [it e k s] := by
  unfold walkL
  rw [List.range_succ, List.map_append]
  rfl
theorem walkL_len (e : List Nat) (s k : Nat) : (walkL e s k).length = k := by unfold walkL; simp
theorem ok_cycleFrom (T : Ef K mg fW fC fE fI fH fV fR fY fF CE CC CD dW dC dE dI dH dV dR dY dF) : FnOk P w K mg base CX0 1 fF dF ["effect", "start"] (spCycleFrom K) := by
  refine T.F.F.ok scCycleFrom (fun vs H Q E h => ?_) (fun cdv A outer s H vs Q E hr h => ?_)
  · obtain ⟨a, e, s, rfl, _⟩ := h
    rfl
  · obtain ⟨a, e, s0, rfl, hA, he, hs, hl, q⟩ := h
    refine ⟨_, pss_cons (ps_set (i := 2) scCycleFrom.nd rfl (Or.inl rfl) (pe_lst (pa_cons (pv 1) pa_nil)))
      (pss_cons (ps_set (i := 3) scCycleFrom.nd rfl (Or.inl rfl) (pe_ix ix_tup (pv 0) (pv 1) (fun _ _ => rfl)))
      (pss_cons (ps_while PassesOwn.never (pt_cmpR op_ne (pv 3) (pv 1) (nomark _))
        (pss_cons (ps_expr (pe_bm PySem.F.plainAttrs_list PySem.F.slot_list_append PySem.F.type_list_append mt_append (pv 2) (pa_cons (pv 3) pa_nil)))
        (pss_one (ps_set (i := 3) scCycleFrom.nd rfl (Or.inl rfl) (pe_ix ix_tup (pv 0) (pv 3) (fun _ _ => rfl))))))
      (pss_one (ps_ret (pe_callTy call_tuple_of (by rfl) T.bt.tuple b_tuple (pa_cons (pv 2) pa_nil)))))), ?_⟩
    obtain ⟨p1, p2, p3, p4⟩ := per_spec he hs
    refine ⟨.int s0, rfl, (by show 1 ≤ sizeLine; decide), fun c hc => ?_⟩
    have sm0 : Same H (upd H c (.lst [.int s0])) := same_upd hc
    refine ⟨.ref a, rfl, .int s0, rfl, a, vN e, _, _, rfl, rfl, sqT_same sm0 hA, atI_nat (vN_get hs), ?_⟩
    refine while_by (fun σ H' => ∃ k, 1 ≤ k ∧ k ≤ per e s0 ∧ σ = [some (.ref a), some (.int (s0 : Nat)), some (.ref c), some (.int (it e k s0 : Nat))] ∧ Same H H' ∧ H' c = some (.lst (vN (walkL e s0 k)))) (fun σ H' => match H' c with | some (.lst xs) => per e s0 + 1 - xs.length | _ => 0)
      ⟨1, Nat.le_refl _, p1, rfl, sm0, upd_same⟩ (fun σ H' hP => ?_) (fun σ H' Q1 Q2 mono h => ?_)
    · obtain ⟨k, h1, h2, rfl, sm, hd⟩ := hP
      have hm : (match H' c with | some (.lst xs) => per e s0 + 1 - xs.length | _ => 0) = per e s0 + 1 - k := by
        rw [hd]
        show per e s0 + 1 - (vN (walkL e s0 k)).length = _
        rw [vN_len, walkL_len]
      refine ⟨_, rfl, _, rfl, rfl, _, rfl, ?_⟩
      by_cases hk : it e k s0 = s0
      · rw [decide_eq_true (by rw [hk])]
        refine iteF ?_
        have ek : k = per e s0 := by
          by_cases h : k = per e s0
          · exact h
          · exact absurd hk (p3 k h1 (by omega))
        rw [ek] at hd
        exact ⟨.ref c, rfl, c, _, rfl, .inl ⟨.inl (.inl hd), fun l hl2 => q _ _ (same_of sm (Same.free sm hl2)) (Same.free sm hl2) upd_same⟩⟩
      · rw [decide_eq_false fun z => hk (by have := V.int.inj z; omega)]
        refine iteT ?_
        have hk2 : k < per e s0 := by
          by_cases h : k = per e s0
          · rw [h] at hk
            exact absurd p2 hk
          · omega
        refine ⟨.ref c, rfl, .inl ⟨rfl, _, .inl (.inl hd)⟩, .int (it e k s0 : Nat), rfl, c, _, _, rfl, rfl, hd, ?_, ?_⟩
        · rw [vN_len, walkL_len]
          exact small1000 (by omega)
        · have sm2 : Same H (upd H' c (.lst (vN (walkL e s0 k) ++ [.int (it e k s0 : Nat)]))) := same_of sm hc
          refine ⟨.ref a, rfl, .int (it e k s0 : Nat), rfl, a, vN e, _, _, rfl, rfl, sqT_same sm2 hA, atI_nat (vN_get (it_lt he hs)), ⟨k + 1, by omega, hk2, rfl, sm2, ?_⟩, ?_⟩
          · rw [upd_same, walkL_succ, vN_app]
            rfl
          · show (match (upd H' c (.lst (vN (walkL e s0 k) ++ [.int (it e k s0 : Nat)]))) c with | some (.lst xs) => per e s0 + 1 - xs.length | _ => 0) < (match H' c with | some (.lst xs) => per e s0 + 1 - xs.length | _ => 0)
            rw [hm, upd_same]
            show per e s0 + 1 - (vN (walkL e s0 k) ++ [V.int (it e k s0 : Nat)]).length < _
            rw [List.length_append, vN_len, walkL_len]
            simp
            omega
    · obtain ⟨x, hx, y, hy, hz, b, hb, hq⟩ := h
      exact ⟨x, hx, y, hy, hz, b, hb, mono _ _ hq⟩
/-! ### cycles_of -/
theorem scCyclesOf : FnScope ["effect", "found", "done", "start", "cycle", "place"] ["effect"] (defScope sCyclesOf) := ⟨rfl, rfl, rfl, by decide +kernel, rfl, by decide +kernel, by decide +kernel⟩
/-- tuples of the numbers cs at ps -/
def TupL (H : Hp) (ps : List Addr) (cs : List (List Nat)) : Prop := Paired (fun p c => H p = some (.tup (vN c))) ps cs
theorem tupL_same {H H' : Hp} (e : Same H H') : ∀ {ps : List Addr} {cs : List (List Nat)}, TupL H ps cs → TupL H' ps cs
  | _, _, .nil => .nil
  | _, _, .cons r t => .cons (e _ _ r) (tupL_same e t)
theorem tupL_snoc {H : Hp} {p : Addr} {c : List Nat} (h : H p = some (.tup (vN c))) : ∀ {ps : List Addr} {cs : List (List Nat)}, TupL H ps cs → TupL H (ps ++ [p]) (cs ++ [c])
  | _, _, .nil => .cons h .nil
  | _, _, .cons r t => .cons r (tupL_snoc h t)
theorem tupL_len {H : Hp} : ∀ {ps : List Addr} {cs : List (List Nat)}, TupL H ps cs → ps.length = cs.length
  | _, _, .nil => rfl
  | _, _, .cons _ t => congrArg Nat.succ (tupL_len t)
theorem tupL_at {H : Hp} : ∀ {ps : List Addr} {cs : List (List Nat)}, TupL H ps cs → ∀ (i : Nat) (p : Addr), ps[i]? = some p → ∃ c, cs[i]? = some c ∧ H p = some (.tup (vN c))
  | _, _, .nil, i, p, h => by simp at h
  | _, _, .cons r t, 0, p, h => by
    obtain rfl := Option.some.inj h
    exact ⟨_, rfl, r⟩
  | _, _, .cons r t, i + 1, p, h => tupL_at t i p h
def NewLT (H : Hp) (cs : List (List Nat)) (Q : VK) : Prop := ∀ H' f ps, Same H H' → H f = none → H' f = some (.lst (ps.map V.ref)) → TupL H' ps cs → Q (.ref f) H'
def spCyclesOf (K : PySem.W.Frag) : Sp := fun vs H Q _ => ∃ (a : Addr) (e : List Nat), vs = [.ref a] ∧ SqT K H a (vN e) ∧ Eff e ∧ e.length ≤ 1000 ∧ NewLT H (wheels e) Q
/-- which places are told by S -/
def flL (n : Nat) (S : Nat → Bool) : List V := (List.range n).map fun p => V.bl (S p)
theorem flL_len (n : Nat) (S : Nat → Bool) : (flL n S).length = n := by unfold flL; simp
theorem flL_get {n : Nat} {S : Nat → Bool} {p : Nat} (h : p < n) : (flL n S)[p]? = some (.bl (S p)) := by
  unfold flL
  rw [List.getElem?_map, List.getElem?_range h]
  rfl
theorem flL_set (n : Nat) (S : Nat → Bool) (x : Nat) : (flL n S).set x (.bl true) = flL n fun p => S p || decide (p = x) := by
  refine List.ext_getElem? fun i => ?_
  by_cases hi : i < n
  · rw [flL_get hi]
    by_cases hx : i = x
    · subst hx
      rw [List.getElem?_set_self (by rw [flL_len]; exact hi)]
      simp
    · rw [List.getElem?_set_ne (Ne.symm hx), flL_get hi]
      simp [hx]
  · rw [List.getElem?_eq_none (by rw [List.length_set, flL_len]; omega), List.getElem?_eq_none (by rw [flL_len]; omega)]
theorem flL_congr {n : Nat} {S S' : Nat → Bool} (h : ∀ p, p < n → S p = S' p) : flL n S = flL n S' := by
  unfold flL
  exact List.map_congr_left fun p hp => by rw [h p (List.mem_range.mp hp)]
theorem ok_cyclesOf (T : Ef K mg fW fC fE fI fH fV fR fY fF CE CC CD dW dC dE dI dH dV dR dY dF) : FnOk P w K mg base CX0 2 fY dY ["effect"] (spCyclesOf K) := by
  have GF : FnOk P w K mg base CX0 1 fF dF ["effect", "start"] (spCycleFrom K) := ok_cycleFrom T
  refine T.Y.F.ok scCyclesOf (fun vs H Q E h => ?_) (fun cdv A outer s H vs Q E hr h => ?_)
  · obtain ⟨a, e, rfl, _⟩ := h
    rfl
  · obtain ⟨a, e, rfl, hA, he, hl, q⟩ := h
    refine ⟨_, pss_cons (ps_set (i := 1) scCyclesOf.nd rfl (Or.inl rfl) (pe_lst pa_nil))
      (pss_cons (ps_set (i := 2) scCyclesOf.nd rfl (Or.inl rfl) (pe_op op_rep (pe_lst (pa_cons pe_bl pa_nil)) (pe_callB call_len_seq (by rfl) T.bt.len b_len (pa_cons (pv 0) pa_nil))))
      (pss_cons (ps_for PassesOwn.never rfl (pi_range1 (by rfl) T.bt.range (pa_cons (pe_callB call_len_seq (by rfl) T.bt.len b_len (pa_cons (pv 0) pa_nil)) pa_nil)) (pg_name (i := 3) scCyclesOf.nd rfl (Or.inl rfl))
        (pss_one (ps_if (pt_not (pt_val (pe_ix ix_list (pv 2) (pv 3) (fun _ _ => rfl))))
          (pss_cons (ps_set (i := 4) scCyclesOf.nd rfl (Or.inl rfl) (pe_call GF hr (by rfl) T.F.g T.F.F.kp T.F.b .nil pass0 (pa_cons (pv 0) (pa_cons (pv 3) pa_nil))))
          (pss_cons (ps_for PassesOwn.never rfl (pi_tup (pv 4)) (pg_name (i := 5) scCyclesOf.nd rfl (Or.inl rfl))
            (pss_one (ps_asg pe_bl (pg_sub (pv 2) (pv 5) set_list))))
          (pss_one (ps_expr (pe_bm PySem.F.plainAttrs_list PySem.F.slot_list_append PySem.F.type_list_append mt_append (pv 1) (pa_cons (pv 4) pa_nil))))))
          pss_nil)))
      (pss_one (ps_ret (pv 1))))), ?_⟩
    refine ⟨Nat.zero_le _, fun f hf => ?_⟩
    have sm1 : Same H (upd H f (.lst [])) := same_upd hf
    refine ⟨(by show 1 ≤ sizeLine; decide), fun p hp => ?_⟩
    have sm2 : Same H (upd (upd H f (.lst [])) p (.lst [.bl false])) := same_of sm1 (Same.free sm1 hp)
    have small : (e.length : Int) < 2 ^ 62 := by
      have : (1000 : Int) < 2 ^ 62 := by decide
      omega
    have small3 : (e.length : Int) < 2 ^ 63 := by
      have : (1000 : Int) < 2 ^ 63 := by decide
      omega
    refine ⟨.ref a, rfl, a, vN e, rfl, .inr (sqT_same sm2 hA), p, ((vN e).length : Nat), [.bl false], rfl, rfl, upd_same, by omega, by rw [vN_len]; exact small3, ?_, fun d hd => ?_⟩
    · show 1 * ((vN e).length : Int).toNat ≤ sizeLine
      rw [Nat.one_mul, Int.toNat_natCast, vN_len]
      exact sz1000 hl
    have e0 : (List.replicate ((vN e).length : Int).toNat [V.bl false]).flatten = flL e.length fun p => decide (p ∈ (whN e 0).flatten) := by
      rw [rep_one_list, Int.toNat_natCast, vN_len]
      unfold flL whN
      simp only [List.flatten_nil, List.not_mem_nil, decide_false]
      rw [show (fun (p : Nat) => V.bl false) = Function.const Nat (V.bl false) from rfl, List.map_const, List.length_range]
    rw [e0]
    have fp : f ≠ p := ne_of_none upd_same hp
    have fd : f ≠ d := ne_of_none (show (upd (upd H f (.lst [])) p (.lst [.bl false])) f = some (.lst []) by rw [upd_ne fp, upd_same]) hd
    have nd' : H d = none := Same.free sm2 hd
    have sm3 : Same H (upd (upd (upd H f (.lst [])) p (.lst [.bl false])) d (.lst (flL e.length fun p => decide (p ∈ (whN e 0).flatten)))) := same_of sm2 nd'
    refine ⟨.ref a, rfl, a, vN e, rfl, .inr (sqT_same sm3 hA), ((vN e).length : Nat), rfl, by omega, by rw [vN_len]; exact small, ?_⟩
    rw [Int.toNat_natCast, vN_len]
    refine for_range (lo := 0) (n := e.length) (fun i σ H' => (∃ y3 y4 y5, σ = [some (.ref a), some (.ref f), some (.ref d), y3, y4, y5]) ∧ Same H H' ∧ H' d = some (.lst (flL e.length fun p => decide (p ∈ (whN e i).flatten))) ∧
      ∃ ps, H' f = some (.lst (ps.map V.ref)) ∧ TupL H' ps (whN e i)) ⟨⟨none, none, none, rfl⟩, sm3, upd_same, [], by rw [upd_ne fd, upd_ne fp, upd_same]; rfl, .nil⟩ (fun i σ H' hi ⟨⟨y3, y4, y5, es⟩, sm, hdd, ps, hff, hps⟩ => ?_) (fun σ H' ⟨⟨y3, y4, y5, es⟩, sm, hdd, ps, hff, hps⟩ => ?_)
    · subst es
      have ei : (0 + (i : Int)) = (i : Nat) := by omega
      rw [ei]
      refine ⟨.ref d, rfl, .int (i : Nat), rfl, d, _, _, _, rfl, rfl, .inl (.inl hdd), atI_nat (flL_get hi), _, rfl, ?_⟩
      by_cases hm : i ∈ (whN e i).flatten
      · rw [decide_eq_true hm]
        have ew : whN e (i + 1) = whN e i := by
          conv => lhs; unfold whN
          exact if_pos hm
        refine iteF ⟨⟨_, _, _, rfl⟩, sm, ?_, ps, hff, ?_⟩
        · rw [ew]; exact hdd
        · rw [ew]; exact hps
      · rw [decide_eq_false hm]
        have ew : whN e (i + 1) = whN e i ++ [cyc e i] := by
          conv => lhs; unfold whN
          exact if_neg hm
        refine iteT ⟨.ref a, rfl, .int (i : Nat), rfl, a, e, i, rfl, sqT_same sm hA, he, hi, hl, fun H1 t sm1 nt ht => ?_⟩
        have hdd1 := sm1 _ _ hdd
        have hff1 := sm1 _ _ hff
        have dt : d ≠ t := ne_of_none hdd nt
        have df : f ≠ d := fd
        have ft : f ≠ t := ne_of_none hff nt
        refine ⟨.ref t, rfl, t, rfl, ⟨_, .inl (.inl ht)⟩, for_tup (xs := vN (cyc e i)) (fun j σ H2 => (∃ y5, σ = [some (.ref a), some (.ref f), some (.ref d), some (.int (i : Nat)), some (.ref t), y5]) ∧ (∀ b o, b ≠ d → H1 b = some o → H2 b = some o) ∧ (∀ b, H b = none → H2 b = none ∨ True) ∧
          H2 d = some (.lst (flL e.length fun p => decide (p ∈ (whN e i).flatten) || decide (p ∈ (cyc e i).take j)))) ⟨⟨_, rfl⟩, fun b o _ h => h, fun _ _ => .inr trivial, ?_⟩ (fun j σ H2 _ h => .inl (.inl (h.2.1 t _ (Ne.symm dt) ht))) (fun j x σ H2 hx ⟨⟨y5, es⟩, k2, _, hd2⟩ => ?_) (fun σ H2 ⟨⟨y5, es⟩, k2, _, hd2⟩ => ?_)⟩
        · rw [hdd1]
          refine congrArg some (congrArg HO.lst (flL_congr fun p _ => ?_))
          simp
        · subst es
          obtain ⟨hj, rfl⟩ := vN_lt hx
          have hcl : ap (cyc e i) j < e.length := by
            obtain ⟨kk, hkk⟩ := (cyc_mem he hi).mp (List.mem_of_getElem? (ap_at hj))
            rw [hkk]
            exact it_lt he hi
          refine ⟨.ref d, rfl, .int (ap (cyc e i) j : Nat), rfl, d, _, _, ap (cyc e i) j, rfl, rfl, hd2, ?_, ⟨_, rfl⟩, fun b o hb ho => ?_, fun _ _ => .inr trivial, ?_⟩
          · rw [flL_len]
            exact ixN_nat hcl
          · rw [upd_ne hb]
            exact k2 b o hb ho
          · rw [upd_same, flL_set]
            refine congrArg some (congrArg HO.lst (flL_congr fun p _ => ?_))
            rw [List.take_add_one, ap_at hj]
            simp [List.mem_append, Bool.or_assoc]
        · subst es
          rw [vN_len] at hd2
          have hff2 := k2 f _ df hff1
          refine ⟨.ref f, rfl, .inl ⟨rfl, _, .inl (.inl hff2)⟩, .ref t, rfl, f, _, _, rfl, rfl, hff2, ?_, ⟨_, _, _, rfl⟩, fun b o hb => ?_, ?_, ps ++ [t], ?_, ?_⟩
          · rw [List.length_map, tupL_len hps]
            have := ((whN_ok he i (by omega)).1).len he
            exact small1000 (by omega)
          · have hbf : b ≠ f := fun z => by rw [z, hf] at hb; cases hb
            have hbd : b ≠ d := fun z => by rw [z, nd'] at hb; cases hb
            rw [upd_ne hbf]
            exact k2 b o hbd (sm1 _ _ (sm _ _ hb))
          · rw [upd_ne (Ne.symm df), hd2, ew]
            refine congrArg some (congrArg HO.lst (flL_congr fun p _ => ?_))
            rw [List.take_length, List.flatten_append, List.flatten_singleton]
            simp [List.mem_append]
          · rw [upd_same, List.map_append]
            rfl
          · rw [ew]
            have key : ∀ b c, H' b = some (.tup (vN c)) ∨ b = t ∧ c = cyc e i → (upd H2 f (.lst (ps.map V.ref ++ [V.ref t]))) b = some (.tup (vN c)) := fun b c hb => by
              rcases hb with hb | ⟨rfl, rfl⟩
              · have hbf : b ≠ f := ne_of hb hff (fun z => by cases z)
                have hbd : b ≠ d := ne_of hb hdd (fun z => by cases z)
                rw [upd_ne hbf]
                exact k2 b _ hbd (sm1 _ _ hb)
              · rw [upd_ne (Ne.symm ft)]
                exact k2 b _ (Ne.symm dt) ht
            refine tupL_snoc (key t _ (.inr ⟨rfl, rfl⟩)) ?_
            have gen : ∀ {ps : List Addr} {cs : List (List Nat)}, TupL H' ps cs → Paired (fun p c => (upd H2 f (.lst (List.map V.ref _ ++ [V.ref t]))) p = some (.tup (vN c))) ps cs := fun h => Paired.mapP h fun p c hp => key p c (.inl hp)
            exact gen hps
    · subst es
      exact ⟨.ref f, rfl, q H' f ps sm hf hff hps⟩
end
end Sv


set_option maxHeartbeats 4000000
namespace Sv
open PySem PySem.Spec PyProof.Rows L2
section
variable {P : Program} {w : World} {K : PySem.W.Frag} {mg : Str → Option Value} {base : Heap}
variable {fW fC fE fI fH fV fR fY fF CE CC CD : Addr} {dW dC dE dI dH dV dR dY dF : FuncData}
/-! ### repeated -/
theorem scRepeated : FnScope ["effect", "count", "targets", "cycle", "shift", "place", "target"] ["effect", "count"] (defScope sRepeated) := ⟨rfl, rfl, rfl, by decide +kernel, rfl, by decide +kernel, by decide +kernel⟩
theorem vN_drop (c : List Nat) (k : Nat) : (vN c).drop k = vN (c.drop k) := by unfold vN; rw [List.map_drop]
theorem vN_tk (c : List Nat) (k : Nat) : (vN c).take k = vN (c.take k) := by unfold vN; rw [List.map_take]
theorem rot_read {K : PySem.W.Frag} {H : Hp} {a : Addr} {c : List Nat} {k : Nat} {z : Int} {Q : VK} (hz : z = (k : Int)) (hA : SqT K H a (vN c)) (hk : k < c.length) (hl : c.length ≤ 1000)
    {G : V → Hp → Prop} (hG : ∀ x H1, (rSlA K (.ref a) none (some z) H1 fun y H2 => rCatA K x y H2 Q) → G x H1) (q : ∀ H' b, Same H H' → SqT K H' b (vN (c.drop k ++ c.take k)) → Q (.ref b) H') : rSlA K (.ref a) (some z) none H G := by
  subst hz
  have s1 : HT.sIx (vN c).length 0 (some (k : Int)) = k := by rw [HT.sIx_nat, vN_len]; omega
  have s2 : HT.sIx (vN c).length (vN c).length (some (k : Int)) = k := by rw [HT.sIx_nat, vN_len]; omega
  have s3 : HT.sIx (vN c).length (vN c).length none = c.length := by rw [HT.sIx_none, vN_len]
  have c1 : cutV (vN c) (some (k : Int)) none = vN (c.drop k) := by
    unfold cutV
    rw [s1, s3, vN_drop, vN_tk]
    congr 1
    exact List.take_of_length_le (by rw [List.length_drop]; omega)
  have c2 : cutV (vN c) none (some (k : Int)) = vN (c.take k) := by
    unfold cutV
    rw [s2, HT.sIx_none, List.drop_zero, Nat.sub_zero, vN_tk]
  have second : ∀ H1 x, Same H H1 → (∀ (H2 : Hp) (p2 : Addr), Same H1 H2 → H2 p2 = some (.tup (vN (c.take k))) → rCatA K x (.ref p2) H2 Q) → rSlA K (.ref a) none (some (k : Int)) H1 fun y H2 => rCatA K x y H2 Q := fun H1 x sm h => by
    refine ⟨a, vN c, rfl, sqT_same sm hA, fun hw => ?_, fun _ p hp => ?_⟩
    · rw [s2, vN_len] at hw
      omega
    · rw [c2]
      exact h _ p (same_upd hp) upd_same
  by_cases h0 : k = 0
  · refine ⟨a, vN c, rfl, hA, fun _ => ?_, fun hn => ?_⟩
    · refine hG _ _ (second H _ (Same.refl H) fun H2 p2 sm hp2 => ?_)
      refine ⟨a, p2, vN c, vN (c.take k), rfl, rfl, sqT_same sm hA, .inl (.inl hp2), ?_, fun e => ?_, fun _ _ => ?_, fun _ e => ?_⟩
      · rw [vN_len, vN_len, List.length_take]
        exact sz1000 (by omega)
      · have := congrArg List.length e
        rw [vN_len] at this
        simp at this
        rw [this] at hk
        simp at hk
      · refine q H2 a sm ?_
        rw [h0, List.drop_zero, List.take_zero, List.append_nil]
        exact sqT_same sm hA
      · rw [h0, List.take_zero] at e
        exact absurd rfl e
    · rw [s1, s3, vN_len] at hn
      exact absurd ⟨h0, rfl⟩ hn
  · refine ⟨a, vN c, rfl, hA, fun hw => ?_, fun _ p hp => ?_⟩
    · rw [s1] at hw
      omega
    · rw [c1]
      refine hG _ _ (second _ _ (same_upd hp) fun H2 p2 sm hp2 => ?_)
      refine ⟨p, p2, vN (c.drop k), vN (c.take k), rfl, rfl, .inl (.inl (sm _ _ upd_same)), .inl (.inl hp2), ?_, fun e => ?_, fun _ e => ?_, fun _ _ p3 hp3 => ?_⟩
      · rw [vN_len, vN_len, List.length_take, List.length_drop]
        exact sz1000 (by omega)
      · have := congrArg List.length e
        rw [vN_len, List.length_drop] at this
        simp at this
        omega
      · have := congrArg List.length e
        rw [vN_len, List.length_take] at this
        have h9 : min k c.length = 0 := this
        omega
      · refine q _ p3 ((same_upd hp).trans (sm.trans (same_upd hp3))) (.inl (.inl ?_))
        rw [upd_same, vN_app]
theorem rot_tm {K : PySem.W.Frag} {σ : L2.St} {i j : Nat} {H : Hp} {a : Addr} {c : List Nat} {k : Nat} {z : Int} {Q : VK} (hi : σ[i]? = some (some (.ref a))) (hj : σ[j]? = some (some (.int z))) (hz : z = (k : Int)) (hA : SqT K H a (vN c)) (hk : k < c.length) (hl : c.length ≤ 1000)
    (q : ∀ H' b, Same H H' → SqT K H' b (vN (c.drop k ++ c.take k)) → Q (.ref b) H') : tOp (rCatA K) (tSl (rSlA K) (tVar i) (tPart (tVar j)) tNoPart) (tSl (rSlA K) (tVar i) tNoPart (tPart (tVar j))) σ H Q := by
  refine ⟨.ref a, hi, .int z, hj, z, rfl, ?_⟩
  show rSlA K (.ref a) (some z) none H (fun x H1 => tSl (rSlA K) (tVar i) tNoPart (tPart (tVar j)) σ H1 fun y H2 => rCatA K x y H2 Q)
  exact rot_read hz hA hk hl (fun x H2 h => ⟨.ref a, hi, .int z, hj, z, rfl, h⟩) q
/-- the targets when the places of S have been told -/
noncomputable def tgL (e : List Nat) (c : Int) (S : Nat → Bool) : List Nat := (List.range e.length).map fun p => if S p = true then rp e c p else ap e p
theorem tgL_len (e : List Nat) (c : Int) (S : Nat → Bool) : (tgL e c S).length = e.length := by unfold tgL; simp
theorem tgL_congr {e : List Nat} {c : Int} {S S' : Nat → Bool} (h : ∀ p, p < e.length → S p = S' p) : tgL e c S = tgL e c S' := by
  unfold tgL
  exact List.map_congr_left fun p hp => by rw [h p (List.mem_range.mp hp)]
theorem tgL_at {e : List Nat} {c : Int} {S : Nat → Bool} {p : Nat} (hp : p < e.length) : (tgL e c S)[p]? = some (if S p = true then rp e c p else ap e p) := by
  unfold tgL
  rw [List.getElem?_map, List.getElem?_range hp]
  rfl
theorem tgL_set (e : List Nat) (c : Int) (S : Nat → Bool) (x : Nat) : (tgL e c S).set x (rp e c x) = tgL e c fun p => S p || decide (p = x) := by
  refine List.ext_getElem? fun i => ?_
  by_cases hi : i < e.length
  · rw [tgL_at hi]
    by_cases hx : i = x
    · subst hx
      rw [List.getElem?_set_self (by rw [tgL_len]; exact hi)]
      simp
    · rw [List.getElem?_set_ne (Ne.symm hx), tgL_at hi]
      simp [hx]
  · rw [List.getElem?_eq_none (by rw [List.length_set, tgL_len]; omega), List.getElem?_eq_none (by rw [tgL_len]; omega)]
theorem tgL_none (e : List Nat) (c : Int) : tgL e c (fun _ => false) = e := by
  refine List.ext_getElem? fun i => ?_
  by_cases hi : i < e.length
  · rw [tgL_at hi, ap_at hi]
    rfl
  · rw [List.getElem?_eq_none (by rw [tgL_len]; omega), List.getElem?_eq_none (by omega)]
theorem tgL_all {e : List Nat} {c : Int} {S : Nat → Bool} (h : ∀ p, p < e.length → S p = true) : tgL e c S = rep e c := by
  unfold tgL rep
  exact List.map_congr_left fun p hp => by rw [if_pos (h p (List.mem_range.mp hp))]
/-- what stands beside the j-th place of a cycle -/
theorem rot_at {e : List Nat} (E : Eff e) {s : Nat} (hs : s < e.length) (c : Int) {j : Nat} (hj : j < per e s) :
    ((cyc e s).drop (c % (per e s : Int)).toNat ++ (cyc e s).take (c % (per e s : Int)).toNat)[j]? = some (rp e c (it e j s)) := by
  have hpos := per_pos E hs
  have h0 := Int.emod_nonneg c (show (per e s : Int) ≠ 0 by omega)
  have h1 := Int.emod_lt_of_pos c (show (0 : Int) < (per e s : Int) by omega)
  generalize hk : (c % (per e s : Int)).toNat = k
  have hkl : k < per e s := by omega
  have er : rp e c (it e j s) = it e (k + j) s := by
    unfold rp
    rw [per_it E hs, ← it_add, hk]
  rw [er]
  by_cases h : j < per e s - k
  · rw [List.getElem?_append_left (by rw [List.length_drop, cyc_len]; exact h), List.getElem?_drop, cyc_at (by omega)]
  · rw [List.getElem?_append_right (by rw [List.length_drop, cyc_len]; omega), List.length_drop, cyc_len, List.getElem?_take_of_lt (by omega), cyc_at (by omega)]
    refine congrArg some ?_
    rw [it_mod E hs (k + j)]
    congr 1
    rw [show k + j = (j - (per e s - k)) + per e s by omega, Nat.add_mod_right, Nat.mod_eq_of_lt (by omega)]
def spRepeated (K : PySem.W.Frag) : Sp := fun vs H Q _ => ∃ (a : Addr) (e : List Nat) (c : Int), vs = [.ref a, .int c] ∧ SqT K H a (vN e) ∧ Eff e ∧ e.length ≤ 1000 ∧ NewT H (rep e c) Q
theorem ok_repeated (T : Ef K mg fW fC fE fI fH fV fR fY fF CE CC CD dW dC dE dI dH dV dR dY dF) : FnOk P w K mg base CX0 3 fR dR ["effect", "count"] (spRepeated K) := by
  have GY : FnOk P w K mg base CX0 2 fY dY ["effect"] (spCyclesOf K) := ok_cyclesOf T
  refine T.R.F.ok scRepeated (fun vs H Q E h => ?_) (fun cdv A outer s H vs Q E hr h => ?_)
  · obtain ⟨a, e, c, rfl, _⟩ := h
    rfl
  · obtain ⟨a, e, c, rfl, hA, he, hl, q⟩ := h
    refine ⟨_, pss_cons (ps_set (i := 2) scRepeated.nd rfl (Or.inl rfl) (pe_callTy call_list_of (by rfl) T.bt.list b_list (pa_cons (pv 0) pa_nil)))
      (pss_cons (ps_for PassesOwn.never rfl (pi_list (pe_call GY hr (by rfl) T.Y.g T.Y.F.kp T.Y.b .nil pass0 (pa_cons (pv 0) pa_nil))) (pg_name (i := 3) scRepeated.nd rfl (Or.inl rfl))
        (pss_cons (ps_set (i := 4) scRepeated.nd rfl (Or.inl rfl) (pe_op op_mod (pe_callTy call_int1 (by rfl) T.bt.int b_int (pa_cons (pv 1) pa_nil)) (pe_callB call_len_seq (by rfl) T.bt.len b_len (pa_cons (pv 3) pa_nil))))
        (pss_one (ps_for PassesOwn.never rfl (RZ.pi_zipA (by rfl) T.bt.zip (pa_cons (pv 3) (pa_cons (pe_op op_catA (pe_slice sl_tupA (pv 3) (po_some (pv 4)) po_none) (pe_slice sl_tupA (pv 3) po_none (po_some (pv 4)))) pa_nil)))
          (pg_tup rfl (pgs_cons (pg_name (i := 5) scRepeated.nd rfl (.inl rfl)) (pgs_cons (pg_name (i := 6) scRepeated.nd rfl (.inl rfl)) pgs_nil)))
          (pss_one (ps_asg (pv 6) (pg_sub (pv 2) (pv 5) set_list)))))))
      (pss_one (ps_ret (pe_callTy call_tuple_of (by rfl) T.bt.tuple b_tuple (pa_cons (pv 2) pa_nil))))), ?_⟩
    refine ⟨.ref a, rfl, a, vN e, rfl, .inr hA, fun t ht => ?_⟩
    have sm0 : Same H (upd H t (.lst (vN e))) := same_upd ht
    refine ⟨.ref a, rfl, a, e, rfl, sqT_same sm0 hA, he, hl, fun H1 f ps sm1 nf hf hps => ?_⟩
    have ht1 : H1 t = some (.lst (vN e)) := sm1 _ _ upd_same
    have ft : f ≠ t := fun z => by rw [z, upd_same] at nf; cases nf
    have W := (wheels_ok he).1
    refine ⟨f, rfl, ⟨_, .inl (.inl hf)⟩, for_list (xs := ps.map V.ref) (fun i σ H' => (∃ y3 y4 y5 y6, σ = [some (.ref a), some (.int c), some (.ref t), y3, y4, y5, y6]) ∧ (∀ b o, b ≠ t → H1 b = some o → H' b = some o) ∧
      H' t = some (.lst (vN (tgL e c fun p => decide (p ∈ ((wheels e).take i).flatten))))) ⟨⟨none, none, none, none, rfl⟩, fun _ _ _ h => h, ?_⟩ (fun i σ H' _ h => .inl (.inl (h.2.1 f _ ft hf))) (fun i x σ H' hx ⟨⟨y3, y4, y5, y6, es⟩, k1, htt⟩ => ?_) (fun σ H' ⟨⟨y3, y4, y5, y6, es⟩, k1, htt⟩ => ?_)⟩
    · rw [ht1, show (fun p => decide (p ∈ ((wheels e).take 0).flatten)) = fun _ => false from funext fun p => by simp, tgL_none]
    · subst es
      rw [List.getElem?_map] at hx
      cases hpi : ps[i]? with
      | none => rw [hpi] at hx; cases hx
      | some p =>
        rw [hpi] at hx
        obtain rfl : V.ref p = x := Option.some.inj hx
        obtain ⟨cc, hcc, hp1⟩ := tupL_at hps i p hpi
        obtain ⟨s0, hs0, rfl⟩ := W.cy cc (List.mem_of_getElem? hcc)
        have hpos := per_pos he hs0
        have hple := (per_spec he hs0).2.2.2
        have pt : p ≠ t := fun z => by
          rw [z, ht1] at hp1
          cases hp1
        have hp' : H' p = some (.tup (vN (cyc e s0))) := k1 p _ pt hp1
        have hlen : ((vN (cyc e s0)).length : Int) = (per e s0 : Int) := by rw [vN_len, cyc_len]
        have h0 := Int.emod_nonneg c (show (per e s0 : Int) ≠ 0 by omega)
        have h1 := Int.emod_lt_of_pos c (show (0 : Int) < (per e s0 : Int) by omega)
        have ek : c % ((vN (cyc e s0)).length : Int) = ((c % (per e s0 : Int)).toNat : Int) := by rw [hlen, Int.toNat_of_nonneg h0]
        refine ⟨.int c, rfl, .inl ⟨c, rfl, .ref p, rfl, p, _, rfl, .inr (.inl (.inl hp')), c, _, rfl, rfl, by rw [hlen]; omega, ?_⟩⟩
        refine ⟨.ref p, rfl, ?_⟩
        refine rot_tm (K := K) (i := 3) (j := 4) (a := p) (k := (c % (per e s0 : Int)).toNat) (c := cyc e s0) rfl rfl ek (.inl (.inl hp')) (by rw [cyc_len]; omega) (by rw [cyc_len]; omega) (fun H2 b sm2 hb => ?_)
        have hp2 : H2 p = some (.tup (vN (cyc e s0))) := sm2 _ _ hp'
        have ht2 := sm2 _ _ htt
        have hl2 : (vN (cyc e s0)).length = (vN ((cyc e s0).drop (c % (per e s0 : Int)).toNat ++ (cyc e s0).take (c % (per e s0 : Int)).toNat)).length := by
          rw [vN_len, vN_len, List.length_append, List.length_drop, List.length_take, cyc_len]
          omega
        refine ⟨p, b, _, _, rfl, .inr ⟨.inl (.inl hp2), hb, ?_⟩⟩
        refine RZ.for_zipT hl2 (fun j σ H3 => (∃ y5 y6, σ = [some (.ref a), some (.int c), some (.ref t), some (.ref p), some (.int (c % ((vN (cyc e s0)).length : Int))), y5, y6]) ∧ (∀ b o, b ≠ t → H2 b = some o → H3 b = some o) ∧
          H3 t = some (.lst (vN (tgL e c fun p => decide (p ∈ ((wheels e).take i).flatten) || decide (p ∈ (cyc e s0).take j))))) ⟨⟨_, _, rfl⟩, fun _ _ _ h => h, ?_⟩ (fun j σ H3 ⟨_, k3, _⟩ => ⟨.inl (.inl (k3 p _ pt hp2)), ?_⟩)
          (fun j x y U σ H3 hx hy ⟨⟨y5, y6, es⟩, k3, ht3⟩ hU => ?_) (fun σ H3 ⟨⟨y5, y6, es⟩, k3, ht3⟩ => ?_)
        · rw [ht2]
          refine congrArg some (congrArg HO.lst (congrArg vN (tgL_congr fun p _ => ?_)))
          simp
        · have key : ∀ o, H2 b = some o → (∃ ys, o = .tup ys ∨ ∃ ob, o = .frz ob (.tup ys)) → H3 b = some o := fun o ho hh => by
            refine k3 b o (fun z => ?_) ho
            rw [z, ht2] at ho
            obtain ⟨ys, e1 | ⟨ob, e1⟩⟩ := hh
            · rw [e1] at ho
              cases ho
            · rw [e1] at ho
              cases ho
          rcases hb with (hb | ⟨ob, hb⟩) | hb
          · exact .inl (.inl (key _ hb ⟨_, .inl rfl⟩))
          · exact .inl (.inr ⟨ob, key _ hb ⟨_, .inr ⟨ob, rfl⟩⟩⟩)
          · exact .inr hb
        · subst es
          obtain ⟨hj, rfl⟩ := vN_lt hx
          obtain ⟨hj2, rfl⟩ := vN_lt hy
          have hj3 : j < per e s0 := by rwa [cyc_len] at hj
          have e1 : ap (cyc e s0) j = it e j s0 := by
            have q1 := ap_at hj
            rw [cyc_at hj3] at q1
            exact (Option.some.inj q1).symm
          have e2 : ap ((cyc e s0).drop (c % (per e s0 : Int)).toNat ++ (cyc e s0).take (c % (per e s0 : Int)).toNat) j = rp e c (it e j s0) := by
            have q1 := ap_at hj2
            rw [rot_at he hs0 c hj3] at q1
            exact (Option.some.inj q1).symm
          rw [e1, e2]
          have tU : t ≠ U := ne_of_none ht3 hU
          refine ⟨U, [.int (it e j s0 : Nat), .int (rp e c (it e j s0) : Nat)], rfl, .inl (.inl upd_same), rfl, _, _, rfl, _, _, rfl, rfl, ?_⟩
          refine ⟨.int (rp e c (it e j s0) : Nat), rfl, .ref t, rfl, .int (it e j s0 : Nat), rfl, t, _, _, it e j s0, rfl, rfl, by rw [upd_ne tU]; exact ht3, ?_, ⟨_, _, rfl⟩, fun b o hb ho => ?_, ?_⟩
          · rw [vN_len, tgL_len]
            exact ixN_nat (it_lt he hs0)
          · rw [upd_ne hb, upd_ne (ne_of_none (k3 b o hb ho) hU)]
            exact k3 b o hb ho
          · rw [upd_same, vN_set, tgL_set]
            refine congrArg some (congrArg HO.lst (congrArg vN (tgL_congr fun p _ => ?_)))
            rw [List.take_add_one, cyc_at hj3]
            simp [List.mem_append, Bool.or_assoc]
        · subst es
          refine ⟨⟨_, _, _, _, rfl⟩, fun b o hb ho => k3 b o hb (sm2 _ _ (k1 b o hb ho)), ?_⟩
          rw [ht3]
          refine congrArg some (congrArg HO.lst (congrArg vN (tgL_congr fun p _ => ?_)))
          rw [vN_len, List.take_length, List.take_add_one, hcc, List.flatten_append]
          simp [List.mem_append]
    · subst es
      rw [List.length_map, tupL_len hps, List.take_length] at htt
      rw [tgL_all fun p hp => decide_eq_true ((wheels_ok he).2 p hp)] at htt
      have smx : Same H H' := fun b o hb => by
        have bt : b ≠ t := fun z => by rw [z, ht] at hb; cases hb
        exact k1 b o bt (sm1 _ _ (sm0 _ _ hb))
      exact ⟨.ref t, rfl, t, _, rfl, .inl ⟨.inl (.inl htt), fun l2 hl2 => q _ _ (same_of smx (Same.free smx hl2)) (Same.free smx hl2) upd_same⟩⟩
end
end Sv


set_option maxHeartbeats 4000000
namespace Sv
open PySem PySem.Spec PyProof.Rows L2
def nInts (e : List Nat) : List Int := e.map fun (n : Nat) => (n : Int)
theorem vN_eq (e : List Nat) : (nInts e).map V.int = vN e := (vN_ints e).symm
theorem ints_len (e : List Nat) : (nInts e).length = e.length := by unfold nInts; simp
theorem effI_ints {e : List Nat} (E : Eff e) : EffI (nInts e) := effI_of E
theorem effI_to {ns : List Int} (h : EffI ns) : ∃ e, ns = nInts e ∧ Eff e := by
  have e1 : ns = nInts (ns.map Int.toNat) := by
    unfold nInts
    rw [List.map_map]
    have : ns.map id = ns := List.map_id _
    rw [show ns.map ((fun (n : Nat) => (n : Int)) ∘ Int.toNat) = ns.map id from List.map_congr_left fun x hx => Int.toNat_of_nonneg (h.1 x hx).1, this]
  refine ⟨_, e1, fun x hx => ?_, ?_⟩
  · obtain ⟨y, hy, rfl⟩ := List.mem_map.mp hx
    have := h.1 y hy
    rw [List.length_map]
    omega
  · refine List.pairwise_iff_getElem.mpr fun i j hi hj hij q => ?_
    simp only [List.getElem_map] at q
    simp at hi hj
    have h1 := (h.1 _ (List.getElem_mem hi)).1
    have h2 := (h.1 _ (List.getElem_mem hj)).1
    exact absurd ((List.getElem_inj h.2).mp (by omega : ns[i] = ns[j])) (by omega)
theorem ints_inj {e g : List Nat} (h : nInts e = nInts g) : e = g := by
  have := congrArg (fun l => l.map Int.toNat) h
  unfold nInts at this
  simpa [List.map_map, Function.comp_def] using this
section
variable {P : Program} {w : World} {K : PySem.W.Frag} {mg : Str → Option Value} {base : Heap}
variable {fW fC fE fI fH fV fR fY fF CE CC CD : Addr} {dW dC dE dI dH dV dR dY dF : FuncData}
abbrev tkX {X : Cx} {E : XK} (tk : Takes X fun cls d _ H => E cls d H) : Passes (L2.CX X.prog X.w) X E := passes_call tk fun _ _ _ _ h => h
/-! ### compose -/
theorem scCompose : FnScope ["one", "other"] ["one", "other"] (defScope sCompose) := ⟨rfl, rfl, rfl, by decide +kernel, rfl, by decide +kernel, by decide +kernel⟩
def spCompose (K : PySem.W.Frag) (CE CD : Addr) : Sp := fun vs H Q E => ∃ (a b : Addr) (ns ms : List Int), vs = [.ref a, .ref b] ∧ SqT K H a (ns.map V.int) ∧ SqT K H b (ms.map V.int) ∧ ns.length ≤ 1000 ∧ ms.length ≤ 1000 ∧
  (¬ EffI ns → E (.ref CE) none H) ∧ (EffI ns → ¬ EffI ms → E (.ref CE) none H) ∧ (EffI ns → EffI ms → ns.length ≠ ms.length → E (.ref CD) none H) ∧ (∀ e g, ns = nInts e → ms = nInts g → Eff e → Eff g → e.length = g.length → NewT H (comp e g) Q)
theorem ok_compose (T : Ef K mg fW fC fE fI fH fV fR fY fF CE CC CD dW dC dE dI dH dV dR dY dF) {f : Addr} {fd : FuncData} (F : Df K mg "compose" sCompose ["one", "other"] f fd) : FnOk P w K mg base (L2.CX P w) 4 f fd ["one", "other"] (spCompose K CE CD) := by
  have GE : FnOk P w K mg base (L2.CX P w) 3 fE dE ["effect"] (spCheckEffect K CE) := ok_checkEffect T
  have GH : FnOk P w K mg base CX0 1 fH dH ["one", "other"] (spChained K) := ok_chained T
  refine F.F.okX scCompose (fun vs H Q E h => ?_) (fun cdv A outer s H vs Q E hr h => ?_)
  · obtain ⟨a, b, ns, ms, rfl, _⟩ := h
    rfl
  · obtain ⟨a, b, ns, ms, rfl, hA, hB, la, lb, q1, q2, q3, q4⟩ := h
    refine ⟨_, pss_cons (ps_expr (pe_call (E := E) GE hr (by rfl) T.E.g T.E.F.kp T.E.b .nil (tkX (takes_of rfl rfl rfl rfl)) (pa_cons (pv 0) pa_nil)))
      (pss_cons (ps_expr (pe_call (E := E) GE hr (by rfl) T.E.g T.E.F.kp T.E.b .nil (tkX (takes_of rfl rfl rfl rfl)) (pa_cons (pv 1) pa_nil)))
      (pss_cons (ps_if (pt_cmpR op_ne (pe_callB call_len_seq (by rfl) T.bt.len b_len (pa_cons (pv 0) pa_nil)) (pe_callB call_len_seq (by rfl) T.bt.len b_len (pa_cons (pv 1) pa_nil)) (nomark _))
        (pss_one (ps_raise rfl (takes_of rfl rfl rfl rfl) (pmk_own PySem.F.excBase_ValueError T.cd.x T.cd.g T.cd.k (raises_own T.cd.b T.cd.t) rfl))) pss_nil)
      (pss_one (ps_ret (pe_call GH (hr.mono (by decide)) (by rfl) T.H.g T.H.F.kp T.H.b .nil pass0 (pa_cons (pv 0) (pa_cons (pv 1) pa_nil))))))), ?_⟩
    refine ⟨.ref a, rfl, a, ns, rfl, hA, la, fun h1 => ?_, q1⟩
    refine ⟨.ref b, rfl, b, ms, rfl, hB, lb, fun h2 => ?_, q2 h1⟩
    refine ⟨.ref a, rfl, a, _, rfl, .inr hA, .ref b, rfl, b, _, rfl, .inr hB, rfl, _, rfl, ?_⟩
    rw [List.length_map, List.length_map]
    by_cases hl : ns.length = ms.length
    · rw [decide_eq_true (by rw [hl])]
      refine iteF ?_
      obtain ⟨e, rfl, he⟩ := effI_to h1
      obtain ⟨g, rfl, hg⟩ := effI_to h2
      rw [ints_len, ints_len] at hl
      rw [ints_len] at la
      exact ⟨.ref a, rfl, .ref b, rfl, a, b, e, g, rfl, by rw [← vN_eq]; exact hA, by rw [← vN_eq]; exact hB, fun x hx => by rw [← hl]; exact he.1 x hx, la, q4 e g rfl rfl he hg hl⟩
    · rw [decide_eq_false fun z => hl (by have := V.int.inj z; omega)]
      exact iteT (q3 h1 h2 hl)
/-! ### invert -/
theorem scInvert : FnScope ["effect"] ["effect"] (defScope sInvert) := ⟨rfl, rfl, rfl, by decide +kernel, rfl, by decide +kernel, by decide +kernel⟩
def spInvert (K : PySem.W.Frag) (CE : Addr) : Sp := fun vs H Q E => ∃ (a : Addr) (ns : List Int), vs = [.ref a] ∧ SqT K H a (ns.map V.int) ∧ ns.length ≤ 1000 ∧ (¬ EffI ns → E (.ref CE) none H) ∧ (∀ e, ns = nInts e → Eff e → NewT H (inv e) Q)
theorem ok_invert (T : Ef K mg fW fC fE fI fH fV fR fY fF CE CC CD dW dC dE dI dH dV dR dY dF) {f : Addr} {fd : FuncData} (F : Df K mg "invert" sInvert ["effect"] f fd) : FnOk P w K mg base (L2.CX P w) 4 f fd ["effect"] (spInvert K CE) := by
  have GE : FnOk P w K mg base (L2.CX P w) 3 fE dE ["effect"] (spCheckEffect K CE) := ok_checkEffect T
  have GV : FnOk P w K mg base CX0 1 fV dV ["effect"] (spInverse K) := ok_inverse T
  refine F.F.okX scInvert (fun vs H Q E h => ?_) (fun cdv A outer s H vs Q E hr h => ?_)
  · obtain ⟨a, ns, rfl, _⟩ := h
    rfl
  · obtain ⟨a, ns, rfl, hA, la, q1, q4⟩ := h
    refine ⟨_, pss_cons (ps_expr (pe_call (E := E) GE hr (by rfl) T.E.g T.E.F.kp T.E.b .nil (tkX (takes_of rfl rfl rfl rfl)) (pa_cons (pv 0) pa_nil)))
      (pss_one (ps_ret (pe_call GV (hr.mono (by decide)) (by rfl) T.V.g T.V.F.kp T.V.b .nil pass0 (pa_cons (pv 0) pa_nil)))), ?_⟩
    refine ⟨.ref a, rfl, a, ns, rfl, hA, la, fun h1 => ?_, q1⟩
    obtain ⟨e, rfl, he⟩ := effI_to h1
    rw [ints_len] at la
    exact ⟨.ref a, rfl, a, e, rfl, by rw [← vN_eq]; exact hA, he, la, q4 e rfl he⟩
/-! ### repeat -/
theorem scRepeat : FnScope ["effect", "count"] ["effect", "count"] (defScope sRepeat) := ⟨rfl, rfl, rfl, by decide +kernel, rfl, by decide +kernel, by decide +kernel⟩
def spRepeat (K : PySem.W.Frag) (CE CC : Addr) : Sp := fun vs H Q E => ∃ (a : Addr) (ns : List Int) (c : Int), vs = [.ref a, .int c] ∧ SqT K H a (ns.map V.int) ∧ ns.length ≤ 1000 ∧ (¬ EffI ns → E (.ref CE) none H) ∧ (EffI ns → ¬ CtOk c → E (.ref CC) none H) ∧
  (∀ e, ns = nInts e → Eff e → CtOk c → NewT H (rep e c) Q)
theorem ok_repeat (T : Ef K mg fW fC fE fI fH fV fR fY fF CE CC CD dW dC dE dI dH dV dR dY dF) {f : Addr} {fd : FuncData} (F : Df K mg "repeat" sRepeat ["effect", "count"] f fd) : FnOk P w K mg base (L2.CX P w) 4 f fd ["effect", "count"] (spRepeat K CE CC) := by
  have GE : FnOk P w K mg base (L2.CX P w) 3 fE dE ["effect"] (spCheckEffect K CE) := ok_checkEffect T
  have GC : FnOk P w K mg base (L2.CX P w) 3 fC dC ["count"] (spCheckCount CC) := ok_checkCount T
  have GR : FnOk P w K mg base CX0 3 fR dR ["effect", "count"] (spRepeated K) := ok_repeated T
  refine F.F.okX scRepeat (fun vs H Q E h => ?_) (fun cdv A outer s H vs Q E hr h => ?_)
  · obtain ⟨a, ns, c, rfl, _⟩ := h
    rfl
  · obtain ⟨a, ns, c, rfl, hA, la, q1, q2, q4⟩ := h
    refine ⟨_, pss_cons (ps_expr (pe_call (E := E) GE hr (by rfl) T.E.g T.E.F.kp T.E.b .nil (tkX (takes_of rfl rfl rfl rfl)) (pa_cons (pv 0) pa_nil)))
      (pss_cons (ps_expr (pe_call (E := E) GC (hr.mono (by decide)) (by rfl) T.C.g T.C.F.kp T.C.b .nil (tkX (takes_of rfl rfl rfl rfl)) (pa_cons (pv 1) pa_nil)))
      (pss_one (ps_ret (pe_call GR hr (by rfl) T.R.g T.R.F.kp T.R.b .nil pass0 (pa_cons (pv 0) (pa_cons (pv 1) pa_nil)))))), ?_⟩
    refine ⟨.ref a, rfl, a, ns, rfl, hA, la, fun h1 => ?_, q1⟩
    refine ⟨.int c, rfl, c, rfl, fun h2 => ?_, q2 h1⟩
    obtain ⟨e, rfl, he⟩ := effI_to h1
    rw [ints_len] at la
    exact ⟨.ref a, rfl, .int c, rfl, a, e, c, rfl, by rw [← vN_eq]; exact hA, he, la, q4 e rfl he h2⟩
/-! ### cycles -/
theorem scCycles : FnScope ["effect"] ["effect"] (defScope sCycles) := ⟨rfl, rfl, rfl, by decide +kernel, rfl, by decide +kernel, by decide +kernel⟩
def spCycles (K : PySem.W.Frag) (CE : Addr) : Sp := fun vs H Q E => ∃ (a : Addr) (ns : List Int), vs = [.ref a] ∧ SqT K H a (ns.map V.int) ∧ ns.length ≤ 1000 ∧ (¬ EffI ns → E (.ref CE) none H) ∧ (∀ e, ns = nInts e → Eff e → NewLT H (wheels e) Q)
theorem ok_cycles (T : Ef K mg fW fC fE fI fH fV fR fY fF CE CC CD dW dC dE dI dH dV dR dY dF) {f : Addr} {fd : FuncData} (F : Df K mg "cycles" sCycles ["effect"] f fd) : FnOk P w K mg base (L2.CX P w) 4 f fd ["effect"] (spCycles K CE) := by
  have GE : FnOk P w K mg base (L2.CX P w) 3 fE dE ["effect"] (spCheckEffect K CE) := ok_checkEffect T
  have GY : FnOk P w K mg base CX0 2 fY dY ["effect"] (spCyclesOf K) := ok_cyclesOf T
  refine F.F.okX scCycles (fun vs H Q E h => ?_) (fun cdv A outer s H vs Q E hr h => ?_)
  · obtain ⟨a, ns, rfl, _⟩ := h
    rfl
  · obtain ⟨a, ns, rfl, hA, la, q1, q4⟩ := h
    refine ⟨_, pss_cons (ps_expr (pe_call (E := E) GE hr (by rfl) T.E.g T.E.F.kp T.E.b .nil (tkX (takes_of rfl rfl rfl rfl)) (pa_cons (pv 0) pa_nil)))
      (pss_one (ps_ret (pe_call GY (hr.mono (by decide)) (by rfl) T.Y.g T.Y.F.kp T.Y.b .nil pass0 (pa_cons (pv 0) pa_nil)))), ?_⟩
    refine ⟨.ref a, rfl, a, ns, rfl, hA, la, fun h1 => ?_, q1⟩
    obtain ⟨e, rfl, he⟩ := effI_to h1
    rw [ints_len] at la
    exact ⟨.ref a, rfl, a, e, rfl, by rw [← vN_eq]; exact hA, he, la, q4 e rfl he⟩
/-! ### order -/
theorem scOrderOf : FnScope ["effect", "times", "cycle"] ["effect"] (defScope sOrderOf) := ⟨rfl, rfl, rfl, by decide +kernel, rfl, by decide +kernel, by decide +kernel⟩
def spOrderOf (K : PySem.W.Frag) : Sp := fun vs H Q _ => ∃ (a : Addr) (e : List Nat), vs = [.ref a] ∧ SqT K H a (vN e) ∧ Eff e ∧ e.length ≤ 63 ∧ ∀ H', Same H H' → Q (.int (ord e : Nat)) H'
theorem ok_orderOf (T : Ef K mg fW fC fE fI fH fV fR fY fF CE CC CD dW dC dE dI dH dV dR dY dF) {f : Addr} {fd : FuncData} (D : Df K mg "order_of" sOrderOf ["effect"] f fd) : FnOk P w K mg base CX0 3 f fd ["effect"] (spOrderOf K) := by
  have GY : FnOk P w K mg base CX0 2 fY dY ["effect"] (spCyclesOf K) := ok_cyclesOf T
  refine D.F.ok scOrderOf (fun vs H Q E h => ?_) (fun cdv A outer s H vs Q E hr h => ?_)
  · obtain ⟨a, e, rfl, _⟩ := h
    rfl
  · obtain ⟨a, e, rfl, hA, he, la, q⟩ := h
    refine ⟨_, (pss_cons (ps_set (i := 1) scOrderOf.nd rfl (Or.inl rfl) pe_int)
      (pss_cons (ps_for PassesOwn.never rfl (pi_list (pe_call (E := E0) GY (hr.mono (by decide)) (by rfl) T.Y.g T.Y.F.kp T.Y.b .nil pass0 (pa_cons (pv 0) pa_nil))) (pg_name (i := 2) scOrderOf.nd rfl (Or.inl rfl)) (pss_one (ps_set (i := 1) scOrderOf.nd rfl (Or.inl rfl) (pe_callBfun cr_lcm (by rfl) T.lcm (pa_cons (pv 1) (pa_cons (pe_callB call_len_seq (by rfl) T.bt.len b_len (pa_cons (pv 2) pa_nil)) pa_nil))))))
      (pss_one (ps_ret (pv 1))))), ?_⟩
    have W := (wheels_ok he).1
    refine ⟨.ref a, rfl, a, e, rfl, hA, he, by omega, fun H1 f ps sm nf hf hps => ?_⟩
    refine ⟨f, rfl, ⟨_, .inl (.inl hf)⟩, for_list (xs := ps.map V.ref) (fun i σ H' => (∃ y2, σ = [some (.ref a), some (.int (lcmL ((wheels e).take i) : Nat)), y2]) ∧ H' = H1) ⟨⟨none, rfl⟩, rfl⟩ (fun i σ H' _ h => by rw [h.2]; exact .inl (.inl hf)) (fun i x σ H' hx ⟨⟨y2, es⟩, eH⟩ => ?_) (fun σ H' ⟨⟨y2, es⟩, eH⟩ => ?_)⟩
    · subst es
      subst eH
      obtain ⟨p, hpi, rfl⟩ : ∃ p, ps[i]? = some p ∧ x = V.ref p := by
        rw [List.getElem?_map] at hx
        cases hpi : ps[i]? with
        | none => rw [hpi] at hx; cases hx
        | some p => rw [hpi] at hx; exact ⟨p, rfl, (Option.some.inj hx).symm⟩
      obtain ⟨cc, hcc, hp1⟩ := tupL_at hps i p hpi
      obtain ⟨s0, hs0, ecc⟩ := W.cy cc (List.mem_of_getElem? hcc)
      have hple := (per_spec he hs0).2.2.2
      have hcl : cc.length ≤ e.length := by rw [ecc, cyc_len]; exact hple
      have hb : lcmL ((wheels e).take i) < 2 ^ 64 := by
        have b64 : ∀ n : Nat, n ≤ 63 → 2 ^ n < 2 ^ 64 := fun n hn => Nat.pow_lt_pow_right (by decide) (by omega)
        refine Nat.lt_of_le_of_lt (lcmL_bound _) (b64 _ ?_)
        have h1 : ((wheels e).take i).flatten.length ≤ (wheels e).flatten.length := by
          conv => rhs; rw [← List.take_append_drop i (wheels e), List.flatten_append, List.length_append]
          omega
        have := W.flat_len he
        omega
      refine ⟨.int (lcmL ((wheels e).take i) : Nat), rfl, .ref p, rfl, p, vN cc, rfl, .inr (.inl (.inl hp1)), _, cc.length, by rw [vN_len], hb, ?_, ⟨some (.ref p), ?_⟩, rfl⟩
      · exact Nat.lt_of_le_of_lt (by omega : cc.length ≤ 63) (by decide)
      · rw [List.take_add_one, hcc]
        show _ = [some (V.ref a), some (V.int (lcmL ((wheels e).take i ++ [cc]) : Nat)), some (V.ref p)]
        rw [lcmL_snoc]
        rfl
    · subst es
      subst eH
      rw [List.length_map, tupL_len hps, List.take_length]
      exact ⟨.int (ord e : Nat), rfl, q H' sm⟩
theorem scOrder : FnScope ["effect"] ["effect"] (defScope sOrder) := ⟨rfl, rfl, rfl, by decide +kernel, rfl, by decide +kernel, by decide +kernel⟩
def spOrder (K : PySem.W.Frag) (CE : Addr) : Sp := fun vs H Q E => ∃ (a : Addr) (ns : List Int), vs = [.ref a] ∧ SqT K H a (ns.map V.int) ∧ ns.length ≤ 63 ∧ (¬ EffI ns → E (.ref CE) none H) ∧ (∀ e, ns = nInts e → Eff e → ∀ H', Same H H' → Q (.int (ord e : Nat)) H')
theorem ok_order (T : Ef K mg fW fC fE fI fH fV fR fY fF CE CC CD dW dC dE dI dH dV dR dY dF) {f : Addr} {fd : FuncData} (F : Df K mg "order" sOrder ["effect"] f fd) : FnOk P w K mg base (L2.CX P w) 4 f fd ["effect"] (spOrder K CE) := by
  have GE : FnOk P w K mg base (L2.CX P w) 3 fE dE ["effect"] (spCheckEffect K CE) := ok_checkEffect T
  obtain ⟨go, eo, DO⟩ := T.OO
  have GO : FnOk P w K mg base CX0 3 go eo ["effect"] (spOrderOf K) := ok_orderOf T DO
  refine F.F.okX scOrder (fun vs H Q E h => ?_) (fun cdv A outer s H vs Q E hr h => ?_)
  · obtain ⟨a, ns, rfl, _⟩ := h
    rfl
  · obtain ⟨a, ns, rfl, hA, la, q1, q4⟩ := h
    refine ⟨_, pss_cons (ps_expr (pe_call (E := E) GE hr (by rfl) T.E.g T.E.F.kp T.E.b .nil (tkX (takes_of rfl rfl rfl rfl)) (pa_cons (pv 0) pa_nil)))
      (pss_one (ps_ret (pe_call (E := E0) GO hr (by rfl) DO.g DO.F.kp DO.b .nil pass0 (pa_cons (pv 0) pa_nil)))), ?_⟩
    refine ⟨.ref a, rfl, a, ns, rfl, hA, by omega, fun h1 => ?_, q1⟩
    obtain ⟨e, rfl, he⟩ := effI_to h1
    rw [ints_len] at la
    exact ⟨.ref a, rfl, a, e, rfl, by rw [← vN_eq]; exact hA, he, la, q4 e rfl he⟩
end
end Sv


set_option maxHeartbeats 4000000
namespace Sv
open PySem PySem.Spec PyProof.Rows L2
/-! ### the law's source of draws -/
structure LawH (H : Hp) (h l : Addr) : Prop where
  ex : ∃ (m i : Int) (cs : List Int), H h = some (.lst [.int m, .ref l, .int i]) ∧ H l = some (.lst (cs.map V.int)) ∧ cs.length ≤ 1000
def SameX (h l : Addr) (H H' : Hp) : Prop := ∀ b o, b ≠ h → b ≠ l → H b = some o → H' b = some o
theorem LawH.ne {H : Hp} {h l : Addr} (x : LawH H h l) : h ≠ l := by
  obtain ⟨m, i, cs, e1, e2, _⟩ := x.ex
  intro z
  subst z
  rw [e1] at e2
  have e3 := HO.lst.inj (Option.some.inj e2)
  match cs, e3 with
  | [], e3 => cases e3
  | [_], e3 => cases e3
  | _ :: _ :: _, e3 => cases e3
theorem LawH.same {H H' : Hp} {h l : Addr} (x : LawH H h l) (e : Same H H') : LawH H' h l := by
  obtain ⟨m, i, cs, e1, e2, e3⟩ := x.ex
  exact ⟨m, i, cs, e _ _ e1, e _ _ e2, e3⟩
theorem SameX.of {H H' : Hp} {h l : Addr} (e : Same H H') : SameX h l H H' := fun b o _ _ q => e b o q
theorem SameX.trans {H H1 H2 : Hp} {h l : Addr} (a : SameX h l H H1) (b : SameX h l H1 H2) : SameX h l H H2 := fun c o h1 h2 q => b c o h1 h2 (a c o h1 h2 q)
section
variable {P : Program} {w : World} {K : PySem.W.Frag} {mg : Str → Option Value} {base : Heap}
theorem scNext : FnScope ["_law_h", "_law_limit", "_law_cell"] ["_law_h", "_law_limit"] (defScope sNext) := ⟨rfl, rfl, rfl, by decide +kernel, rfl, by decide +kernel, by decide +kernel⟩
theorem scMix : FnScope ["_law_script", "_law_seed", "_law_mixed", "_law_cell"] ["_law_script", "_law_seed"] (defScope sMix) := ⟨rfl, rfl, rfl, by decide +kernel, rfl, by decide +kernel, by decide +kernel⟩
def spNext : Sp := fun vs H Q _ => ∃ (h l : Addr) (lim : Int), vs = [.ref h, .int lim] ∧ LawH H h l ∧ 0 < lim ∧ lim < 2 ^ 64 ∧ ∀ r H', 0 ≤ r → r < lim → LawH H' h l → SameX h l H H' → Q (.int r) H'
theorem ok_next {f : Addr} {fd : FuncData} (F : Fun K "_law_next" "_law_next" sNext f fd) (B : Bt mg) : FnOk P w K mg base CX0 1 f fd ["_law_h", "_law_limit"] spNext := by
  refine F.ok scNext (fun vs H Q E h => ?_) (fun cdv A outer s H vs Q E hr h => ?_)
  · obtain ⟨h, l, lim, rfl, _⟩ := h
    rfl
  · obtain ⟨h, l, lim, rfl, LH, p1, p2, q⟩ := h
    have LHx := LH
    have hne := LH.ne
    obtain ⟨m, i, cs, e1, e2, e3⟩ := LH.ex
    refine ⟨_, pss_cons (ps_set (i := 2) scNext.nd rfl (Or.inl rfl) (pe_ix ix_list (pe_op op_cat (pe_ix ix_list (pv 0) pe_int (fun _ _ => rfl)) (pe_lst (pa_cons pe_int pa_nil)))
        (pe_op op_mod (pe_callTy call_int1 (by rfl) B.int b_int (pa_cons (pe_ix ix_list (pv 0) pe_int (fun _ _ => rfl)) pa_nil)) (pe_callB (call_max2 rfl) (by rfl) B.max b_max (pa_cons pe_int (pa_cons (pe_callB call_len_seq (by rfl) B.len b_len (pa_cons (pe_ix ix_list (pv 0) pe_int (fun _ _ => rfl)) pa_nil)) pa_nil)))) (fun _ _ => rfl)))
      (pss_cons (ps_if (pt_cmpR op_ge (pv 2) (pe_op op_pow pe_int pe_int) (nomark _))
        (pss_cons (ps_asg (pe_op op_fdivW (pv 2) (pv 1)) (pg_sub (pe_ix ix_list (pv 0) pe_int (fun _ _ => rfl)) (pe_op op_mod (pe_callTy call_int1 (by rfl) B.int b_int (pa_cons (pe_ix ix_list (pv 0) pe_int (fun _ _ => rfl)) pa_nil)) (pe_callB call_len_seq (by rfl) B.len b_len (pa_cons (pe_ix ix_list (pv 0) pe_int (fun _ _ => rfl)) pa_nil))) set_list))
        (pss_one (ps_ret (pe_op op_mod (pe_callTy call_int1 (by rfl) B.int b_int (pa_cons (pv 2) pa_nil)) (pv 1))))) pss_nil)
      (pss_cons (ps_asg (pe_op op_mod (pe_op op_add (pe_op op_add (pe_op op_mul (pe_ix ix_list (pv 0) pe_int (fun _ _ => rfl)) pe_int) (pe_op op_mul (pv 2) pe_int)) pe_int) pe_int) (pg_sub (pv 0) pe_int set_list))
      (pss_cons (ps_asg (pe_op op_add (pe_ix ix_list (pv 0) pe_int (fun _ _ => rfl)) pe_int) (pg_sub (pv 0) pe_int set_list))
      (pss_one (ps_ret (pe_op op_mod (pe_op op_fdiv (pe_ix ix_list (pv 0) pe_int (fun _ _ => rfl)) pe_int) (pv 1))))))), ?_⟩
    refine ⟨.ref h, rfl, h, _, 1, .ref l, rfl, rfl, .inl (.inl e1), rfl, (by show 1 ≤ sizeLine; decide), fun z hz => ?_⟩
    have hl1 : l ≠ z := ne_of_none e2 hz
    have hl2 : h ≠ z := ne_of_none e1 hz
    refine ⟨l, z, _, _, rfl, rfl, by rw [upd_ne hl1]; exact e2, upd_same, ?_, fun u hu => ?_⟩
    · rw [List.length_map]
      show cs.length + 1 ≤ sizeLine
      exact small1000 e3
    have sm1 : Same H (upd H z (.lst [.int 0])) := same_upd hz
    have sm2 : Same H (upd (upd H z (.lst [.int 0])) u (.lst (cs.map V.int ++ [.int 0]))) := same_of sm1 (Same.free sm1 hu)
    generalize hG : upd (upd H z (.lst [.int 0])) u (.lst (cs.map V.int ++ [.int 0])) = G at sm2 ⊢
    have g1 := sm2 _ _ e1
    have g2 := sm2 _ _ e2
    have g3 : G u = some (.lst ((cs ++ [0]).map V.int)) := by rw [← hG, upd_same, List.map_append]; rfl
    have hmax : (if ((cs.map V.int).length : Int) > 1 then ((cs.map V.int).length : Int) else 1) = ((max 1 cs.length : Nat) : Int) := by
      rw [List.length_map]
      split <;> omega
    have hM : (0 : Int) < ((max 1 cs.length : Nat) : Int) := by omega
    have i0 := Int.emod_nonneg i (Int.ne_of_gt hM)
    have i1 := Int.emod_lt_of_pos i hM
    obtain ⟨k, hk⟩ : ∃ k : Nat, i % ((max 1 cs.length : Nat) : Int) = (k : Int) := ⟨_, (Int.toNat_of_nonneg i0).symm⟩
    have hk1 : k < (cs ++ [0]).length := by
      rw [List.length_append]
      show k < cs.length + 1
      omega
    obtain ⟨cell, hcell⟩ : ∃ c, (cs ++ [0])[k]? = some c := ⟨_, List.getElem?_eq_getElem hk1⟩
    refine ⟨.ref h, rfl, h, _, 2, .int i, rfl, rfl, .inl (.inl g1), rfl, .inl ⟨i, rfl, ?_⟩⟩
    refine ⟨.ref h, rfl, h, _, 1, .ref l, rfl, rfl, .inl (.inl g1), rfl, l, _, rfl, .inl (.inl (.inl g2)), 1, _, rfl, ?_⟩
    refine ⟨i, ((max 1 cs.length : Nat) : Int), rfl, congrArg V.int hmax, hM, ?_⟩
    refine ⟨u, _, (k : Int), .int cell, rfl, congrArg V.int hk, .inl (.inl g3), atI_nat (by rw [List.getElem?_map, hcell]; rfl), ?_⟩
    -- the test
    refine ⟨.int cell, rfl, 10, 18, rfl, rfl, ⟨by decide, by decide, by decide⟩, cell, 10 ^ (18 : Int).toNat, rfl, rfl, _, rfl, ite2 (fun hc => ?_) (fun hc => ?_)⟩
    · have hc2 : (10 : Int) ^ (18 : Int).toNat ≤ cell := of_decide_eq_true hc
      have hc3 : (0 : Int) < cell := Int.lt_of_lt_of_le (by decide) hc2
      have hk2 : k < cs.length := by
        by_cases hkl : k < cs.length
        · exact hkl
        · have : k = cs.length := by
            rw [List.length_append] at hk1
            have : k < cs.length + 1 := hk1
            omega
          rw [this, List.getElem?_append_right (Nat.le_refl _), Nat.sub_self] at hcell
          have : (0 : Int) = cell := Option.some.inj hcell
          omega
      have hl0 : (0 : Int) < ((cs.map V.int).length : Int) := by rw [List.length_map]; omega
      have hkk : i % ((cs.map V.int).length : Int) = (k : Int) := by
        rw [List.length_map, ← hk]
        congr 1
        omega
      refine ⟨.int cell, rfl, .int lim, rfl, cell, lim, rfl, rfl, wide_div (b := 64) p1 (by omega) (by decide) (by decide), ?_⟩
      refine ⟨.ref h, rfl, h, _, 1, .ref l, rfl, rfl, .inl (.inl g1), rfl, ?_⟩
      refine ⟨.ref h, rfl, h, _, 2, .int i, rfl, rfl, .inl (.inl g1), rfl, .inl ⟨i, rfl, ?_⟩⟩
      refine ⟨.ref h, rfl, h, _, 1, .ref l, rfl, rfl, .inl (.inl g1), rfl, l, _, rfl, .inl (.inl (.inl g2)), i, _, rfl, rfl, hl0, ?_⟩
      refine ⟨l, cs.map V.int, (k : Int), k, rfl, congrArg V.int hkk, g2, ixN_nat (by rw [List.length_map]; exact hk2), ?_⟩
      refine ⟨.int cell, rfl, .inl ⟨cell, rfl, .int lim, rfl, cell, lim, rfl, rfl, p1, ?_⟩⟩
      refine q _ _ (Int.emod_nonneg _ (Int.ne_of_gt p1)) (Int.emod_lt_of_pos _ p1) ⟨m, i, cs.set k (cell / lim), ?_, ?_, ?_⟩ (fun b o h1 h2 hb => ?_)
      · rw [upd_ne hne]
        exact g1
      · rw [upd_same, List.map_set]
      · rw [List.length_set]
        exact e3
      · rw [upd_ne h2]
        exact sm2 _ _ hb
    · refine ⟨.ref h, rfl, h, _, 0, .int m, rfl, rfl, .inl (.inl g1), rfl, m, 48271, rfl, rfl, .inr ⟨by decide, by decide⟩, ?_⟩
      refine ⟨.int cell, rfl, cell, 69621, rfl, rfl, .inr ⟨by decide, by decide⟩, _, _, rfl, rfl, _, 11, rfl, rfl, _, 2147483647, rfl, rfl, (by decide : (0 : Int) < 2147483647), ?_⟩
      refine ⟨.ref h, rfl, h, _, 0, 0, rfl, rfl, g1, rfl, ?_⟩
      obtain ⟨m', hm'⟩ : ∃ m' : Int, (m * 48271 + cell * 69621 + 11) % 2147483647 = m' := ⟨_, rfl⟩
      have hmv : (fun i j => V.int (i % j)) (m * 48271 + cell * 69621 + 11) 2147483647 = V.int m' := congrArg V.int hm'
      rw [hmv]
      have g1' : (upd G h (.lst ([V.int m, V.ref l, V.int i].set 0 (V.int m')))) h = some (.lst [.int m', .ref l, .int i]) := upd_same
      refine ⟨.ref h, rfl, h, _, 2, .int i, rfl, rfl, .inl (.inl g1'), rfl, i, 1, rfl, rfl, ?_⟩
      refine ⟨.ref h, rfl, h, _, 2, 2, rfl, rfl, g1', rfl, ?_⟩
      generalize hG2 : upd (upd G h (.lst ([V.int m, V.ref l, V.int i].set 0 (V.int m')))) h (.lst ([V.int m', V.ref l, V.int i].set 2 (V.int (i + 1)))) = G2
      have g1'' : G2 h = some (.lst [.int m', .ref l, .int (i + 1)]) := by rw [← hG2]; exact upd_same
      refine ⟨.ref h, rfl, h, _, 0, .int m', rfl, rfl, .inl (.inl g1''), rfl, m', 7, rfl, rfl, ⟨by decide, by decide⟩, .int lim, rfl, _, lim, rfl, rfl, p1, ?_⟩
      refine q _ _ (Int.emod_nonneg _ (Int.ne_of_gt p1)) (Int.emod_lt_of_pos _ p1) ⟨m', i + 1, cs, g1'', ?_, e3⟩ (fun b o h1 h2 hb => ?_)
      · rw [← hG2, upd_ne (Ne.symm hne), upd_ne (Ne.symm hne)]
        exact g2
      · rw [← hG2, upd_ne h1, upd_ne h1]
        exact sm2 _ _ hb
/-! ### _law_mix -/
def spMix (K : PySem.W.Frag) : Sp := fun vs H Q _ => ∃ (a : Addr) (ns : List Int) (seed : Int), vs = [.ref a, .int seed] ∧ SqL K H a (ns.map V.int) ∧ ns.length ≤ 63 ∧ ∀ H' h l, LawH H' h l → Same H H' → H h = none → H l = none → Q (.ref h) H'
theorem ok_mix {f : Addr} {fd : FuncData} (F : Fun K "_law_mix" "_law_mix" sMix f fd) (B : Bt mg) : FnOk P w K mg base CX0 1 f fd ["_law_script", "_law_seed"] (spMix K) := by
  refine F.ok scMix (fun vs H Q E h => ?_) (fun cdv A outer s H vs Q E hr h => ?_)
  · obtain ⟨a, ns, seed, rfl, _⟩ := h
    rfl
  · obtain ⟨a, ns, seed, rfl, hA, hl, q⟩ := h
    refine ⟨_, pss_cons (ps_set (i := 2) scMix.nd rfl (Or.inl rfl) (pv 1))
      (pss_cons (ps_for PassesOwn.never rfl (pi_list (pv 0)) (pg_name (i := 3) scMix.nd rfl (Or.inl rfl))
        (pss_one (ps_set (i := 2) scMix.nd rfl (Or.inl rfl) (pe_op op_mod (pe_op op_add (pe_op op_add (pe_op op_mul (pv 2) pe_int) (pe_op op_mod (pv 3) pe_int)) pe_int) pe_int))))
      (pss_one (ps_ret (pe_lst (pa_cons (pv 2) (pa_cons (pe_callTy call_list_of (by rfl) B.list b_list (pa_cons (pv 0) pa_nil)) (pa_cons pe_int pa_nil))))))), ?_⟩
    refine ⟨.int seed, rfl, .ref a, rfl, a, rfl, ⟨_, hA⟩, for_list (xs := ns.map V.int) (fun i σ H' => (∃ m y3, σ = [some (.ref a), some (.int seed), some (.int m), y3]) ∧ H' = H) ⟨⟨seed, none, rfl⟩, rfl⟩ (fun i σ H' _ h => by rw [h.2]; exact hA) (fun i x σ H' hx ⟨⟨m, y3, es⟩, eH⟩ => ?_) (fun σ H' ⟨⟨m, y3, es⟩, eH⟩ => ?_)⟩
    · subst es
      subst eH
      rw [List.getElem?_map] at hx
      cases hn : ns[i]? with
      | none => rw [hn] at hx; cases hx
      | some n =>
        rw [hn] at hx
        obtain rfl : V.int n = x := Option.some.inj hx
        refine ⟨.int m, rfl, m, 48271, rfl, rfl, .inr ⟨by decide, by decide⟩, .int n, rfl, n, 2147483629, rfl, rfl, (by decide : (0 : Int) < 2147483629), _, _, rfl, rfl, _, 1, rfl, rfl, _, 2147483647, rfl, rfl, (by decide : (0 : Int) < 2147483647), ⟨_, _, rfl⟩, rfl⟩
    · subst es
      subst eH
      refine ⟨.int m, rfl, .ref a, rfl, a, _, rfl, .inl hA, fun l hl2 => ⟨(by show 3 ≤ sizeLine; decide), fun h hh => ?_⟩⟩
      have ln : l ≠ h := ne_of_none upd_same hh
      refine q _ h l ⟨m, 0, ns, upd_same, by rw [upd_ne ln]; exact upd_same, by omega⟩ (same_of (same_upd hl2) (Same.free (same_upd hl2) hh)) (Same.free (same_upd hl2) hh) hl2
end
end Sv


set_option maxHeartbeats 4000000
namespace Sv
open PySem PySem.Spec PyProof.Rows L2
theorem swap_eff {e : List Nat} (E : Eff e) {k j : Nat} (hk : k < e.length) (hj : j < e.length) : Eff ((e.set k (ap e j)).set j (ap e k)) ∧ ((e.set k (ap e j)).set j (ap e k)).length = e.length := by
  have hl : ((e.set k (ap e j)).set j (ap e k)).length = e.length := by rw [List.length_set, List.length_set]
  refine ⟨?_, hl⟩
  have e1 : (e.set k (ap e j)).set j (ap e k) = (List.range e.length).map fun p => ap e (if p = j then k else if p = k then j else p) := by
    refine List.ext_getElem? fun i => ?_
    by_cases hi : i < e.length
    · rw [List.getElem?_map, List.getElem?_range hi]
      show _ = some (ap e (if i = j then k else if i = k then j else i))
      by_cases h1 : i = j
      · subst h1
        rw [List.getElem?_set_self (by rw [List.length_set]; exact hi), if_pos rfl]
      · rw [if_neg h1, List.getElem?_set_ne (Ne.symm h1)]
        by_cases h2 : i = k
        · subst h2
          rw [List.getElem?_set_self hi, if_pos rfl]
        · rw [if_neg h2, List.getElem?_set_ne (Ne.symm h2), ap_at hi]
    · rw [List.getElem?_eq_none (by rw [hl]; omega), List.getElem?_eq_none (by simp; omega)]
  rw [e1]
  refine map_eff (fun p hp => ap_lt E ?_) fun p q hp hq h => ?_
  · split
    · exact hk
    · split
      · exact hj
      · exact hp
  · have hp' : (if p = j then k else if p = k then j else p) < e.length := by
      split
      · exact hk
      · split
        · exact hj
        · exact hp
    have hq' : (if q = j then k else if q = k then j else q) < e.length := by
      split
      · exact hk
      · split
        · exact hj
        · exact hq
    have := ap_inj E hp' hq' h
    split at this <;> split at this <;> (try split at this) <;> (try split at this) <;> omega
theorem range_eff (n : Nat) : Eff (List.range n) := ⟨fun x hx => by rw [List.length_range]; exact List.mem_range.mp hx, List.nodup_range⟩
theorem rgV_range (n : Nat) : rgV 0 (n : Int) = vN (List.range n) := by
  unfold rgV vN
  rw [show ((n : Int) - 0).toNat = n by omega]
  exact List.map_congr_left fun i _ => by rw [Int.zero_add]
section
variable {P : Program} {w : World} {K : PySem.W.Frag} {mg : Str → Option Value} {base : Heap}
theorem scEffect : FnScope ["_law_h", "_law_size", "_law_found", "_law_k", "_law_j"] ["_law_h", "_law_size"] (defScope sEffect) := ⟨rfl, rfl, rfl, by decide +kernel, rfl, by decide +kernel, by decide +kernel⟩
def spEffect : Sp := fun vs H Q _ => ∃ (h l : Addr) (n : Nat), vs = [.ref h, .int (n : Nat)] ∧ LawH H h l ∧ n ≤ 1000 ∧ ∀ e H' p, Eff e → e.length = n → LawH H' h l → SameX h l H H' → H p = none → H' p = some (.tup (vN e)) → Q (.ref p) H'
theorem ok_effect {f fN : Addr} {fd dN : FuncData} (F : Fun K "_law_effect" "_law_effect" sEffect f fd) (FN : Df K mg "_law_next" sNext ["_law_h", "_law_limit"] fN dN) (B : Bt mg) : FnOk P w K mg base CX0 2 f fd ["_law_h", "_law_size"] spEffect := by
  have GN : FnOk P w K mg base CX0 1 fN dN ["_law_h", "_law_limit"] spNext := ok_next FN.F B
  refine F.ok scEffect (fun vs H Q E h => ?_) (fun cdv A outer s H vs Q E hr h => ?_)
  · obtain ⟨h, l, n, rfl, _⟩ := h
    rfl
  · obtain ⟨h, l, n, rfl, LH, hn, q⟩ := h
    refine ⟨_, pss_cons (ps_set (i := 2) scEffect.nd rfl (Or.inl rfl) (pe_listRg rfl (by rfl) B.list (prg_1 (by rfl) B.range (pv 1))))
      (pss_cons (ps_for PassesOwn.never rfl (pi_range3 (by rfl) B.range (pa_cons (pe_op op_sub (pv 1) pe_int) (pa_cons pe_int (pa_cons (pe_un un_neg pe_int) pa_nil)))) (pg_name (i := 3) scEffect.nd rfl (Or.inl rfl))
        (pss_cons (ps_set (i := 4) scEffect.nd rfl (Or.inl rfl) (pe_call GN hr (by rfl) FN.g FN.F.kp FN.b .nil pass0 (pa_cons (pv 0) (pa_cons (pe_op op_add (pv 3) pe_int) pa_nil))))
        (pss_one (ps_asg (pe_tup (pa_cons (pe_ix ix_list (pv 2) (pv 4) (fun _ _ => rfl)) (pa_cons (pe_ix ix_list (pv 2) (pv 3) (fun _ _ => rfl)) pa_nil)))
          (pg_tup rfl (pgs_cons (pg_sub (pv 2) (pv 3) set_list) (pgs_cons (pg_sub (pv 2) (pv 4) set_list) pgs_nil)))))))
      (pss_one (ps_ret (pe_callTy call_tuple_of (by rfl) B.tuple b_tuple (pa_cons (pv 2) pa_nil))))), ?_⟩
    refine ⟨.int (n : Nat), rfl, (n : Int), rfl, ⟨by omega, by omega, by omega, (by have : (1000 : Int) < 2 ^ 62 := by decide
                                                                                    omega), (by have : (1000 : Nat) < 2 ^ 24 := by decide
                                                                                                omega)⟩, fun fo hfo => ?_⟩
    rw [rgV_range]
    have sm0 : Same H (upd H fo (.lst (vN (List.range n)))) := same_upd hfo
    have foh : fo ≠ h ∧ fo ≠ l := by
      obtain ⟨m, i, cs, e1, e2, e3⟩ := LH.ex
      exact ⟨(ne_of_none e1 hfo).symm, (ne_of_none e2 hfo).symm⟩
    have b62 : (1000 : Int) < 2 ^ 62 := by decide
    refine ⟨.int (n : Nat), rfl, n, 1, rfl, rfl, 1, rfl, (n : Int) - 1, 0, -1, ((n : Int) - 1 - 0).toNat, rfl, RgC.neg (by omega) (by omega) (by omega) (by omega), ?_⟩
    refine for_rangeC (fun i σ H' => (∃ y3 y4, σ = [some (.ref h), some (.int (n : Nat)), some (.ref fo), y3, y4]) ∧ LawH H' h l ∧ (∀ b o, b ≠ h → b ≠ l → b ≠ fo → H b = some o → H' b = some o) ∧ ∃ e, Eff e ∧ e.length = n ∧ H' fo = some (.lst (vN e)))
      ⟨⟨none, none, rfl⟩, LH.same sm0, fun b o _ _ _ hb => sm0 b o hb, _, range_eff n, List.length_range, upd_same⟩ (fun i σ H' hi ⟨⟨y3, y4, es⟩, L1, k1, e, he, hel, hfo1⟩ => ?_) (fun σ H' ⟨⟨y3, y4, es⟩, L1, k1, e, he, hel, hfo1⟩ => ?_)
    · subst es
      obtain ⟨k, hk⟩ : ∃ k : Nat, (n : Int) - 1 + (i : Nat) * -1 = (k : Int) := ⟨n - 1 - i, by omega⟩
      have hkn : k < n := by omega
      rw [hk]
      have p64 : (1000 : Int) < 2 ^ 64 := by decide
      refine ⟨.ref h, rfl, .int (k : Nat), rfl, (k : Int), 1, rfl, rfl, h, l, (k : Int) + 1, rfl, L1, by omega, by omega, fun r H2 r0 r1 L2 k2 => ?_⟩
      obtain ⟨j, rfl⟩ : ∃ j : Nat, r = (j : Int) := ⟨r.toNat, (Int.toNat_of_nonneg r0).symm⟩
      have hjn : j < n := by omega
      have hfo2 : H2 fo = some (.lst (vN e)) := k2 fo _ foh.1 foh.2 hfo1
      have gj : (vN e)[j]? = some (.int (ap e j : Nat)) := vN_get (by omega)
      have gk : (vN e)[k]? = some (.int (ap e k : Nat)) := vN_get (by omega)
      refine ⟨.ref fo, rfl, .int (j : Nat), rfl, fo, _, _, _, rfl, rfl, .inl (.inl hfo2), atI_nat gj, ?_⟩
      refine ⟨.ref fo, rfl, .int (k : Nat), rfl, fo, _, _, _, rfl, rfl, .inl (.inl hfo2), atI_nat gk, (by show 2 ≤ sizeLine; decide), fun p hp => ?_⟩
      have fop : fo ≠ p := ne_of_none hfo2 hp
      obtain ⟨sw1, sw2⟩ := swap_eff he (k := k) (j := j) (by omega) (by omega)
      refine ⟨p, [.int (ap e j : Nat), .int (ap e k : Nat)], rfl, .inl (.inl upd_same), rfl, _, _, rfl, ?_⟩
      refine ⟨.ref fo, rfl, .int (k : Nat), rfl, fo, vN e, _, k, rfl, rfl, by rw [upd_ne fop]; exact hfo2, by rw [vN_len]; exact ixN_nat (by omega), _, _, rfl, ?_⟩
      rw [vN_set]
      refine ⟨.ref fo, rfl, .int (j : Nat), rfl, fo, vN (e.set k (ap e j)), _, j, rfl, rfl, upd_same, by rw [vN_len, List.length_set]; exact ixN_nat (by omega), rfl, ?_⟩
      rw [vN_set]
      refine ⟨⟨_, _, rfl⟩, ?_, fun b o h1 h2 h3 hb => ?_, _, sw1, sw2.trans hel, upd_same⟩
      · obtain ⟨m, ii, cs, e1, e2, e3⟩ := L2.ex
        have hp1 : h ≠ p := ne_of_none e1 hp
        have hp2 : l ≠ p := ne_of_none e2 hp
        exact ⟨m, ii, cs, by rw [upd_ne (Ne.symm foh.1), upd_ne (Ne.symm foh.1), upd_ne hp1]; exact e1, by rw [upd_ne (Ne.symm foh.2), upd_ne (Ne.symm foh.2), upd_ne hp2]; exact e2, e3⟩
      · have hb2 := k2 b o h1 h2 (k1 b o h1 h2 h3 hb)
        rw [upd_ne h3, upd_ne h3, upd_ne (ne_of_none hb2 hp)]
        exact hb2
    · subst es
      refine ⟨.ref fo, rfl, fo, _, rfl, .inl ⟨.inl (.inl hfo1), fun p hp => ?_⟩⟩
      have nb : ∀ b o, b ≠ h → b ≠ l → H b = some o → H' b = some o := fun b o h1 h2 hb => k1 b o h1 h2 (fun z => by rw [z, hfo] at hb; cases hb) hb
      have hph : p ≠ h ∧ p ≠ l := by
        obtain ⟨m, i, cs, e1, e2, e3⟩ := L1.ex
        exact ⟨(ne_of_none e1 hp).symm, (ne_of_none e2 hp).symm⟩
      have hpn : H p = none := by
        cases hq : H p with
        | none => rfl
        | some o =>
          rw [nb p o hph.1 hph.2 hq] at hp
          cases hp
      exact q e _ p he hel (L1.same (same_upd hp)) (fun b o h1 h2 hb => (same_upd hp) _ _ (nb b o h1 h2 hb)) hpn upd_same
end
end Sv


set_option maxHeartbeats 4000000
namespace Sv
open PySem PySem.Spec PyProof.Rows L2
section
variable {P : Program} {w : World} {K : PySem.W.Frag} {mg : Str → Option Value} {base : Heap}
/-! ### _law_wheels -/
theorem scWheels : FnScope ["_law_effect_here", "_law_found", "_law_seen", "_law_start", "_law_wheel"] ["_law_effect_here"] (defScope sWheels) := ⟨rfl, rfl, rfl, by decide +kernel, rfl, by decide +kernel, by decide +kernel⟩
theorem inV_vN (x : Nat) (l : List Nat) : inV (.int (x : Nat)) (vN l) = decide (x ∈ l) := by
  unfold inV vN
  induction l with
  | nil => simp
  | cons y r ih =>
    rw [List.map_cons, List.any_cons, ih]
    show ((y : Int) == (x : Int) || decide (x ∈ r)) = decide (x ∈ y :: r)
    by_cases h : x = y
    · subst h
      simp
    · have : ((y : Int) == (x : Int)) = false := by
        rw [beq_eq_false_iff_ne]
        intro z
        exact h (by omega)
      rw [this]
      simp [h]
theorem flat_vN (l : List Nat) : (vN l).all flatV = true := by
  unfold vN
  rw [List.all_map]
  exact List.all_eq_true.mpr fun x _ => rfl
theorem walkL_snoc_last (e : List Nat) (s k : Nat) : vN (walkL e s (k + 1)) = vN (walkL e s k) ++ [.int (it e k s : Nat)] := by rw [walkL_succ, vN_app]; rfl
def spWheels (K : PySem.W.Frag) : Sp := fun vs H Q _ => ∃ (a : Addr) (e : List Nat), vs = [.ref a] ∧ SqT K H a (vN e) ∧ Eff e ∧ e.length ≤ 1000 ∧ NewLT H (wheels e) Q
theorem ok_wheels {f : Addr} {fd : FuncData} (F : Fun K "_law_wheels" "_law_wheels" sWheels f fd) (B : Bt mg) : FnOk P w K mg base CX0 1 f fd ["_law_effect_here"] (spWheels K) := by
  refine F.ok scWheels (fun vs H Q E h => ?_) (fun cdv A outer s H vs Q E hr h => ?_)
  · obtain ⟨a, e, rfl, _⟩ := h
    rfl
  · obtain ⟨a, e, rfl, hA, he, hl, q⟩ := h
    refine ⟨_, pss_cons (ps_par (i := 1) (j := 2) rfl scWheels.nd rfl rfl (by decide) rfl rfl (pa_cons (pe_lst pa_nil) (pa_cons (pe_lst pa_nil) pa_nil)) (by rfl))
      (pss_cons (ps_for PassesOwn.never rfl (pi_range1 (by rfl) B.range (pa_cons (pe_callB call_len_seq (by rfl) B.len b_len (pa_cons (pv 0) pa_nil)) pa_nil)) (pg_name (i := 3) scWheels.nd rfl (Or.inl rfl))
        (pss_one (ps_if (pt_cmpR op_notIn_seq (pv 3) (pv 2) (by rfl))
          (pss_cons (ps_set (i := 4) scWheels.nd rfl (Or.inl rfl) (pe_lst (pa_cons (pv 3) pa_nil)))
          (pss_cons (ps_while PassesOwn.never (pt_cmpR op_ne (pe_ix ix_tup (pv 0) (pe_ix ix_list (pv 4) (pe_un un_neg pe_int) (fun _ _ => rfl)) (fun _ _ => rfl)) (pv 3) (nomark _))
            (pss_one (ps_expr (pe_bm PySem.F.plainAttrs_list PySem.F.slot_list_append PySem.F.type_list_append mt_append (pv 4) (pa_cons (pe_ix ix_tup (pv 0) (pe_ix ix_list (pv 4) (pe_un un_neg pe_int) (fun _ _ => rfl)) (fun _ _ => rfl)) pa_nil)))))
          (pss_cons (ps_expr (pe_bm PySem.F.plainAttrs_list PySem.F.slot_list_append PySem.F.type_list_append mt_append (pv 1) (pa_cons (pe_callTy call_tuple_of (by rfl) B.tuple b_tuple (pa_cons (pv 4) pa_nil)) pa_nil)))
          (pss_one (ps_expr (pe_bm PySem.F.plainAttrs_list PySem.F.slot_list_extend PySem.F.type_list_extend mt_extend (pv 2) (pa_cons (pv 4) pa_nil)))))))
          pss_nil)))
      (pss_one (ps_ret (pv 1)))), ?_⟩
    refine ⟨Nat.zero_le _, fun f hf => ⟨Nat.zero_le _, fun d hd => ⟨_, _, rfl, ?_⟩⟩⟩
    have fd : f ≠ d := ne_of_none upd_same hd
    have nd' : H d = none := Same.free (same_upd hf) hd
    have sm0 : Same H (upd (upd H f (.lst [])) d (.lst [])) := same_of (same_upd hf) nd'
    have small : (e.length : Int) < 2 ^ 62 := by
      have : (1000 : Int) < 2 ^ 62 := by decide
      omega
    refine ⟨.ref a, rfl, a, vN e, rfl, .inr (sqT_same sm0 hA), ((vN e).length : Nat), rfl, by omega, by rw [vN_len]; exact small, ?_⟩
    rw [Int.toNat_natCast, vN_len]
    refine for_range (lo := 0) (n := e.length) (fun i σ H' => (∃ y3 y4, σ = [some (.ref a), some (.ref f), some (.ref d), y3, y4]) ∧ Same H H' ∧ H' d = some (.lst (vN (whN e i).flatten)) ∧
      ∃ ps, H' f = some (.lst (ps.map V.ref)) ∧ TupL H' ps (whN e i)) ⟨⟨none, none, rfl⟩, sm0, upd_same, [], by rw [upd_ne fd, upd_same]; rfl, .nil⟩ (fun i σ H' hi ⟨⟨y3, y4, es⟩, sm, hdd, ps, hff, hps⟩ => ?_) (fun σ H' ⟨⟨y3, y4, es⟩, sm, hdd, ps, hff, hps⟩ => ?_)
    · subst es
      have ei : (0 + (i : Int)) = (i : Nat) := by omega
      rw [ei]
      refine ⟨.int (i : Nat), rfl, .ref d, rfl, d, _, rfl, .inl (.inl (.inl hdd)), rfl, flat_vN _, _, rfl, ?_⟩
      rw [if_pos rfl, inV_vN]
      by_cases hm : i ∈ (whN e i).flatten
      · rw [decide_eq_true hm]
        have ew : whN e (i + 1) = whN e i := by
          conv => lhs; unfold whN
          exact if_pos hm
        refine iteF ⟨⟨_, _, rfl⟩, sm, ?_, ps, hff, ?_⟩
        · rw [ew]; exact hdd
        · rw [ew]; exact hps
      · rw [decide_eq_false hm]
        have ew : whN e (i + 1) = whN e i ++ [cyc e i] := by
          conv => lhs; unfold whN
          exact if_neg hm
        obtain ⟨p1, p2, p3, p4⟩ := per_spec he hi
        refine iteT ⟨.int (i : Nat), rfl, (by show 1 ≤ sizeLine; decide), fun t ht => ?_⟩
        have dt : d ≠ t := ne_of_none hdd ht
        have ft : f ≠ t := ne_of_none hff ht
        have nt : H t = none := Same.free sm ht
        have last : ∀ k xs, xs = vN (walkL e i (k + 1)) → atI xs (-1) = some (.int (it e k i : Nat)) := fun k xs hx => by
          rw [hx, walkL_snoc_last]
          exact atI_last _ _
        refine while_by (fun σ H2 => ∃ k, k < per e i ∧ σ = [some (.ref a), some (.ref f), some (.ref d), some (.int (i : Nat)), some (.ref t)] ∧ (∀ b o, b ≠ t → H' b = some o → H2 b = some o) ∧ H2 t = some (.lst (vN (walkL e i (k + 1))))) (fun σ H2 => match H2 t with | some (.lst xs) => per e i + 1 - xs.length | _ => 0)
          ⟨0, p1, rfl, fun b o hb ho => by rw [upd_ne hb]; exact ho, upd_same⟩ (fun σ H2 hP => ?_) (fun σ H' Q1 Q2 mono h => ?_)
        · obtain ⟨k, hk, rfl, k2, ht2⟩ := hP
          have hA2 : SqT K H2 a (vN e) := sqT_same (fun b o hb => k2 b o (fun z => by rw [z, nt] at hb; cases hb) (sm _ _ hb)) hA
          have hml : (match H2 t with | some (.lst xs) => per e i + 1 - xs.length | _ => 0) = per e i + 1 - (k + 1) := by
            rw [ht2]
            show per e i + 1 - (vN (walkL e i (k + 1))).length = _
            rw [vN_len, walkL_len]
          refine ⟨.ref a, rfl, .ref t, rfl, 1, rfl, t, _, -1, _, rfl, rfl, .inl (.inl ht2), last k _ rfl, a, vN e, _, _, rfl, rfl, hA2, atI_nat (vN_get (it_lt he hi)), .int (i : Nat), rfl, rfl, _, rfl, ?_⟩
          have hnx : ap e (it e k i) = it e (k + 1) i := rfl
          rw [hnx]
          by_cases hk2 : it e (k + 1) i = i
          · rw [decide_eq_true (by rw [hk2])]
            refine iteF ?_
            have ek : k + 1 = per e i := by
              by_cases h : k + 1 = per e i
              · exact h
              · exact absurd hk2 (p3 (k + 1) (by omega) (by omega))
            rw [ek] at ht2
            have hff2 := k2 f _ ft hff
            have hdd2 := k2 d _ dt hdd
            refine ⟨.ref f, rfl, .inl ⟨rfl, _, .inl (.inl hff2)⟩, .ref t, rfl, t, _, rfl, .inl ⟨.inl (.inl ht2), fun u hu => ?_⟩⟩
            have fu : f ≠ u := ne_of_none hff2 hu
            have du : d ≠ u := ne_of_none hdd2 hu
            have tu : t ≠ u := ne_of_none ht2 hu
            refine ⟨f, _, .ref u, rfl, rfl, by rw [upd_ne fu]; exact hff2, ?_, ?_⟩
            · rw [List.length_map, tupL_len hps]
              have := ((whN_ok he i (by omega)).1).len he
              exact small1000 (by omega)
            have gd : (upd (upd H2 u (.tup (vN (walkL e i (per e i))))) f (.lst (ps.map V.ref ++ [.ref u]))) d = some (.lst (vN (whN e i).flatten)) := by rw [upd_ne (Ne.symm fd), upd_ne du]; exact hdd2
            have gt : (upd (upd H2 u (.tup (vN (walkL e i (per e i))))) f (.lst (ps.map V.ref ++ [.ref u]))) t = some (.lst (vN (walkL e i (per e i)))) := by rw [upd_ne (Ne.symm ft), upd_ne tu]; exact ht2
            refine ⟨.ref d, rfl, .inl ⟨rfl, _, .inl (.inl gd)⟩, .ref t, rfl, d, t, _, _, rfl, rfl, gd, gt, ?_, ⟨_, _, rfl⟩, fun b o hb => ?_, ?_, ps ++ [u], ?_, ?_⟩
            · rw [vN_len, vN_len, walkL_len]
              have h1 := ((whN_ok he i (by omega)).1).flat_len he
              have : (2000 : Nat) ≤ sizeLine := by decide
              omega
            · have hbf : b ≠ f := fun z => by rw [z, hf] at hb; cases hb
              have hbd : b ≠ d := fun z => by rw [z, nd'] at hb; cases hb
              have hbt : b ≠ t := fun z => by rw [z, nt] at hb; cases hb
              have hb2 := k2 b o hbt (sm _ _ hb)
              rw [upd_ne hbd, upd_ne hbf, upd_ne (ne_of_none hb2 hu)]
              exact hb2
            · rw [upd_same, ew, List.flatten_append, List.flatten_singleton, vN_app]
              rfl
            · rw [upd_ne fd, upd_same, List.map_append]
              rfl
            · rw [ew]
              refine tupL_snoc ?_ (Paired.mapP hps fun p c hp => ?_)
              · rw [upd_ne (Ne.symm du), upd_ne (Ne.symm fu), upd_same]
                rfl
              · have hbf : p ≠ f := ne_of hp hff (fun z => by cases z)
                have hbd : p ≠ d := ne_of hp hdd (fun z => by cases z)
                have hbt : p ≠ t := ne_of_none hp ht
                have hb2 := k2 p _ hbt hp
                rw [upd_ne hbd, upd_ne hbf, upd_ne (ne_of_none hb2 hu)]
                exact hb2
          · rw [decide_eq_false fun z => hk2 (by have := V.int.inj z; omega)]
            refine iteT ?_
            have hk3 : k + 1 < per e i := by
              by_cases h : k + 1 = per e i
              · rw [h] at hk2
                exact absurd p2 hk2
              · omega
            refine ⟨.ref t, rfl, .inl ⟨rfl, _, .inl (.inl ht2)⟩, .ref a, rfl, .ref t, rfl, 1, rfl, t, _, -1, _, rfl, rfl, .inl (.inl ht2), last k _ rfl, a, vN e, _, _, rfl, rfl, hA2, atI_nat (vN_get (it_lt he hi)), t, _, _, rfl, rfl, ht2, ?_, ⟨k + 1, hk3, rfl, fun b o hb ho => ?_, ?_⟩, ?_⟩
            · rw [vN_len, walkL_len]
              exact small1000 (by omega)
            · rw [upd_ne hb]
              exact k2 b o hb ho
            · rw [upd_same, walkL_snoc_last e i (k + 1)]
              rfl
            · show (match (upd H2 t (.lst (vN (walkL e i (k + 1)) ++ [.int (ap e (it e k i) : Nat)]))) t with | some (.lst xs) => per e i + 1 - xs.length | _ => 0) < (match H2 t with | some (.lst xs) => per e i + 1 - xs.length | _ => 0)
              rw [hml, upd_same]
              show per e i + 1 - (vN (walkL e i (k + 1)) ++ [V.int (ap e (it e k i) : Nat)]).length < _
              rw [List.length_append, vN_len, walkL_len]
              show per e i + 1 - (k + 1 + 1) < _
              omega
        · obtain ⟨x0, g0, x4, g4, n, gn, p, xs, i2, v, c1, c2, c3, c4, p', xs', i', v', d1, d2, d3, d4, x3, g3, sc, k, ek, hq⟩ := h
          exact ⟨x0, g0, x4, g4, n, gn, p, xs, i2, v, c1, c2, c3, c4, p', xs', i', v', d1, d2, d3, d4, x3, g3, sc, k, ek, mono _ _ hq⟩
    · subst es
      exact ⟨.ref f, rfl, q H' f ps sm hf hff hps⟩
/-! ### _law_alike, of two values of the same data -/
theorem scAlike : FnScope ["_law_found", "_law_due", "_law_k"] ["_law_found", "_law_due"] (defScope sAlike) := ⟨rfl, rfl, rfl, by decide +kernel, rfl, by decide +kernel, by decide +kernel⟩
def tyN : PyData → String
  | .none => "NoneType"
  | .bool _ => "bool"
  | .int _ => "int"
  | .str _ => "str"
  | .list _ => "list"
  | .tuple _ => "tuple"
  | .dict _ => "dict"
theorem tyx_lst {H : Hp} {a : Addr} {xs : List V} (h : SqL K H a xs) : TyX K H (.ref a) (.type "list") := by
  rcases h with (h | ⟨o, h⟩) | ⟨o, its, n, h1, h2, _⟩
  · exact .base (.lst h)
  · exact .base (.frz h)
  · exact .kList h1 h2
theorem dp_ty {H : Hp} {v : V} {d : PyData} (h : Dp K H v d) : TyX K H v (.type (tyN d)) := by
  cases h with
  | non => exact .base .non
  | bl b => exact .base (.bl b)
  | int i => exact .base (.int i)
  | str x => exact .base (.str x)
  | lst hs _ => exact tyx_lst hs
  | tup hs _ => exact tyx_tup hs
mutual
theorem dp_same {H H' : Hp} (e : Same H H') : ∀ (d : PyData) (v : V), Dp K H v d → Dp K H' v d
  | .none, _, h => by cases h; exact .non
  | .bool b, _, h => by cases h; exact .bl b
  | .int i, _, h => by cases h; exact .int i
  | .str x, _, h => by cases h; exact .str x
  | .list ds, _, h => by
    cases h with
    | lst hs ha => exact .lst (e.seq hs) (dpAll_same e ds _ ha)
  | .tuple ds, _, h => by
    cases h with
    | tup hs ha => exact .tup (sqT_same e hs) (dpAll_same e ds _ ha)
  | .dict _, _, h => by cases h
theorem dpAll_same {H H' : Hp} (e : Same H H') : ∀ (ds : List PyData) (vs : List V), DpAll K H vs ds → DpAll K H' vs ds
  | [], _, h => by cases h; exact .nil
  | d :: ds, _, h => by
    cases h with
    | cons h1 h2 => exact .cons (dp_same e d _ h1) (dpAll_same e ds _ h2)
end
theorem dpAll_len {H : Hp} : ∀ {vs : List V} {ds : List PyData}, DpAll K H vs ds → vs.length = ds.length
  | [], _, h => by cases h; rfl
  | v :: vs, _, h => by
    cases h with
    | cons h1 h2 => exact congrArg Nat.succ (dpAll_len h2)
theorem dpAll_at {H : Hp} : ∀ {vs : List V} {ds : List PyData} {i : Nat} {d : PyData}, DpAll K H vs ds → ds[i]? = some d → ∃ v, vs[i]? = some v ∧ Dp K H v d
  | [], _, i, d, h, e => by cases h; simp at e
  | v :: vs, _, 0, d, h, e => by
    cases h with
    | cons h1 h2 =>
      obtain rfl := Option.some.inj e
      exact ⟨v, rfl, h1⟩
  | v :: vs, _, i + 1, d, h, e => by
    cases h with
    | cons h1 h2 =>
      obtain ⟨x, h3, h4⟩ := dpAll_at (vs := vs) (i := i) h2 (by simpa using e)
      exact ⟨x, by simpa using h3, h4⟩
mutual
/-- how deep, and no list too long -/
def okD : Nat → PyData → Bool
  | 0, .list _ => false
  | 0, .tuple _ => false
  | n + 1, .list ds => decide (ds.length ≤ 1000) && okDs n ds
  | n + 1, .tuple ds => decide (ds.length ≤ 1000) && okDs n ds
  | _, .dict _ => false
  | _, _ => true
def okDs : Nat → List PyData → Bool
  | _, [] => true
  | n, d :: ds => okD n d && okDs n ds
end
theorem okDs_at : ∀ {n : Nat} {ds : List PyData} {i : Nat} {d : PyData}, okDs n ds = true → ds[i]? = some d → okD n d = true
  | n, [], i, d, _, e => by simp at e
  | n, x :: ds, 0, d, h, e => by
    obtain rfl := Option.some.inj e
    rw [okDs, Bool.and_eq_true] at h
    exact h.1
  | n, x :: ds, i + 1, d, h, e => by
    rw [okDs, Bool.and_eq_true] at h
    exact okDs_at (n := n) (ds := ds) (i := i) h.2 e
def spAlike (K : PySem.W.Frag) (n : Nat) : Sp := fun vs H Q _ => ∃ (v1 v2 : V) (d : PyData), vs = [v1, v2] ∧ Dp K H v1 d ∧ Dp K H v2 d ∧ okD n d = true ∧ ∀ H', Same H H' → Q (.bl true) H'
theorem kit_false {K : PySem.W.Frag} {a b : String} (h : kitB a b = some false) : PySem.W.kitOne K (.type a) (.type b) = some false := kit_ty h
theorem alike_step {f : Addr} {fd : FuncData} (F : Df K mg "_law_alike" sAlike ["_law_found", "_law_due"] f fd) (B : Bt mg) (n : Nat) (spS : Sp) (GS : FnOk P w K mg base CX0 n f fd ["_law_found", "_law_due"] spS)
    (hS : ∀ m, n = m + 1 → ∀ vs H Q E, spAlike K m vs H Q E → spS vs H Q E) : FnOk P w K mg base CX0 (n + 1) f fd ["_law_found", "_law_due"] (spAlike K n) := by
  refine F.F.ok scAlike (fun vs H Q E h => ?_) (fun cdv A outer s H vs Q E hr h => ?_)
  · obtain ⟨v1, v2, d, rfl, _⟩ := h
    rfl
  · obtain ⟨v1, v2, d, rfl, h1, h2, hok, q⟩ := h
    refine ⟨_, pss_cons (ps_if (pt_val (pe_callB call_isi (by rfl) B.isinstance b_isinstance (pa_cons (pv 1) (pa_cons (pe_ty (by rfl) B.dict b_dict) pa_nil)))) pss_never pss_nil)
      (pss_cons (ps_if (pt_val (pe_callB call_isiT (by rfl) B.isinstance b_isinstance (pa_cons (pv 1) (pa_cons (pe_tup (pa_cons (pe_ty (by rfl) B.tuple b_tuple) (pa_cons (pe_ty (by rfl) B.list b_list) pa_nil))) pa_nil))))
        (pss_cons (ps_if (pw_or (pt_not (pt_val (pe_callB call_isiT (by rfl) B.isinstance b_isinstance (pa_cons (pv 0) (pa_cons (pe_tup (pa_cons (pe_ty (by rfl) B.tuple b_tuple) (pa_cons (pe_ty (by rfl) B.list b_list) pa_nil))) pa_nil)))))
            (pw_or1 (pt_cmpR op_ne (pe_callB call_isi (by rfl) B.isinstance b_isinstance (pa_cons (pv 0) (pa_cons (pe_ty (by rfl) B.list b_list) pa_nil))) (pe_callB call_isi (by rfl) B.isinstance b_isinstance (pa_cons (pv 1) (pa_cons (pe_ty (by rfl) B.list b_list) pa_nil))) (nomark _)))).pt pss_never pss_nil)
        (pss_cons (ps_if (pt_cmpR op_ne (pe_callB call_len_seq (by rfl) B.len b_len (pa_cons (pv 0) pa_nil)) (pe_callB call_len_seq (by rfl) B.len b_len (pa_cons (pv 1) pa_nil)) (nomark _)) pss_never pss_nil)
        (pss_one (ps_ret (pe_cmpR (op_eqD hr.units)
          (pe_lc (own := [("_law_k", 2)]) (g := gName 2) (tt := tNot (tB (tCall spS [] E0 (tCons (tOp (rIx K) (tVar 0) (tVar 2)) (tCons (tOp (rIx K) (tVar 1) (tVar 2)) tNil))))) (te := tVar 2) rfl scAlike.nd
            (pi_range1 (by rfl) B.range (pa_cons (pe_callB call_len_seq (by rfl) B.len b_len (pa_cons (pv 1) pa_nil)) pa_nil)) (blkOk_by (N := ["_law_found", "_law_due", "_law_k"]) (sc := defScope sAlike) (by decide +kernel))
            (fun _ _ _ _ _ => pg_name (i := 2) scAlike.nd rfl (Or.inl rfl))
            (fun _ _ _ _ _ => pts_one (pt_not (pt_val (pe_call GS hr (by rfl) F.g F.F.kp F.b .nil pass0 (pa_cons (pe_ix ix_seq (pv 0) (pv 2) (fun _ _ => rfl)) (pa_cons (pe_ix ix_seq (pv 1) (pv 2) (fun _ _ => rfl)) pa_nil))))))
            (fun _ _ _ _ _ => pv 2)) (pe_lst pa_nil) (nomark _)))))) pss_nil)
      (pss_cons (ps_if (pw_or (pt_cmpR op_isN (pv 1) pe_non (nomark _)) (pw_or1 (pt_val (pe_callB call_isi (by rfl) B.isinstance b_isinstance (pa_cons (pv 1) (pa_cons (pe_ty (by rfl) B.str b_str) pa_nil)))))).pt
        (pss_one (ps_ret (pe_and (pe_cmpR op_eq (pv 0) (pv 1) (nomark _)) (pe_one (pe_cmpR op_eq (pe_callB call_isi (by rfl) B.isinstance b_isinstance (pa_cons (pv 0) (pa_cons (pe_ty (by rfl) B.str b_str) pa_nil))) (pe_callB call_isi (by rfl) B.isinstance b_isinstance (pa_cons (pv 1) (pa_cons (pe_ty (by rfl) B.str b_str) pa_nil))) (nomark _)))))) pss_nil)
      (pss_one (ps_ret (pe_and (pe_callB call_isi (by rfl) B.isinstance b_isinstance (pa_cons (pv 0) (pa_cons (pe_ty (by rfl) B.int b_int) pa_nil))) (pe_and (pe_cmpR op_eq (pe_callB call_isi (by rfl) B.isinstance b_isinstance (pa_cons (pv 0) (pa_cons (pe_ty (by rfl) B.bool b_bool) pa_nil))) (pe_callB call_isi (by rfl) B.isinstance b_isinstance (pa_cons (pv 1) (pa_cons (pe_ty (by rfl) B.bool b_bool) pa_nil))) (nomark _)) (pe_one (pe_cmpR op_eq (pv 0) (pv 1) (nomark _))))))))), ?_⟩
    have tupcs : Paired ClsV [V.ty "tuple", V.ty "list"] [Value.type "tuple", Value.type "list"] := .cons (.ty "tuple") (.cons (.ty "list") .nil)
    cases d with
    | none =>
      cases h1
      cases h2
      refine ⟨.non, rfl, .non, .ty "dict", _, _, false, rfl, .ty "dict", .base .non, kit_ty (by decide +kernel), false, rfl, iteF ?_⟩
      refine ⟨.non, rfl, (by show 2 ≤ sizeLine; decide), fun p hp => ?_⟩
      refine ⟨.non, p, _, _, _, false, rfl, upd_same, tupcs, .base .non, kitAny_cons (b := false) (kit_ty (by decide +kernel)) (fun _ => kitAny_cons (b := false) (kit_ty (by decide +kernel)) (fun _ => kitAny_nil) (fun z => by cases z)) (fun z => by cases z), false, rfl, iteF ?_⟩
      refine ⟨.non, rfl, rfl, _, rfl, iteT (iteT ?_)⟩
      refine ⟨.non, rfl, .non, rfl, rfl, true, (by rw [decide_eq_true rfl]), iteT ?_⟩
      refine ⟨.non, rfl, .non, .ty "str", _, _, false, rfl, .ty "str", .base .non, kit_ty (by decide +kernel), ?_⟩
      refine ⟨.non, rfl, .non, .ty "str", _, _, false, rfl, .ty "str", .base .non, kit_ty (by decide +kernel), rfl, ?_⟩
      exact q _ (same_upd hp)
    | bool b =>
      cases h1
      cases h2
      refine ⟨.bl b, rfl, .bl b, .ty "dict", _, _, false, rfl, .ty "dict", .base (.bl b), kit_ty (by decide +kernel), false, rfl, iteF ?_⟩
      refine ⟨.bl b, rfl, (by show 2 ≤ sizeLine; decide), fun p hp => ?_⟩
      refine ⟨.bl b, p, _, _, _, false, rfl, upd_same, tupcs, .base (.bl b), kitAny_cons (b := false) (kit_ty (by decide +kernel)) (fun _ => kitAny_cons (b := false) (kit_ty (by decide +kernel)) (fun _ => kitAny_nil) (fun z => by cases z)) (fun z => by cases z), false, rfl, iteF ?_⟩
      refine ⟨.bl b, rfl, rfl, _, rfl, iteF ?_⟩
      refine ⟨.bl b, rfl, .bl b, .ty "str", _, _, false, rfl, .ty "str", .base (.bl b), kit_ty (by decide +kernel), _, rfl, iteF ?_⟩
      refine ⟨.bl b, rfl, .bl b, .ty "int", _, _, true, rfl, .ty "int", .base (.bl b), kit_ty (by decide +kernel), true, rfl, iteT ?_⟩
      refine ⟨.bl b, rfl, .bl b, .ty "bool", _, _, true, rfl, .ty "bool", .base (.bl b), kit_ty (by decide +kernel), ?_⟩
      refine ⟨.bl b, rfl, .bl b, .ty "bool", _, _, true, rfl, .ty "bool", .base (.bl b), kit_ty (by decide +kernel), rfl, true, rfl, iteT ?_⟩
      refine ⟨.bl b, rfl, .bl b, rfl, rfl, ?_⟩
      show Q (.bl (decide (V.bl b = V.bl b))) _
      rw [decide_eq_true rfl]
      exact q _ (same_upd hp)
    | int i =>
      cases h1
      cases h2
      refine ⟨.int i, rfl, .int i, .ty "dict", _, _, false, rfl, .ty "dict", .base (.int i), kit_ty (by decide +kernel), false, rfl, iteF ?_⟩
      refine ⟨.int i, rfl, (by show 2 ≤ sizeLine; decide), fun p hp => ?_⟩
      refine ⟨.int i, p, _, _, _, false, rfl, upd_same, tupcs, .base (.int i), kitAny_cons (b := false) (kit_ty (by decide +kernel)) (fun _ => kitAny_cons (b := false) (kit_ty (by decide +kernel)) (fun _ => kitAny_nil) (fun z => by cases z)) (fun z => by cases z), false, rfl, iteF ?_⟩
      refine ⟨.int i, rfl, rfl, _, rfl, iteF ?_⟩
      refine ⟨.int i, rfl, .int i, .ty "str", _, _, false, rfl, .ty "str", .base (.int i), kit_ty (by decide +kernel), _, rfl, iteF ?_⟩
      refine ⟨.int i, rfl, .int i, .ty "int", _, _, true, rfl, .ty "int", .base (.int i), kit_ty (by decide +kernel), true, rfl, iteT ?_⟩
      refine ⟨.int i, rfl, .int i, .ty "bool", _, _, false, rfl, .ty "bool", .base (.int i), kit_ty (by decide +kernel), ?_⟩
      refine ⟨.int i, rfl, .int i, .ty "bool", _, _, false, rfl, .ty "bool", .base (.int i), kit_ty (by decide +kernel), rfl, true, rfl, iteT ?_⟩
      refine ⟨.int i, rfl, .int i, rfl, rfl, ?_⟩
      show Q (.bl (decide (V.int i = V.int i))) _
      rw [decide_eq_true rfl]
      exact q _ (same_upd hp)
    | str x =>
      cases h1
      cases h2
      refine ⟨.str x, rfl, .str x, .ty "dict", _, _, false, rfl, .ty "dict", .base (.str x), kit_ty (by decide +kernel), false, rfl, iteF ?_⟩
      refine ⟨.str x, rfl, (by show 2 ≤ sizeLine; decide), fun p hp => ?_⟩
      refine ⟨.str x, p, _, _, _, false, rfl, upd_same, tupcs, .base (.str x), kitAny_cons (b := false) (kit_ty (by decide +kernel)) (fun _ => kitAny_cons (b := false) (kit_ty (by decide +kernel)) (fun _ => kitAny_nil) (fun z => by cases z)) (fun z => by cases z), false, rfl, iteF ?_⟩
      refine ⟨.str x, rfl, rfl, _, rfl, iteF ?_⟩
      refine ⟨.str x, rfl, .str x, .ty "str", _, _, true, rfl, .ty "str", .base (.str x), kit_ty (by decide +kernel), _, rfl, iteT ?_⟩
      refine ⟨.str x, rfl, .str x, rfl, rfl, true, (by rw [decide_eq_true rfl]), iteT ?_⟩
      refine ⟨.str x, rfl, .str x, .ty "str", _, _, true, rfl, .ty "str", .base (.str x), kit_ty (by decide +kernel), ?_⟩
      refine ⟨.str x, rfl, .str x, .ty "str", _, _, true, rfl, .ty "str", .base (.str x), kit_ty (by decide +kernel), rfl, ?_⟩
      exact q _ (same_upd hp)
    | list ds =>
      cases n with
      | zero => rw [okD] at hok; cases hok
      | succ m =>
      rw [okD, Bool.and_eq_true] at hok
      have hdl : ds.length ≤ 1000 := of_decide_eq_true hok.1
      cases h1 with
      | @lst a1 xs1 _ hs1 ha1 =>
      cases h2 with
      | @lst a2 xs2 _ hs2 ha2 =>
      have l1 := dpAll_len ha1
      have l2 := dpAll_len ha2
      refine ⟨.ref a2, rfl, .ref a2, .ty "dict", _, _, false, rfl, .ty "dict", tyx_lst hs2, kit_ty (by decide +kernel), false, rfl, iteF ?_⟩
      refine ⟨.ref a2, rfl, (by show 2 ≤ sizeLine; decide), fun p hp => ?_⟩
      have sm1 : Same H (upd H p (.tup [V.ty "tuple", V.ty "list"])) := same_upd hp
      refine ⟨.ref a2, p, _, _, _, true, rfl, upd_same, tupcs, tyx_lst (Same.seq sm1 hs2), kitAny_cons (b := false) (kit_ty (by decide +kernel)) (fun _ => kitAny_cons (b := true) (kit_ty (by decide +kernel)) (fun z => by cases z) (fun _ => rfl)) (fun z => by cases z), true, rfl, iteT ?_⟩
      refine ⟨.ref a1, rfl, (by show 2 ≤ sizeLine; decide), fun p2 hp2 => ?_⟩
      have sm2 : Same H (upd (upd H p (.tup [V.ty "tuple", V.ty "list"])) p2 (.tup [V.ty "tuple", V.ty "list"])) := same_of sm1 (Same.free sm1 hp2)
      refine ⟨.ref a1, p2, _, _, _, true, rfl, upd_same, tupcs, tyx_lst (Same.seq sm2 hs1), kitAny_cons (b := false) (kit_ty (by decide +kernel)) (fun _ => kitAny_cons (b := true) (kit_ty (by decide +kernel)) (fun z => by cases z) (fun _ => rfl)) (fun z => by cases z), true, rfl, iteF ?_⟩
      refine ⟨.ref a1, rfl, .ref a1, .ty "list", _, _, true, rfl, .ty "list", tyx_lst (Same.seq sm2 hs1), kit_ty (by decide +kernel), ?_⟩
      refine ⟨.ref a2, rfl, .ref a2, .ty "list", _, _, true, rfl, .ty "list", tyx_lst (Same.seq sm2 hs2), kit_ty (by decide +kernel), rfl, false, rfl, iteF ?_⟩
      refine ⟨.ref a1, rfl, a1, xs1, rfl, .inl (Same.seq sm2 hs1), .ref a2, rfl, a2, xs2, rfl, .inl (Same.seq sm2 hs2), rfl, _, rfl, ?_⟩
      rw [l1, l2, decide_eq_true rfl]
      refine iteF ?_
      have b62 : (1000 : Int) < 2 ^ 62 := by decide
      refine ⟨.ref a2, rfl, a2, xs2, rfl, .inl (Same.seq sm2 hs2), (xs2.length : Nat), rfl, by omega, by omega, fun D hD => ?_⟩
      have smD : Same H (upd (upd (upd H p (.tup [V.ty "tuple", V.ty "list"])) p2 (.tup [V.ty "tuple", V.ty "list"])) D (.lst [])) := same_of sm2 (Same.free sm2 hD)
      refine lc_range (lo := 0) (n := (xs2.length : Int).toNat) (fun i H' => Same H H' ∧ H' D = some (.lst [])) ⟨smD, upd_same⟩ (fun i H' hi ⟨sm, hd⟩ => ?_) (fun H' ⟨sm, hd⟩ => ?_)
      · have hi2 : i < ds.length := by
          rw [Int.toNat_natCast] at hi
          omega
        obtain ⟨w1, g1, e1⟩ := dpAll_at ha1 (List.getElem?_eq_getElem hi2)
        obtain ⟨w2, g2, e2⟩ := dpAll_at ha2 (List.getElem?_eq_getElem hi2)
        have ei : (0 : Int) + (i : Nat) = (i : Nat) := by omega
        rw [ei]
        refine ⟨rfl, .ref a1, rfl, .int (i : Nat), rfl, .inl ⟨a1, xs1, (i : Nat), w1, rfl, rfl, (Same.seq sm hs1), atI_nat g1, ?_⟩⟩
        refine ⟨.ref a2, rfl, .int (i : Nat), rfl, .inl ⟨a2, xs2, (i : Nat), w2, rfl, rfl, (Same.seq sm hs2), atI_nat g2, ?_⟩⟩
        refine hS m rfl _ _ _ _ ⟨w1, w2, _, rfl, dp_same sm _ _ e1, dp_same sm _ _ e2, okDs_at hok.2 (List.getElem?_eq_getElem hi2), fun H3 sm3 => ⟨true, rfl, iteF ⟨sm.trans sm3, sm3 _ _ hd⟩⟩⟩
      · refine ⟨Nat.zero_le _, fun z hz => ?_⟩
        refine ⟨.list [], .list [], .lst (.inl (.inl ?_)) .nil, .lst (.inl (.inl upd_same)) .nil, rfl, rfl, q _ (same_of sm (Same.free sm hz))⟩
        rw [upd_ne (ne_of_none hd hz)]
        exact hd
    | tuple ds =>
      cases n with
      | zero => rw [okD] at hok; cases hok
      | succ m =>
      rw [okD, Bool.and_eq_true] at hok
      have hdl : ds.length ≤ 1000 := of_decide_eq_true hok.1
      cases h1 with
      | @tup a1 xs1 _ hs1 ha1 =>
      cases h2 with
      | @tup a2 xs2 _ hs2 ha2 =>
      have l1 := dpAll_len ha1
      have l2 := dpAll_len ha2
      refine ⟨.ref a2, rfl, .ref a2, .ty "dict", _, _, false, rfl, .ty "dict", tyx_tup hs2, kit_ty (by decide +kernel), false, rfl, iteF ?_⟩
      refine ⟨.ref a2, rfl, (by show 2 ≤ sizeLine; decide), fun p hp => ?_⟩
      have sm1 : Same H (upd H p (.tup [V.ty "tuple", V.ty "list"])) := same_upd hp
      refine ⟨.ref a2, p, _, _, _, true, rfl, upd_same, tupcs, tyx_tup (sqT_same sm1 hs2), kitAny_cons (b := true) (kit_ty (by decide +kernel)) (fun z => by cases z) (fun _ => rfl), true, rfl, iteT ?_⟩
      refine ⟨.ref a1, rfl, (by show 2 ≤ sizeLine; decide), fun p2 hp2 => ?_⟩
      have sm2 : Same H (upd (upd H p (.tup [V.ty "tuple", V.ty "list"])) p2 (.tup [V.ty "tuple", V.ty "list"])) := same_of sm1 (Same.free sm1 hp2)
      refine ⟨.ref a1, p2, _, _, _, true, rfl, upd_same, tupcs, tyx_tup (sqT_same sm2 hs1), kitAny_cons (b := true) (kit_ty (by decide +kernel)) (fun z => by cases z) (fun _ => rfl), true, rfl, iteF ?_⟩
      refine ⟨.ref a1, rfl, .ref a1, .ty "list", _, _, false, rfl, .ty "list", tyx_tup (sqT_same sm2 hs1), kit_ty (by decide +kernel), ?_⟩
      refine ⟨.ref a2, rfl, .ref a2, .ty "list", _, _, false, rfl, .ty "list", tyx_tup (sqT_same sm2 hs2), kit_ty (by decide +kernel), rfl, false, rfl, iteF ?_⟩
      refine ⟨.ref a1, rfl, a1, xs1, rfl, .inr (sqT_same sm2 hs1), .ref a2, rfl, a2, xs2, rfl, .inr (sqT_same sm2 hs2), rfl, _, rfl, ?_⟩
      rw [l1, l2, decide_eq_true rfl]
      refine iteF ?_
      have b62 : (1000 : Int) < 2 ^ 62 := by decide
      refine ⟨.ref a2, rfl, a2, xs2, rfl, .inr (sqT_same sm2 hs2), (xs2.length : Nat), rfl, by omega, by omega, fun D hD => ?_⟩
      have smD : Same H (upd (upd (upd H p (.tup [V.ty "tuple", V.ty "list"])) p2 (.tup [V.ty "tuple", V.ty "list"])) D (.lst [])) := same_of sm2 (Same.free sm2 hD)
      refine lc_range (lo := 0) (n := (xs2.length : Int).toNat) (fun i H' => Same H H' ∧ H' D = some (.lst [])) ⟨smD, upd_same⟩ (fun i H' hi ⟨sm, hd⟩ => ?_) (fun H' ⟨sm, hd⟩ => ?_)
      · have hi2 : i < ds.length := by
          rw [Int.toNat_natCast] at hi
          omega
        obtain ⟨w1, g1, e1⟩ := dpAll_at ha1 (List.getElem?_eq_getElem hi2)
        obtain ⟨w2, g2, e2⟩ := dpAll_at ha2 (List.getElem?_eq_getElem hi2)
        have ei : (0 : Int) + (i : Nat) = (i : Nat) := by omega
        rw [ei]
        refine ⟨rfl, .ref a1, rfl, .int (i : Nat), rfl, .inr <| .inl ⟨a1, xs1, (i : Nat), w1, rfl, rfl, (sqT_same sm hs1), atI_nat g1, ?_⟩⟩
        refine ⟨.ref a2, rfl, .int (i : Nat), rfl, .inr <| .inl ⟨a2, xs2, (i : Nat), w2, rfl, rfl, (sqT_same sm hs2), atI_nat g2, ?_⟩⟩
        refine hS m rfl _ _ _ _ ⟨w1, w2, _, rfl, dp_same sm _ _ e1, dp_same sm _ _ e2, okDs_at hok.2 (List.getElem?_eq_getElem hi2), fun H3 sm3 => ⟨true, rfl, iteF ⟨sm.trans sm3, sm3 _ _ hd⟩⟩⟩
      · refine ⟨Nat.zero_le _, fun z hz => ?_⟩
        refine ⟨.list [], .list [], .lst (.inl (.inl ?_)) .nil, .lst (.inl (.inl upd_same)) .nil, rfl, rfl, q _ (same_of sm (Same.free sm hz))⟩
        rw [upd_ne (ne_of_none hd hz)]
        exact hd
    | dict _ => cases h1
theorem ok_alike {f : Addr} {fd : FuncData} (F : Df K mg "_law_alike" sAlike ["_law_found", "_law_due"] f fd) (B : Bt mg) : ∀ n, FnOk P w K mg base CX0 (n + 1) f fd ["_law_found", "_law_due"] (spAlike K n)
  | 0 => alike_step F B 0 (fun _ _ _ _ => False) ⟨fun _ _ _ _ h => h.elim, fun _ _ _ _ _ _ _ _ _ _ _ _ _ h => h.elim⟩ (fun m e => by omega)
  | n + 1 => alike_step F B (n + 1) (spAlike K n) (ok_alike F B n) (fun m e vs H Q E h => by
    have : m = n := by omega
    subst this
    exact h)
end
end Sv


set_option maxHeartbeats 8000000
namespace Sv
open PySem PySem.Spec PyProof.Rows L2 LamX NdefX
/-! ### _law_error -/
theorem scError : FnScope ["_law_call", "e", "_law_kinds", "_law_names", "_law_name"] ["_law_call"] (defScope sError) := ⟨rfl, rfl, rfl, by decide +kernel, rfl, by decide +kernel, by decide +kernel⟩
theorem b_VE : bootBuiltins "ValueError" = some (.type "ValueError") := by decide +kernel
theorem pa_one {X : Cx} {e : Expr} {te : TE} (h : PE X e te) (hs : starEach [e] X.env = (false, eval e X.env) :: starEach [] X.env := by rfl) : PA X [e] (tCons te tNil) := pa_cons h pa_nil hs
theorem pe_never {X : Cx} {e : Expr} : PE X e (fun _ _ _ => False) := ⟨fun _ _ _ _ _ _ h => h.elim⟩
/-- the classes' names at the top -/
structure ErG (mg : Str → Option Value) (CS C0 C1 C2 C3 C4 C5 C6 C7 C8 C9 C10 C11 C12 C13 C14 : Addr) : Prop where
  gS : mg "ShelfError" = some (.ref CS)
  g0 : mg "InvalidPlan" = some (.ref C0)
  g1 : mg "InvalidState" = some (.ref C1)
  g2 : mg "InvalidCount" = some (.ref C2)
  g3 : mg "UnknownPlace" = some (.ref C3)
  g4 : mg "UnknownParcel" = some (.ref C4)
  g5 : mg "UnknownShelf" = some (.ref C5)
  g6 : mg "UnknownCarrier" = some (.ref C6)
  g7 : mg "InvalidEffect" = some (.ref C7)
  g8 : mg "DifferentSizes" = some (.ref C8)
  g9 : mg "InvalidParcels" = some (.ref C9)
  g10 : mg "Contradiction" = some (.ref C10)
  g11 : mg "InvalidArrangement" = some (.ref C11)
  g12 : mg "ShelfFull" = some (.ref C12)
  g13 : mg "ParcelCarried" = some (.ref C13)
  g14 : mg "InvalidSwap" = some (.ref C14)
  gV : mg "ValueError" = none
def kl (b0 b1 b2 b3 b4 b5 b6 b7 b8 b9 b10 b11 b12 b13 b14 : Bool) : List V := [.bl b0, .bl b1, .bl b2, .bl b3, .bl b4, .bl b5, .bl b6, .bl b7, .bl b8, .bl b9, .bl b10, .bl b11, .bl b12, .bl b13, .bl b14]
def nmL : List V := [.str "plan", .str "state", .str "count", .str "place", .str "parcel", .str "shelf", .str "carrier", .str "effect", .str "sizes", .str "parcels", .str "contradiction", .str "arrangement", .str "full", .str "carried", .str "swap"]
/-- how the class D answers, and its name -/
structure ErK (K : PySem.W.Frag) (CS C0 C1 C2 C3 C4 C5 C6 C7 C8 C9 C10 C11 C12 C13 C14 D : Addr) (nm : Str) (b0 b1 b2 b3 b4 b5 b6 b7 b8 b9 b10 b11 b12 b13 b14 : Bool) (j : Nat) : Prop where
  exc : ExcC K D
  ex : PySem.W.exmOne K (.ref D) (.ref CS) = some true
  ve : PySem.W.kitOne K (.ref D) (.type "ValueError") = some true
  k0 : PySem.W.kitOne K (.ref D) (.ref C0) = some b0
  k1 : PySem.W.kitOne K (.ref D) (.ref C1) = some b1
  k2 : PySem.W.kitOne K (.ref D) (.ref C2) = some b2
  k3 : PySem.W.kitOne K (.ref D) (.ref C3) = some b3
  k4 : PySem.W.kitOne K (.ref D) (.ref C4) = some b4
  k5 : PySem.W.kitOne K (.ref D) (.ref C5) = some b5
  k6 : PySem.W.kitOne K (.ref D) (.ref C6) = some b6
  k7 : PySem.W.kitOne K (.ref D) (.ref C7) = some b7
  k8 : PySem.W.kitOne K (.ref D) (.ref C8) = some b8
  k9 : PySem.W.kitOne K (.ref D) (.ref C9) = some b9
  k10 : PySem.W.kitOne K (.ref D) (.ref C10) = some b10
  k11 : PySem.W.kitOne K (.ref D) (.ref C11) = some b11
  k12 : PySem.W.kitOne K (.ref D) (.ref C12) = some b12
  k13 : PySem.W.kitOne K (.ref D) (.ref C13) = some b13
  k14 : PySem.W.kitOne K (.ref D) (.ref C14) = some b14
  cnt : ((kl b0 b1 b2 b3 b4 b5 b6 b7 b8 b9 b10 b11 b12 b13 b14).countP fun z => eqV z (.bl true)) = 1
  at_ : (kl b0 b1 b2 b3 b4 b5 b6 b7 b8 b9 b10 b11 b12 b13 b14)[j]? = some (.bl true)
  be : ∀ (m : Nat) (z : V), m < j → (kl b0 b1 b2 b3 b4 b5 b6 b7 b8 b9 b10 b11 b12 b13 b14)[m]? = some z → eqV z (.bl true) = false
  tag : nmL[j]? = some (.str nm)
  n1 : nm ≠ ("plan" : Str)
  n2 : nm ≠ ("swap" : Str)
def NewS (H : Hp) (nm : Str) (Q : VK) : Prop := ∀ H' p, Same H H' → H p = none → H' p = some (.tup [.str nm]) → Q (.ref p) H'
theorem NewS.imp {H H1 : Hp} {nm : Str} {Q : VK} (h : NewS H nm Q) (e : Same H H1) : NewS H1 nm Q := fun H' p sm hp hq => h H' p (e.trans sm) (Same.free e hp) hq
/-- what is wanted of the errors and of the value -/
def ErrE (K : PySem.W.Frag) (CS C0 C1 C2 C3 C4 C5 C6 C7 C8 C9 C10 C11 C12 C13 C14 : Addr) (Q : VK) : XK := fun cls d H' => ∃ (D : Addr) (nm : Str) (b0 b1 b2 b3 b4 b5 b6 b7 b8 b9 b10 b11 b12 b13 b14 : Bool) (j : Nat), cls = .ref D ∧ d = none ∧ ErK K CS C0 C1 C2 C3 C4 C5 C6 C7 C8 C9 C10 C11 C12 C13 C14 D nm b0 b1 b2 b3 b4 b5 b6 b7 b8 b9 b10 b11 b12 b13 b14 j ∧ NewS H' nm Q
def OkQ (Q : VK) : VK := fun _ H' => NewS H' "none" Q
def KnErr (P : Program) (w : World) (K : PySem.W.Frag) (mg : Str → Option Value) (base : Heap) (k : Nat) (CS C0 C1 C2 C3 C4 C5 C6 C7 C8 C9 C10 C11 C12 C13 C14 : Addr) : List Addr → Shared → Hp → V → VK → Prop := fun fs s H v Q =>
  ∃ (f : Addr) (L : LF) (fr : List Str) (dvs : List V) (ws : List (Option V)) (tl : List (Option V) → XK → Hp → VK → Prop), v = .ref f ∧ LamAt P w K mg base k fs s H f L fr dvs ws tl ∧ tl ws (ErrE K CS C0 C1 C2 C3 C4 C5 C6 C7 C8 C9 C10 C11 C12 C13 C14 Q) H (OkQ Q)
section
variable {P : Program} {w : World} {K : PySem.W.Frag} {mg : Str → Option Value} {base : Heap}
theorem lst_same {H H' : Hp} {D : Addr} {xs : List V} {o : HO} (sm : Same H H') (hD : H D = none) : Same H (upd H' D o) := same_of sm hD
theorem ok_error {CS C0 C1 C2 C3 C4 C5 C6 C7 C8 C9 C10 C11 C12 C13 C14 : Addr} {f : Addr} {fd : FuncData} {k : Nat} (F : Df K mg "_law_error" sError ["_law_call"] f fd) (B : Bt mg) (G : ErG mg CS C0 C1 C2 C3 C4 C5 C6 C7 C8 C9 C10 C11 C12 C13 C14) : FnSt P w K mg base (k + 1) f (KnErr P w K mg base k CS C0 C1 C2 C3 C4 C5 C6 C7 C8 C9 C10 C11 C12 C13 C14) := by
  refine fnst_of F.F scError F.b fun cdv A outer s H v Q hr e0 hK => ?_
  obtain ⟨fl, L, fr, dvs, ws, tl, rfl, LA, ht⟩ := hK
  refine ⟨_, pss_cons (ps_try_as (i := 1) (n := "e") (Wout := fun _ _ _ _ => False)
      (tb := fun W D σ H1 => σ[0]? = some (some (.ref fl)) ∧ H1 fl = some (LamO fl L) ∧ H1 L.c = some (CodeO L.c L.qual) ∧ DflAt H1 L.dV dvs ∧ ∃ (E' : XK) (Q' : VK), (∀ cls d H', E' cls d H' → W cls d σ H') ∧ (∀ v H', Q' v H' → D.nx σ H') ∧ tl ws E' H1 Q')
      (ts := fun a cls d D σ H1 => (∃ x0, σ = [some x0, some (.ref a), none, none, none]) ∧ ErrE K CS C0 C1 C2 C3 C4 C5 C6 C7 C8 C9 C10 C11 C12 C13 C14 D.rt cls d H1)
      rfl rfl scError.nd rfl rfl ⟨rfl, by decide, .inl G.gS⟩ L2.takes0 (fun W pn xe tk _ => ⟨fun pins s1 σ H1 D I h => ?_⟩) (fun a oe cls d pn hz hf => ⟨fun pins s1 σ H1 D I h => ?_⟩))
    (pss_one (ps_ret (pe_tup (pa_cons pe_str pa_nil)))), ?_⟩
  · -- the call
    refine (pss_one (ps_expr (pe_actL (CXg := CX0) (Eg := E0) (Ng := ["_law_call", "e", "_law_kinds", "_law_names", "_law_name"]) (qg := "_law_error") (sg := defScope sError) (g := f) (cdg := cdv) (pn := pn) (xe := xe) (i := 0) LA tk hr rfl (.inl rfl)))).run pins s1 σ H1 D I ?_
    obtain ⟨h1, h2, h3, h4, E', Q', h5, h6, h7⟩ := h
    exact ⟨h1, h2, h3, h4, E', Q', h5, h6, h7⟩
  · -- the suite
    obtain ⟨⟨x0, rfl⟩, D0, nm, b0, b1, b2, b3, b4, b5, b6, b7, b8, b9, b10, b11, b12, b13, b14, j, rfl, rfl, R, hQ⟩ := h
    refine (pss_cons (ps_set (i := 2) scError.nd rfl (Or.inl rfl) (pe_lst (pa_cons (pe_callB (call_isE R.exc hz hf) (by rfl) B.isinstance b_isinstance (pa_cons (pv 1) (pa_cons (pe_glob (v := .ref C0) (by rfl) G.g0 rfl) pa_nil))) (pa_cons (pe_callB (call_isE R.exc hz hf) (by rfl) B.isinstance b_isinstance (pa_cons (pv 1) (pa_cons (pe_glob (v := .ref C1) (by rfl) G.g1 rfl) pa_nil))) (pa_cons (pe_callB (call_isE R.exc hz hf) (by rfl) B.isinstance b_isinstance (pa_cons (pv 1) (pa_cons (pe_glob (v := .ref C2) (by rfl) G.g2 rfl) pa_nil))) pa_nil)))))
      (pss_cons (ps_expr (pe_bm PySem.F.plainAttrs_list PySem.F.slot_list_extend PySem.F.type_list_extend mt_extend (pv 2) <| pa_one (pe_lst (pa_cons (pe_callB (call_isE R.exc hz hf) (by rfl) B.isinstance b_isinstance (pa_cons (pv 1) (pa_cons (pe_glob (v := .ref C3) (by rfl) G.g3 rfl) pa_nil))) (pa_cons (pe_callB (call_isE R.exc hz hf) (by rfl) B.isinstance b_isinstance (pa_cons (pv 1) (pa_cons (pe_glob (v := .ref C4) (by rfl) G.g4 rfl) pa_nil))) (pa_cons (pe_callB (call_isE R.exc hz hf) (by rfl) B.isinstance b_isinstance (pa_cons (pv 1) (pa_cons (pe_glob (v := .ref C5) (by rfl) G.g5 rfl) pa_nil))) pa_nil))))))
      (pss_cons (ps_expr (pe_bm PySem.F.plainAttrs_list PySem.F.slot_list_extend PySem.F.type_list_extend mt_extend (pv 2) <| pa_one (pe_lst (pa_cons (pe_callB (call_isE R.exc hz hf) (by rfl) B.isinstance b_isinstance (pa_cons (pv 1) (pa_cons (pe_glob (v := .ref C6) (by rfl) G.g6 rfl) pa_nil))) (pa_cons (pe_callB (call_isE R.exc hz hf) (by rfl) B.isinstance b_isinstance (pa_cons (pv 1) (pa_cons (pe_glob (v := .ref C7) (by rfl) G.g7 rfl) pa_nil))) (pa_cons (pe_callB (call_isE R.exc hz hf) (by rfl) B.isinstance b_isinstance (pa_cons (pv 1) (pa_cons (pe_glob (v := .ref C8) (by rfl) G.g8 rfl) pa_nil))) pa_nil))))))
      (pss_cons (ps_expr (pe_bm PySem.F.plainAttrs_list PySem.F.slot_list_extend PySem.F.type_list_extend mt_extend (pv 2) <| pa_one (pe_lst (pa_cons (pe_callB (call_isE R.exc hz hf) (by rfl) B.isinstance b_isinstance (pa_cons (pv 1) (pa_cons (pe_glob (v := .ref C9) (by rfl) G.g9 rfl) pa_nil))) (pa_cons (pe_callB (call_isE R.exc hz hf) (by rfl) B.isinstance b_isinstance (pa_cons (pv 1) (pa_cons (pe_glob (v := .ref C10) (by rfl) G.g10 rfl) pa_nil))) pa_nil)))))
      (pss_cons (ps_expr (pe_bm PySem.F.plainAttrs_list PySem.F.slot_list_extend PySem.F.type_list_extend mt_extend (pv 2) <| pa_one (pe_lst (pa_cons (pe_callB (call_isE R.exc hz hf) (by rfl) B.isinstance b_isinstance (pa_cons (pv 1) (pa_cons (pe_glob (v := .ref C11) (by rfl) G.g11 rfl) pa_nil))) (pa_cons (pe_callB (call_isE R.exc hz hf) (by rfl) B.isinstance b_isinstance (pa_cons (pv 1) (pa_cons (pe_glob (v := .ref C12) (by rfl) G.g12 rfl) pa_nil))) (pa_cons (pe_callB (call_isE R.exc hz hf) (by rfl) B.isinstance b_isinstance (pa_cons (pv 1) (pa_cons (pe_glob (v := .ref C13) (by rfl) G.g13 rfl) pa_nil))) pa_nil))))))
      (pss_cons (ps_expr (pe_bm PySem.F.plainAttrs_list PySem.F.slot_list_append PySem.F.type_list_append mt_append (pv 2) (pa_cons (pe_callB (call_isE R.exc hz hf) (by rfl) B.isinstance b_isinstance (pa_cons (pv 1) (pa_cons (pe_glob (v := .ref C14) (by rfl) G.g14 rfl) pa_nil))) pa_nil)))
      (pss_cons (ps_if (pw_or (pt_cmpR op_ne (pe_bm PySem.F.plainAttrs_list PySem.F.slot_list_count PySem.F.type_list_count mt_countV (pv 2) (pa_cons pe_bl pa_nil)) pe_int (nomark _))
          (pw_or1 (pt_not (pt_val (pe_callB (call_isE R.exc hz hf) (by rfl) B.isinstance b_isinstance (pa_cons (pv 1) (pa_cons (pe_ty (by rfl) G.gV b_VE) pa_nil))))))).pt pss_never pss_nil)
      (pss_cons (ps_set (i := 3) scError.nd rfl (Or.inl rfl) (pe_lst (pa_cons pe_str (pa_cons pe_str (pa_cons pe_str (pa_cons pe_str (pa_cons pe_str (pa_cons pe_str (pa_cons pe_str (pa_cons pe_str (pa_cons pe_str (pa_cons pe_str pa_nil))))))))))))
      (pss_cons (ps_set (i := 4) scError.nd rfl (Or.inl rfl) (pe_ix ix_list (pe_op op_cat (pv 3) (pe_lst (pa_cons pe_str (pa_cons pe_str (pa_cons pe_str (pa_cons pe_str (pa_cons pe_str pa_nil))))))) (pe_bm PySem.F.plainAttrs_list PySem.F.slot_list_index PySem.F.type_list_index mt_index (pv 2) (pa_cons pe_bl pa_nil)) (fun _ _ => rfl)))
      (pss_cons (ps_if (pt_cmpR op_eq (pv 4) pe_str (nomark _)) pss_never pss_nil)
      (pss_one (ps_ret (pe_ifExp (pt_cmpR op_eq (pv 4) pe_str (nomark _)) pe_never (pe_tup (pa_cons (pv 4) pa_nil))))))))))))))).run pins s1 _ H1 D I ?_
    refine ⟨.ref a, rfl, .ref C0, .ref C0, b0, rfl, fun u h => h, R.k0, .ref a, rfl, .ref C1, .ref C1, b1, rfl, fun u h => h, R.k1, .ref a, rfl, .ref C2, .ref C2, b2, rfl, fun u h => h, R.k2, (by show 3 ≤ sizeLine; decide), fun p hp => ?_⟩
    obtain ⟨H2, eH2⟩ : ∃ H', H' = upd H1 p (.lst [.bl b0, .bl b1, .bl b2]) := ⟨_, rfl⟩
    have sm2 : Same H1 H2 := by rw [eH2]; exact same_upd hp
    have hk2 : H2 p = some (.lst [.bl b0, .bl b1, .bl b2]) := by rw [eH2]; exact upd_same
    rw [← eH2]
    -- extend
    refine ⟨.ref p, rfl, .inl ⟨rfl, _, .inl (.inl hk2)⟩, .ref a, rfl, .ref C3, .ref C3, b3, rfl, fun u h => h, R.k3, .ref a, rfl, .ref C4, .ref C4, b4, rfl, fun u h => h, R.k4, .ref a, rfl, .ref C5, .ref C5, b5, rfl, fun u h => h, R.k5, (by show 3 ≤ sizeLine; decide), fun q2 hq2 => ?_⟩
    have pq2 : p ≠ q2 := ne_of_none hk2 hq2
    refine ⟨p, q2, _, _, rfl, rfl, by rw [upd_ne pq2]; exact hk2, upd_same, (by show 3 + 3 ≤ sizeLine; decide), ?_⟩
    obtain ⟨H3, eH3⟩ : ∃ H', H' = upd (upd H2 q2 (.lst [.bl b3, .bl b4, .bl b5])) p (.lst ([.bl b0, .bl b1, .bl b2] ++ [.bl b3, .bl b4, .bl b5])) := ⟨_, rfl⟩
    have sm3 : Same H1 H3 := by rw [eH3]; exact same_of (same_of sm2 (Same.free sm2 hq2)) hp
    have hk3 : H3 p = some (.lst [.bl b0, .bl b1, .bl b2, .bl b3, .bl b4, .bl b5]) := by rw [eH3]; exact upd_same
    rw [← eH3]
    -- extend
    refine ⟨.ref p, rfl, .inl ⟨rfl, _, .inl (.inl hk3)⟩, .ref a, rfl, .ref C6, .ref C6, b6, rfl, fun u h => h, R.k6, .ref a, rfl, .ref C7, .ref C7, b7, rfl, fun u h => h, R.k7, .ref a, rfl, .ref C8, .ref C8, b8, rfl, fun u h => h, R.k8, (by show 3 ≤ sizeLine; decide), fun q3 hq3 => ?_⟩
    have pq3 : p ≠ q3 := ne_of_none hk3 hq3
    refine ⟨p, q3, _, _, rfl, rfl, by rw [upd_ne pq3]; exact hk3, upd_same, (by show 6 + 3 ≤ sizeLine; decide), ?_⟩
    obtain ⟨H4, eH4⟩ : ∃ H', H' = upd (upd H3 q3 (.lst [.bl b6, .bl b7, .bl b8])) p (.lst ([.bl b0, .bl b1, .bl b2, .bl b3, .bl b4, .bl b5] ++ [.bl b6, .bl b7, .bl b8])) := ⟨_, rfl⟩
    have sm4 : Same H1 H4 := by rw [eH4]; exact same_of (same_of sm3 (Same.free sm3 hq3)) hp
    have hk4 : H4 p = some (.lst [.bl b0, .bl b1, .bl b2, .bl b3, .bl b4, .bl b5, .bl b6, .bl b7, .bl b8]) := by rw [eH4]; exact upd_same
    rw [← eH4]
    -- extend
    refine ⟨.ref p, rfl, .inl ⟨rfl, _, .inl (.inl hk4)⟩, .ref a, rfl, .ref C9, .ref C9, b9, rfl, fun u h => h, R.k9, .ref a, rfl, .ref C10, .ref C10, b10, rfl, fun u h => h, R.k10, (by show 2 ≤ sizeLine; decide), fun q4 hq4 => ?_⟩
    have pq4 : p ≠ q4 := ne_of_none hk4 hq4
    refine ⟨p, q4, _, _, rfl, rfl, by rw [upd_ne pq4]; exact hk4, upd_same, (by show 9 + 2 ≤ sizeLine; decide), ?_⟩
    obtain ⟨H5, eH5⟩ : ∃ H', H' = upd (upd H4 q4 (.lst [.bl b9, .bl b10])) p (.lst ([.bl b0, .bl b1, .bl b2, .bl b3, .bl b4, .bl b5, .bl b6, .bl b7, .bl b8] ++ [.bl b9, .bl b10])) := ⟨_, rfl⟩
    have sm5 : Same H1 H5 := by rw [eH5]; exact same_of (same_of sm4 (Same.free sm4 hq4)) hp
    have hk5 : H5 p = some (.lst [.bl b0, .bl b1, .bl b2, .bl b3, .bl b4, .bl b5, .bl b6, .bl b7, .bl b8, .bl b9, .bl b10]) := by rw [eH5]; exact upd_same
    rw [← eH5]
    -- extend
    refine ⟨.ref p, rfl, .inl ⟨rfl, _, .inl (.inl hk5)⟩, .ref a, rfl, .ref C11, .ref C11, b11, rfl, fun u h => h, R.k11, .ref a, rfl, .ref C12, .ref C12, b12, rfl, fun u h => h, R.k12, .ref a, rfl, .ref C13, .ref C13, b13, rfl, fun u h => h, R.k13, (by show 3 ≤ sizeLine; decide), fun q5 hq5 => ?_⟩
    have pq5 : p ≠ q5 := ne_of_none hk5 hq5
    refine ⟨p, q5, _, _, rfl, rfl, by rw [upd_ne pq5]; exact hk5, upd_same, (by show 11 + 3 ≤ sizeLine; decide), ?_⟩
    obtain ⟨H6, eH6⟩ : ∃ H', H' = upd (upd H5 q5 (.lst [.bl b11, .bl b12, .bl b13])) p (.lst ([.bl b0, .bl b1, .bl b2, .bl b3, .bl b4, .bl b5, .bl b6, .bl b7, .bl b8, .bl b9, .bl b10] ++ [.bl b11, .bl b12, .bl b13])) := ⟨_, rfl⟩
    have sm6 : Same H1 H6 := by rw [eH6]; exact same_of (same_of sm5 (Same.free sm5 hq5)) hp
    have hk6 : H6 p = some (.lst [.bl b0, .bl b1, .bl b2, .bl b3, .bl b4, .bl b5, .bl b6, .bl b7, .bl b8, .bl b9, .bl b10, .bl b11, .bl b12, .bl b13]) := by rw [eH6]; exact upd_same
    rw [← eH6]
    -- append
    refine ⟨.ref p, rfl, .inl ⟨rfl, _, .inl (.inl hk6)⟩, .ref a, rfl, .ref C14, .ref C14, b14, rfl, fun u h => h, R.k14, p, _, _, rfl, rfl, hk6, (by show 14 < sizeLine; decide), ?_⟩
    obtain ⟨H7, eH7⟩ : ∃ H', H' = upd H6 p (.lst ([.bl b0, .bl b1, .bl b2, .bl b3, .bl b4, .bl b5, .bl b6, .bl b7, .bl b8, .bl b9, .bl b10, .bl b11, .bl b12, .bl b13] ++ [.bl b14])) := ⟨_, rfl⟩
    have sm7 : Same H1 H7 := by rw [eH7]; exact same_of sm6 hp
    have hk7 : H7 p = some (.lst (kl b0 b1 b2 b3 b4 b5 b6 b7 b8 b9 b10 b11 b12 b13 b14)) := by rw [eH7]; exact upd_same
    rw [← eH7]
    -- the count
    refine ⟨.ref p, rfl, .inl ⟨rfl, _, .inl (.inl hk7)⟩, p, kl b0 b1 b2 b3 b4 b5 b6 b7 b8 b9 b10 b11 b12 b13 b14, .bl true, rfl, rfl, .inl (.inl hk7), rfl, rfl, rfl, _, rfl, ?_⟩
    rw [R.cnt]
    refine iteF ⟨.ref a, rfl, .ty "ValueError", .type "ValueError", true, rfl, fun u h => h, R.ve, true, rfl, iteF ?_⟩
    -- the names
    refine ⟨(by show 10 ≤ sizeLine; decide), fun q hq => ?_⟩
    refine ⟨.ref q, rfl, (by show 5 ≤ sizeLine; decide), fun r hr2 => ?_⟩
    have qr : q ≠ r := ne_of_none upd_same hr2
    refine ⟨q, r, _, _, rfl, rfl, by rw [upd_ne qr]; exact upd_same, upd_same, (by show 10 + 5 ≤ sizeLine; decide), fun u hu => ?_⟩
    obtain ⟨H8, eH8⟩ : ∃ H', H' = upd (upd (upd H7 q (.lst [V.str "plan", V.str "state", V.str "count", V.str "place", V.str "parcel", V.str "shelf", V.str "carrier", V.str "effect", V.str "sizes", V.str "parcels"])) r (.lst [V.str "contradiction", V.str "arrangement", V.str "full", V.str "carried", V.str "swap"])) u (.lst ([V.str "plan", V.str "state", V.str "count", V.str "place", V.str "parcel", V.str "shelf", V.str "carrier", V.str "effect", V.str "sizes", V.str "parcels"] ++ [V.str "contradiction", V.str "arrangement", V.str "full", V.str "carried", V.str "swap"])) := ⟨_, rfl⟩
    have sm8' : Same H7 H8 := by rw [eH8]; exact same_of (same_of (same_upd hq) (Same.free (same_upd hq) hr2)) (Same.free (same_of (same_upd hq) (Same.free (same_upd hq) hr2)) hu)
    have sm8 : Same H1 H8 := sm7.trans sm8'
    have hu8 : H8 u = some (.lst nmL) := by rw [eH8]; exact upd_same
    have hk8 := sm8' _ _ hk7
    rw [← eH8]
    refine ⟨.ref p, rfl, .inl ⟨rfl, _, .inl (.inl hk8)⟩, p, kl b0 b1 b2 b3 b4 b5 b6 b7 b8 b9 b10 b11 b12 b13 b14, .bl true, j, .bl true, rfl, rfl, .inl (.inl hk8), rfl, rfl, R.at_, rfl, R.be, u, nmL, (j : Nat), .str nm, rfl, rfl, .inl (.inl hu8), atI_nat R.tag, ?_⟩
    refine ⟨.str nm, rfl, rfl, _, rfl, ?_⟩
    rw [decide_eq_false fun z => R.n1 (V.str.inj z)]
    refine iteF ⟨.str nm, rfl, rfl, _, rfl, ?_⟩
    rw [decide_eq_false fun z => R.n2 (V.str.inj z)]
    exact iteF ⟨.str nm, rfl, (by show 1 ≤ sizeLine; decide), fun t ht => hQ _ t (same_of sm8 (Same.free sm8 ht)) (Same.free sm8 ht) upd_same⟩
  · refine ⟨rfl, LA.fn, LA.code, LA.dfl, _, _, fun cls d H' h => ?_, fun v H' h => ?_, ht⟩
    · obtain ⟨D0, nm, b0, b1, b2, b3, b4, b5, b6, b7, b8, b9, b10, b11, b12, b13, b14, j, rfl, rfl, R, hq⟩ := h
      exact ⟨true, R.ex, fun _ a _ => ⟨⟨_, rfl⟩, D0, nm, b0, b1, b2, b3, b4, b5, b6, b7, b8, b9, b10, b11, b12, b13, b14, j, rfl, rfl, R, hq⟩, fun z => by cases z⟩
    · exact ⟨(by show 1 ≤ sizeLine; decide), fun t ht2 => h _ t (same_upd ht2) ht2 upd_same⟩
end
end Sv

set_option maxHeartbeats 8000000
namespace Sv
open PySem PySem.Spec PyProof.Rows L2
/-! ### the promises, closed: what follows speaks of them by their names -/
@[irreducible] def qCompose (K : PySem.W.Frag) (CE CD : Addr) : Sp := spCompose K CE CD
@[irreducible] def qInvert (K : PySem.W.Frag) (CE : Addr) : Sp := spInvert K CE
@[irreducible] def qRepeat (K : PySem.W.Frag) (CE CC : Addr) : Sp := spRepeat K CE CC
@[irreducible] def qCycles (K : PySem.W.Frag) (CE : Addr) : Sp := spCycles K CE
@[irreducible] def qOrder (K : PySem.W.Frag) (CE : Addr) : Sp := spOrder K CE
@[irreducible] def qAlike (K : PySem.W.Frag) (n : Nat) : Sp := spAlike K n
@[irreducible] def qNext : Sp := spNext
@[irreducible] def qEffect : Sp := spEffect
@[irreducible] def qNe (K : PySem.W.Frag) : R2 := rNeD K
@[irreducible] def qEq (K : PySem.W.Frag) : R2 := rEqD K
theorem op_neQ {X : Cx} (hu : X.A.units + 64 < cLine) : OpR X (compareOp .NotEq) (qNe X.K) := by
  unfold qNe
  exact op_neD hu
theorem op_eqQ {X : Cx} (hu : X.A.units + 64 < cLine) : OpR X (compareOp .Eq) (qEq X.K) := by
  unfold qEq
  exact op_eqD hu
end Sv


set_option maxHeartbeats 8000000
namespace Sv
open PySem PySem.Spec PyProof.Rows L2
/-! ### tuples of numbers as data -/
def dI (l : List Nat) : List PyData := (nInts l).map PyData.int
def dN (l : List Nat) : PyData := .tuple (dI l)
theorem dpAll_ints {K : PySem.W.Frag} {H : Hp} : ∀ l : List Nat, DpAll K H (vN l) (dI l)
  | [] => .nil
  | x :: l => .cons (.int (x : Int)) (dpAll_ints l)
theorem dp_vN {K : PySem.W.Frag} {H : Hp} {a : Addr} {l : List Nat} (h : SqT K H a (vN l)) : Dp K H (.ref a) (dN l) := .tup h (dpAll_ints l)
theorem eqvAll_refl : ∀ l : List Nat, PyData.eqvAll (dI l) (dI l) = true
  | [] => by show PyData.eqvAll [] [] = true; rw [PyData.eqvAll]
  | x :: l => by
    show PyData.eqvAll (.int (x : Int) :: dI l) (.int (x : Int) :: dI l) = true
    rw [PyData.eqvAll, PyData.eqv, eqvAll_refl l]
    simp
theorem eqvAll_eq : ∀ {l m : List Nat}, PyData.eqvAll (dI l) (dI m) = true → l = m
  | [], [], _ => rfl
  | [], y :: m, h => by
    have h : PyData.eqvAll [] (.int (y : Int) :: dI m) = true := h
    rw [PyData.eqvAll] at h
    cases h
  | x :: l, [], h => by
    have h : PyData.eqvAll (.int (x : Int) :: dI l) [] = true := h
    rw [PyData.eqvAll] at h
    cases h
  | x :: l, y :: m, h => by
    have h : PyData.eqvAll (.int (x : Int) :: dI l) (.int (y : Int) :: dI m) = true := h
    rw [PyData.eqvAll, PyData.eqv, Bool.and_eq_true, beq_iff_eq] at h
    rw [eqvAll_eq h.2, show x = y by omega]
theorem eqv_dN (l : List Nat) : PyData.eqv (dN l) (dN l) = true := by
  show PyData.eqv (.tuple (dI l)) (.tuple (dI l)) = true
  rw [PyData.eqv]
  exact eqvAll_refl l
theorem eqv_dN_ne {l m : List Nat} (h : l ≠ m) : PyData.eqv (dN l) (dN m) = false := by
  cases e : PyData.eqv (dN l) (dN m) with
  | false => rfl
  | true =>
    have e : PyData.eqv (.tuple (dI l)) (.tuple (dI m)) = true := e
    rw [PyData.eqv] at e
    exact absurd (eqvAll_eq e) h
theorem canLay_dI : ∀ l : List Nat, PyData.canLayAll0 (dI l) = true
  | [] => by show PyData.canLayAll0 [] = true; rw [PyData.canLayAll0]
  | x :: l => by
    show PyData.canLayAll0 (.int (x : Int) :: dI l) = true
    rw [PyData.canLayAll0, PyData.canLay0, canLay_dI l]
    rfl
theorem depth_dI : ∀ l : List Nat, PyData.depthAll (dI l) ≤ 1
  | [] => by show PyData.depthAll [] ≤ 1; rw [PyData.depthAll]; omega
  | x :: l => by
    show PyData.depthAll (.int (x : Int) :: dI l) ≤ 1
    rw [PyData.depthAll]
    have h1 := depth_dI l
    have h2 : PyData.depth (.int (x : Int)) ≤ 1 := by
      simp only [PyData.depth]
      omega
    omega
theorem shaped_dN (l : List Nat) : SeqAt.shaped (dN l) = true := by
  unfold SeqAt.shaped
  rw [Bool.and_eq_true]
  refine ⟨?_, decide_eq_true ?_⟩
  · show PyData.canLay0 (.tuple (dI l)) = true
    rw [PyData.canLay0]
    exact canLay_dI l
  · show PyData.depth (.tuple (dI l)) ≤ 64
    have h := depth_dI l
    rw [PyData.depth]
    omega
theorem dI_len (l : List Nat) : (dI l).length = l.length := by unfold dI nInts; simp
theorem okDs_dI : ∀ l : List Nat, okDs 0 (dI l) = true
  | [] => by show okDs 0 [] = true; rw [okDs]
  | x :: l => by
    show okDs 0 (.int (x : Int) :: dI l) = true
    rw [okDs, okDs_dI l]
    rfl
theorem okDs_dI1 : ∀ l : List Nat, okDs 1 (dI l) = true
  | [] => by show okDs 1 [] = true; rw [okDs]
  | x :: l => by
    show okDs 1 (.int (x : Int) :: dI l) = true
    rw [okDs, okDs_dI1 l]
    rfl
theorem okD_dN1 {l : List Nat} (h : l.length ≤ 1000) : okD 1 (dN l) = true := by
  show okD (0 + 1) (.tuple (dI l)) = true
  rw [okD, okDs_dI, dI_len, decide_eq_true h]
  rfl
theorem okD_dN2 {l : List Nat} (h : l.length ≤ 1000) : okD 2 (dN l) = true := by
  show okD (1 + 1) (.tuple (dI l)) = true
  rw [okD, okDs_dI1, dI_len, decide_eq_true h]
  rfl
def dL (cs : List (List Nat)) : PyData := .list (cs.map dN)
theorem dpAll_tupL {K : PySem.W.Frag} {H : Hp} : ∀ {ps : List Addr} {cs : List (List Nat)}, TupL H ps cs → DpAll K H (ps.map V.ref) (cs.map dN)
  | _, _, .nil => .nil
  | _, _, .cons r t => .cons (dp_vN (.inl (.inl r))) (dpAll_tupL t)
theorem okD_dL {cs : List (List Nat)} (h : cs.length ≤ 1000) (h2 : ∀ c ∈ cs, c.length ≤ 1000) : okD 2 (dL cs) = true := by
  show okD (1 + 1) (.list (cs.map dN)) = true
  rw [okD, List.length_map, decide_eq_true h, Bool.true_and]
  clear h
  induction cs with
  | nil => show okDs 1 [] = true; rw [okDs]
  | cons c cs ih =>
    show okDs 1 (dN c :: cs.map dN) = true
    rw [okDs, okD_dN1 (h2 c (List.mem_cons_self ..)), ih fun x hx => h2 x (List.mem_cons_of_mem _ hx)]
    rfl
/-! ### calls that succeed -/
section
variable {P : Program} {w : World} {K : PySem.W.Frag} {mg : Str → Option Value} {base : Heap}
variable {CE CC CD a b : Addr} {H : Hp} {Q : VK} {E : XK} {e g : List Nat}
theorem go_compose (hA : SqT K H a (vN e)) (hB : SqT K H b (vN g)) (he : Eff e) (hg : Eff g) (hl : e.length = g.length) (h1 : e.length ≤ 1000) (q : NewT H (comp e g) Q) : qCompose K CE CD [.ref a, .ref b] H Q E := by
  unfold qCompose
  exact ⟨a, b, nInts e, nInts g, rfl, by rw [vN_eq]; exact hA, by rw [vN_eq]; exact hB, by rw [ints_len]; exact h1, by rw [ints_len]; omega, fun n => absurd (effI_ints he) n, fun _ n => absurd (effI_ints hg) n, fun _ _ n => absurd (by rw [ints_len, ints_len]; exact hl) n,
      fun e' g' z1 z2 _ _ _ => by rw [← ints_inj z1, ← ints_inj z2]; exact q⟩
theorem go_invert (hA : SqT K H a (vN e)) (he : Eff e) (h1 : e.length ≤ 1000) (q : NewT H (inv e) Q) : qInvert K CE [.ref a] H Q E := by
  unfold qInvert
  exact ⟨a, nInts e, rfl, by rw [vN_eq]; exact hA, by rw [ints_len]; exact h1, fun n => absurd (effI_ints he) n, fun e' z1 _ => by rw [← ints_inj z1]; exact q⟩
theorem go_repeat {c : Int} (hA : SqT K H a (vN e)) (he : Eff e) (h1 : e.length ≤ 1000) (hc : CtOk c) (q : NewT H (rep e c) Q) : qRepeat K CE CC [.ref a, .int c] H Q E := by
  unfold qRepeat
  exact ⟨a, nInts e, c, rfl, by rw [vN_eq]; exact hA, by rw [ints_len]; exact h1, fun n => absurd (effI_ints he) n, fun _ n => absurd hc n, fun e' z1 _ _ => by rw [← ints_inj z1]; exact q⟩
theorem go_cycles (hA : SqT K H a (vN e)) (he : Eff e) (h1 : e.length ≤ 1000) (q : NewLT H (wheels e) Q) : qCycles K CE [.ref a] H Q E := by
  unfold qCycles
  exact ⟨a, nInts e, rfl, by rw [vN_eq]; exact hA, by rw [ints_len]; exact h1, fun n => absurd (effI_ints he) n, fun e' z1 _ => by rw [← ints_inj z1]; exact q⟩
theorem go_order (hA : SqT K H a (vN e)) (he : Eff e) (h1 : e.length ≤ 63) (q : ∀ H', Same H H' → Q (.int (ord e : Nat)) H') : qOrder K CE [.ref a] H Q E := by
  unfold qOrder
  exact ⟨a, nInts e, rfl, by rw [vN_eq]; exact hA, by rw [ints_len]; exact h1, fun n => absurd (effI_ints he) n, fun e' z1 _ => by rw [← ints_inj z1]; exact q⟩
/-- an effect in its place -/
structure At (K : PySem.W.Frag) (H : Hp) (a : Addr) (e : List Nat) : Prop where
  s : SqT K H a (vN e)
theorem At.same {H H' : Hp} (x : At K H a e) (sm : Same H H') : At K H' a e := ⟨sqT_same sm x.s⟩
theorem At.new {H : Hp} (x : H a = some (.tup (vN e))) : At K H a e := ⟨.inl (.inl x)⟩
theorem At.dp {H : Hp} (x : At K H a e) : Dp K H (.ref a) (dN e) := dp_vN x.s
theorem rg_idn {n : Nat} (h : n ≤ 1000) : RgOk 0 (n : Int) := by
  have h1 : (1000 : Int) < 2 ^ 62 := by decide
  have h2 : (1000 : Nat) < 2 ^ 24 := by decide
  exact ⟨by omega, by omega, by omega, by omega, by omega⟩
theorem eq_go (hA : At K H a e) (hB : At K H b e) (q : Q (.bl true) H) : qEq K (.ref a) (.ref b) H Q := by
  unfold qEq
  exact ⟨dN e, dN e, hA.dp, hB.dp, shaped_dN e, shaped_dN e, by rw [eqv_dN]; exact q⟩
theorem ne_go (hA : At K H a e) (hB : At K H b e) (q : Q (.bl false) H) : qNe K (.ref a) (.ref b) H Q := by
  unfold qNe
  exact ⟨dN e, dN e, hA.dp, hB.dp, shaped_dN e, shaped_dN e, by rw [eqv_dN]; exact q⟩
theorem ne_nil {x y : Addr} (hx : H x = some (.lst [])) (hy : H y = some (.lst [])) (q : Q (.bl false) H) : qNe K (.ref x) (.ref y) H Q := by
  unfold qNe
  exact ⟨.list [], .list [], .lst (.inl (.inl hx)) .nil, .lst (.inl (.inl hy)) .nil, rfl, rfl, q⟩
theorem eq_no (hA : At K H a e) (hB : At K H b g) (h : e ≠ g) (q : Q (.bl false) H) : qEq K (.ref a) (.ref b) H Q := by
  unfold qEq
  exact ⟨dN e, dN g, hA.dp, hB.dp, shaped_dN e, shaped_dN g, by rw [eqv_dN_ne h]; exact q⟩
theorem alike_go {x y : Addr} (hA : At K H x e) (hB : At K H y e) (h1 : e.length ≤ 1000) (q : ∀ H', Same H H' → Q (.bl true) H') : qAlike K 2 [.ref x, .ref y] H Q E := by
  unfold qAlike
  exact ⟨.ref x, .ref y, dN e, rfl, hA.dp, hB.dp, okD_dN2 h1, q⟩
theorem alike_goL {x y : Addr} {ps qs : List Addr} {cs : List (List Nat)} (hx : H x = some (.lst (ps.map V.ref))) (hp : TupL H ps cs) (hy : H y = some (.lst (qs.map V.ref))) (hq : TupL H qs cs) (h1 : cs.length ≤ 1000) (h2 : ∀ c ∈ cs, c.length ≤ 1000) (q : ∀ H', Same H H' → Q (.bl true) H') : qAlike K 2 [.ref x, .ref y] H Q E := by
  unfold qAlike
  exact ⟨.ref x, .ref y, dL cs, rfl, .lst (.inl (.inl hx)) (dpAll_tupL hp), .lst (.inl (.inl hy)) (dpAll_tupL hq), okD_dL h1 h2, q⟩
end
end Sv


set_option maxHeartbeats 8000000
namespace Sv
open PySem PySem.Spec PyProof.Rows L2
section
variable {P : Program} {w : World} {K : PySem.W.Frag} {mg : Str → Option Value} {base : Heap}
variable {fW fC fE fI fH fV fR fY fF CE CC CD : Addr} {dW dC dE dI dH dV dR dY dF : FuncData}
/-! ### _law_is_right -/
theorem scRight : FnScope ["_law_one", "_law_other", "_law_third", "_law_far", "_law_size", "_law_k", "_law_least", "_law_short", "_law_found"] ["_law_one", "_law_other", "_law_third", "_law_far"] (defScope sRight) := ⟨rfl, rfl, rfl, by decide +kernel, rfl, by decide +kernel, by decide +kernel⟩
/-- what the law's file calls -/
structure Lf (K : PySem.W.Frag) (mg : Str → Option Value) (gC gI gR gY gO gA gW gN gE gX gQ gM : Addr) (eC eI eR eY eO eA eW eN eE eX eQ eM : FuncData) : Prop where
  C : Df K mg "compose" sCompose ["one", "other"] gC eC
  I : Df K mg "invert" sInvert ["effect"] gI eI
  R : Df K mg "repeat" sRepeat ["effect", "count"] gR eR
  Y : Df K mg "cycles" sCycles ["effect"] gY eY
  O : Df K mg "order" sOrder ["effect"] gO eO
  A : Df K mg "_law_alike" sAlike ["_law_found", "_law_due"] gA eA
  W : Df K mg "_law_wheels" sWheels ["_law_effect_here"] gW eW
  N : Df K mg "_law_next" sNext ["_law_h", "_law_limit"] gN eN
  E : Df K mg "_law_effect" sEffect ["_law_h", "_law_size"] gE eE
  X : Df K mg "_law_error" sError ["_law_call"] gX eX
  Q : Df K mg "_law_is_right" sRight ["_law_one", "_law_other", "_law_third", "_law_far"] gQ eQ
  M : Df K mg "_law_mix" sMix ["_law_script", "_law_seed"] gM eM
variable {gC gI gR gY gO gA gW gN gE gX gQ gM : Addr} {eC eI eR eY eO eA eW eN eE eX eQ eM : FuncData}
def primes : List Nat := [2, 3, 5, 7, 11, 13, 17, 19, 23, 29, 31, 37]
theorem primes_ok : ∀ k ∈ primes, 2 ≤ k ∧ k ≤ 37 := by decide
theorem ord_le {e : List Nat} (he : Eff e) (hl : e.length ≤ 40) : ord e ≤ 1099511627776 := by
  have h1 : ord e ≤ 2 ^ (wheels e).flatten.length := lcmL_bound _
  have h2 := (wheels_ok he).1.flat_len he
  have h3 : 2 ^ (wheels e).flatten.length ≤ 2 ^ 40 := Nat.pow_le_pow_right (by decide) (by omega)
  have h4 : (2 : Nat) ^ 40 = 1099511627776 := by decide
  omega
def spRight (K : PySem.W.Frag) : Sp := fun vs H Q _ => ∃ (a b c : Addr) (e g t : List Nat) (far : Int), vs = [.ref a, .ref b, .ref c, .int far] ∧ At K H a e ∧ At K H b g ∧ At K H c t ∧ Eff e ∧ Eff g ∧ Eff t ∧ g.length = e.length ∧ t.length = e.length ∧ e.length ≤ 40 ∧ CtOk far ∧ ∀ H', Same H H' → Q (.bl true) H'
theorem ok_right (T : Ef K mg fW fC fE fI fH fV fR fY fF CE CC CD dW dC dE dI dH dV dR dY dF) (L : Lf K mg gC gI gR gY gO gA gW gN gE gX gQ gM eC eI eR eY eO eA eW eN eE eX eQ eM) : FnOk P w K mg base CX0 5 gQ eQ ["_law_one", "_law_other", "_law_third", "_law_far"] (spRight K) := by
  have GC : FnOk P w K mg base (L2.CX P w) 4 gC eC ["one", "other"] (qCompose K CE CD) := by unfold qCompose; exact ok_compose T L.C
  have GI : FnOk P w K mg base (L2.CX P w) 4 gI eI ["effect"] (qInvert K CE) := by unfold qInvert; exact ok_invert T L.I
  have GR : FnOk P w K mg base (L2.CX P w) 4 gR eR ["effect", "count"] (qRepeat K CE CC) := by unfold qRepeat; exact ok_repeat T L.R
  have GY : FnOk P w K mg base (L2.CX P w) 4 gY eY ["effect"] (qCycles K CE) := by unfold qCycles; exact ok_cycles T L.Y
  have GO : FnOk P w K mg base (L2.CX P w) 4 gO eO ["effect"] (qOrder K CE) := by unfold qOrder; exact ok_order T L.O
  have GA : FnOk P w K mg base CX0 3 gA eA ["_law_found", "_law_due"] (qAlike K 2) := by unfold qAlike; exact ok_alike L.A T.bt 2
  have GW : FnOk P w K mg base CX0 1 gW eW ["_law_effect_here"] (spWheels K) := ok_wheels L.W.F T.bt
  refine L.Q.F.ok scRight (fun vs H Q E h => ?_) (fun cdv A outer s H vs Q E hr h => ?_)
  · obtain ⟨a, b, c, e, g, t, far, rfl, _⟩ := h
    rfl
  · obtain ⟨a, b, c, e, g, t, far, rfl, hA, hB, hC, he, hg, ht, hlg, hlt, hl, hfar, q⟩ := h
    refine ⟨_, pss_cons (ps_set (i := 4) scRight.nd rfl (Or.inr rfl) (pe_callB call_len_seq (by rfl) T.bt.len b_len (pa_cons (pv 0) pa_nil)))
      (pss_cons (ps_if (pt_not (pt_val (pe_call (E := E0) GA (hr.mono (by decide)) (by rfl) L.A.g L.A.F.kp L.A.b .nil pass0 (pa_cons
          (pe_call (E := E0) GC hr (by rfl) L.C.g L.C.F.kp L.C.b .nil passL (pa_cons (pv 0) (pa_cons (pv 1) pa_nil)))
          (pa_cons (pe_callTy call_tuple_of (by rfl) T.bt.tuple b_tuple (pa_cons
            (pe_lc (own := [("_law_k", 5)]) (g := gName 5) (tt := tYes) (te := tOp (rIxT K) (tVar 1) (tOp (rIxT K) (tVar 0) (tVar 5))) rfl scRight.nd (pi_range1 (by rfl) T.bt.range (pa_cons (pv 4) pa_nil)) (blkOk_by (N := ["_law_one", "_law_other", "_law_third", "_law_far", "_law_size", "_law_k", "_law_least", "_law_short", "_law_found"]) (sc := defScope sRight) (by decide +kernel))
              (fun _ _ _ _ _ => pg_name (i := 5) scRight.nd rfl (Or.inl rfl)) (fun _ _ _ _ _ => pts_nil) (fun _ _ _ _ _ => pe_ix ix_tup (pv 1) (pe_ix ix_tup (pv 0) (pv 5) (fun _ _ => rfl)) (fun _ _ => rfl))) pa_nil)) pa_nil))))) pss_never pss_nil)
      (pss_cons (ps_if (pt_cmpR (op_neQ hr.units) (pe_call (E := E0) GC hr (by rfl) L.C.g L.C.F.kp L.C.b .nil passL (pa_cons (pe_call (E := E0) GC hr (by rfl) L.C.g L.C.F.kp L.C.b .nil passL (pa_cons (pv 0) (pa_cons (pv 1) pa_nil))) (pa_cons (pv 2) pa_nil)))
          (pe_call (E := E0) GC hr (by rfl) L.C.g L.C.F.kp L.C.b .nil passL (pa_cons (pv 0) (pa_cons (pe_call (E := E0) GC hr (by rfl) L.C.g L.C.F.kp L.C.b .nil passL (pa_cons (pv 1) (pa_cons (pv 2) pa_nil))) pa_nil))) (nomark _)) pss_never pss_nil)
      (pss_cons (ps_if (pw_or (pt_cmpR (op_neQ hr.units) (pe_call (E := E0) GC hr (by rfl) L.C.g L.C.F.kp L.C.b .nil passL (pa_cons (pv 0) (pa_cons (pe_call (E := E0) GI hr (by rfl) L.I.g L.I.F.kp L.I.b .nil passL (pa_cons (pv 0) pa_nil)) pa_nil))) (pe_tupRg rfl (by rfl) T.bt.tuple (prg_1 (by rfl) T.bt.range (pv 4))) (nomark _))
          (pw_or1 (pt_cmpR (op_neQ hr.units) (pe_call (E := E0) GI hr (by rfl) L.I.g L.I.F.kp L.I.b .nil passL (pa_cons (pe_call (E := E0) GI hr (by rfl) L.I.g L.I.F.kp L.I.b .nil passL (pa_cons (pv 0) pa_nil)) pa_nil)) (pv 0) (nomark _)))).pt pss_never pss_nil)
      (pss_cons (ps_if (pt_not (pt_val (pe_call (E := E0) GA (hr.mono (by decide)) (by rfl) L.A.g L.A.F.kp L.A.b .nil pass0 (pa_cons
          (pe_call (E := E0) GY hr (by rfl) L.Y.g L.Y.F.kp L.Y.b .nil passL (pa_cons (pv 0) pa_nil))
          (pa_cons (pe_call (E := E0) GW (hr.mono (by decide)) (by rfl) L.W.g L.W.F.kp L.W.b .nil pass0 (pa_cons (pv 0) pa_nil)) pa_nil))))) pss_never pss_nil)
      (pss_cons (ps_set (i := 6) scRight.nd rfl (Or.inr rfl) (pe_call (E := E0) GO hr (by rfl) L.O.g L.O.F.kp L.O.b .nil passL (pa_cons (pv 0) pa_nil)))
      (pss_cons (ps_if (pw_or (pt_cmpR (op_neQ hr.units) (pe_call (E := E0) GR hr (by rfl) L.R.g L.R.F.kp L.R.b .nil passL (pa_cons (pv 0) (pa_cons (pv 6) pa_nil))) (pe_tupRg rfl (by rfl) T.bt.tuple (prg_1 (by rfl) T.bt.range (pv 4))) (nomark _))
          (pw_or1 (pt_not (pt_val (pe_call (E := E0) GA (hr.mono (by decide)) (by rfl) L.A.g L.A.F.kp L.A.b .nil pass0 (pa_cons
            (pe_call (E := E0) GR hr (by rfl) L.R.g L.R.F.kp L.R.b .nil passL (pa_cons (pv 0) (pa_cons (pv 3) pa_nil)))
            (pa_cons (pe_call (E := E0) GR hr (by rfl) L.R.g L.R.F.kp L.R.b .nil passL (pa_cons (pv 0) (pa_cons (pe_op op_mod (pe_callTy call_int1 (by rfl) T.bt.int b_int (pa_cons (pv 3) pa_nil)) (pv 6)) pa_nil))) pa_nil))))))).pt pss_never pss_nil)
      (pss_cons (ps_setLc (i := 7) (own := [("_law_k", 5)]) (g := gName 5) rfl scRight.nd rfl rfl (sw_true rfl rfl rfl (by decide +kernel)) (pi_tup (pe_tup (pa_cons pe_int (pa_cons pe_int (pa_cons pe_int (pa_cons pe_int (pa_cons pe_int (pa_cons pe_int (pa_cons pe_int (pa_cons pe_int (pa_cons pe_int (pa_cons pe_int (pa_cons pe_int (pa_cons pe_int pa_nil))))))))))))))
          (blkOk_by (N := ["_law_one", "_law_other", "_law_third", "_law_far", "_law_size", "_law_k", "_law_least", "_law_short", "_law_found"]) (sc := defScope sRight) (by decide +kernel))
          (fun _ _ _ _ _ => pg_name (i := 5) scRight.nd rfl (Or.inl rfl)) (fun _ _ _ _ _ => pts_one (pt_cmpR op_eq (pe_op op_mod (pe_callTy call_int1 (by rfl) T.bt.int b_int (pa_cons (pv 6) pa_nil)) (pv 5)) pe_int (nomark _))) (fun _ _ _ _ _ => pv 5))
      (pss_cons (ps_if (pt_cmpR (op_neQ hr.units)
          (pe_lc (own := [("_law_k", 5)]) (g := gName 5) (tt := tTest (tOp (qEq K) (tCall (qRepeat K CE CC) [] E0 (tCons (tVar 0) (tCons (tOp (rI CDiv fun i j => .int (i / j)) (tVar 6) (tVar 5)) tNil))) (tTupRg (tRg1 (tVar 4))))) (te := tVar 5) rfl scRight.nd (pi_list (pv 7)) (blkOk_by (N := ["_law_one", "_law_other", "_law_third", "_law_far", "_law_size", "_law_k", "_law_least", "_law_short", "_law_found"]) (sc := defScope sRight) (by decide +kernel))
              (fun _ _ _ _ _ => pg_name (i := 5) scRight.nd rfl (Or.inl rfl))
              (fun _ _ _ _ _ => pts_one (pt_cmpR (op_eqQ hr.units) (pe_call (E := E0) GR hr (by rfl) L.R.g L.R.F.kp L.R.b .nil passL (pa_cons (pv 0) (pa_cons (pe_op op_fdiv (pv 6) (pv 5)) pa_nil))) (pe_tupRg rfl (by rfl) T.bt.tuple (prg_1 (by rfl) T.bt.range (pv 4))) (nomark _)))
              (fun _ _ _ _ _ => pv 5)) (pe_lst pa_nil) (nomark _)) pss_never pss_nil)
      (pss_cons (ps_set (i := 8) scRight.nd rfl (Or.inl rfl) (pe_tupRg rfl (by rfl) T.bt.tuple (prg_1 (by rfl) T.bt.range (pv 4))))
      (pss_cons (ps_for PassesOwn.never rfl (pi_range1 (by rfl) T.bt.range (pa_cons pe_int pa_nil)) (pg_name (i := 5) scRight.nd rfl (Or.inl rfl))
        (pss_cons (ps_if (pw_or (pt_cmpR (op_neQ hr.units) (pe_call (E := E0) GR hr (by rfl) L.R.g L.R.F.kp L.R.b .nil passL (pa_cons (pv 0) (pa_cons (pv 5) pa_nil))) (pv 8) (nomark _))
            (pw_or1 (pt_cmpR (op_neQ hr.units) (pe_call (E := E0) GR hr (by rfl) L.R.g L.R.F.kp L.R.b .nil passL (pa_cons (pv 0) (pa_cons (pe_op op_sub pe_int (pv 5)) pa_nil))) (pe_call (E := E0) GI hr (by rfl) L.I.g L.I.F.kp L.I.b .nil passL (pa_cons (pv 8) pa_nil)) (nomark _)))).pt pss_never pss_nil)
        (pss_one (ps_set (i := 8) scRight.nd rfl (Or.inl rfl) (pe_call (E := E0) GC hr (by rfl) L.C.g L.C.F.kp L.C.b .nil passL (pa_cons (pv 8) (pa_cons (pv 0) pa_nil)))))))
      (pss_one (ps_ret (pe_cmpR (op_eqQ hr.units) (pe_call (E := E0) GC hr (by rfl) L.C.g L.C.F.kp L.C.b .nil passL (pa_cons
          (pe_call (E := E0) GR hr (by rfl) L.R.g L.R.F.kp L.R.b .nil passL (pa_cons (pv 0) (pa_cons (pe_op op_fdiv (pv 3) pe_int) pa_nil)))
          (pa_cons (pe_call (E := E0) GR hr (by rfl) L.R.g L.R.F.kp L.R.b .nil passL (pa_cons (pv 0) (pa_cons (pe_op op_sub (pv 3) (pe_op op_fdiv (pv 3) pe_int)) pa_nil))) pa_nil)))
        (pe_call (E := E0) GR hr (by rfl) L.R.g L.R.F.kp L.R.b .nil passL (pa_cons (pv 0) (pa_cons (pv 3) pa_nil))) (nomark _)))))))))))))), ?_⟩
    have hl1 : e.length ≤ 1000 := by omega
    have b62 : (1000 : Int) < 2 ^ 62 := by decide
    -- the size
    refine ⟨.ref a, rfl, a, vN e, rfl, .inr hA.s, ?_⟩
    rw [vN_len]
    -- compose
    refine ⟨.ref a, rfl, .ref b, rfl, go_compose hA.s hB.s he hg hlg.symm hl1 fun H1 p s1 n1 hp => ?_⟩
    refine ⟨.int (e.length : Nat), rfl, (e.length : Nat), rfl, by omega, by omega, fun D hD => ?_⟩
    have cl : (comp e g).length = e.length := comp_len e g
    refine lc_range (lo := 0) (n := (e.length : Int).toNat) (fun i H' => Same H1 H' ∧ H' D = some (.lst (vN ((comp e g).take i)))) ⟨same_upd hD, upd_same⟩ (fun i H' hi ⟨sm, hd⟩ => ?_) (fun H' ⟨sm, hd⟩ => ?_)
    · have hi2 : i < e.length := by
        rw [Int.toNat_natCast] at hi
        exact hi
      have ei : (0 : Int) + (i : Nat) = (i : Nat) := by omega
      rw [ei]
      have hiv : ap e i < g.length := by rw [hlg]; exact ap_lt he hi2
      refine ⟨rfl, yes_go ⟨.ref b, rfl, .ref a, rfl, .int (i : Nat), rfl, a, vN e, _, _, rfl, rfl, sqT_same sm (sqT_same s1 hA.s), atI_nat (vN_get hi2), b, vN g, _, _, rfl, rfl, sqT_same sm (sqT_same s1 hB.s), atI_nat (vN_get hiv), _, hd, ?_, same_of sm hD, ?_⟩⟩
      · rw [vN_len, List.length_take]
        exact Nat.lt_of_le_of_lt (Nat.min_le_left _ _) (small1000 (by omega))
      · rw [upd_same, vN_snoc (by rw [cl]; exact hi2), comp_ap hi2]
    rw [Int.toNat_natCast, ← cl, List.take_length] at hd
    refine ⟨D, _, rfl, .inl ⟨.inl (.inl hd), fun l1 nl1 => ?_⟩⟩
    have s1' : Same H1 (upd H' l1 (.tup (vN (comp e g)))) := same_of sm (Same.free sm nl1)
    show qAlike K 2 _ _ _ _
    refine alike_go (At.new (s1' _ _ hp)) (At.new upd_same) (by rw [cl]; exact hl1) fun H2 s2 => ⟨true, rfl, iteF ?_⟩
    have S2 : Same H H2 := (s1.trans s1').trans s2
    clear s1' hd sm hD hp n1 s1 s2
    -- three
    have ecg := comp_eff he hg hlg.symm
    have egt := comp_eff hg ht (hlg.trans hlt.symm)
    refine ⟨.ref a, rfl, .ref b, rfl, go_compose (hA.same S2).s (hB.same S2).s he hg hlg.symm hl1 fun H3 p3 s3 n3 hp3 => ?_⟩
    refine ⟨.ref c, rfl, go_compose (At.new hp3).s (hC.same (S2.trans s3)).s ecg ht (by rw [cl]; exact hlt.symm) (by rw [cl]; exact hl1) fun H4 p4 s4 n4 hp4 => ?_⟩
    have S4 := (S2.trans s3).trans s4
    refine ⟨.ref a, rfl, .ref b, rfl, .ref c, rfl, go_compose (hB.same S4).s (hC.same S4).s hg ht (hlg.trans hlt.symm) (by omega) fun H5 p5 s5 n5 hp5 => ?_⟩
    show qCompose K CE CD _ _ _ _
    refine go_compose (hA.same (S4.trans s5)).s (At.new hp5).s he egt (by rw [comp_len]; exact hlg.symm) hl1 fun H6 p6 s6 n6 hp6 => ?_
    show qNe K _ _ _ _
    refine ne_go (e := comp e (comp g t)) ?_ (At.new hp6) ⟨false, rfl, iteF ?_⟩
    · rw [← comp_assoc he hlg.symm]
      exact (At.new hp4).same (s5.trans s6)
    have S6 := (S4.trans s5).trans s6
    clear S4 hp6 hp5 hp4 hp3 n3 n4 n5 n6 s3 s4 s5 s6 S2
    -- the inverse
    have il : (inv e).length = e.length := inv_len e
    refine ⟨.ref a, rfl, .ref a, rfl, go_invert (hA.same S6).s he hl1 fun H7 p7 s7 n7 hp7 => ?_⟩
    show qCompose K CE CD _ _ _ _
    refine go_compose (hA.same (S6.trans s7)).s (At.new hp7).s he (inv_eff he) il.symm hl1 fun H8 p8 s8 n8 hp8 => ?_
    refine ⟨.int (e.length : Nat), rfl, (e.length : Nat), rfl, rg_idn hl1, fun q9 hq9 => ?_⟩
    rw [rgV_range]
    show qNe K _ _ _ _
    refine ne_go (e := List.range e.length) ?_ (At.new upd_same) ⟨false, rfl, iteF ?_⟩
    · rw [← comp_inv he]
      exact (At.new hp8).same (same_upd hq9)
    have S9 := ((S6.trans s7).trans s8).trans (same_upd (o := .tup (vN (List.range e.length))) hq9)
    generalize upd H8 q9 (.tup (vN (List.range e.length))) = H9 at S9
    clear S6 hp7 hp8 n7 n8 s7 s8
    refine ⟨.ref a, rfl, go_invert (hA.same S9).s he hl1 fun H10 p10 s10 n10 hp10 => ?_⟩
    show qInvert K CE _ _ _ _
    refine go_invert (At.new hp10).s (inv_eff he) (by rw [il]; exact hl1) fun H11 p11 s11 n11 hp11 => ⟨.ref a, rfl, ?_⟩
    rw [inv_inv he] at hp11
    show qNe K _ _ _ _
    refine ne_go (At.new hp11) (hA.same ((S9.trans s10).trans s11)) ⟨false, rfl, iteF ?_⟩
    have S11 := (S9.trans s10).trans s11
    clear S9 hp10 hp11 n10 n11 s10 s11
    -- the cycles
    have W := (wheels_ok he).1
    have wl : (wheels e).length ≤ 1000 := by
      have := W.len he
      omega
    have wc : ∀ x ∈ wheels e, x.length ≤ 1000 := fun x hx => by
      obtain ⟨s0, hs0, ec⟩ := W.cy x hx
      rw [ec, cyc_len]
      have := (per_spec he hs0).2.2.2
      omega
    refine ⟨.ref a, rfl, go_cycles (hA.same S11).s he hl1 fun H12 f12 ps12 s12 n12 hf12 ht12 => ?_⟩
    refine ⟨.ref a, rfl, a, e, rfl, (hA.same (S11.trans s12)).s, he, hl1, fun H13 f13 ps13 s13 n13 hf13 ht13 => ?_⟩
    show qAlike K 2 _ _ _ _
    refine alike_goL (s13 _ _ hf12) (tupL_same s13 ht12) hf13 ht13 wl wc fun H14 s14 => ⟨true, rfl, iteF ?_⟩
    have S14 := ((S11.trans s12).trans s13).trans s14
    clear S11 s12 s13 s14 n12 n13 hf12 hf13 ht12 ht13
    -- the order
    refine ⟨.ref a, rfl, go_order (hA.same S14).s he (by omega) fun H15 s15 => ?_⟩
    have S15 := S14.trans s15
    clear S14 s15
    have op := ord_pos he
    have ol := ord_le he hl
    have oz : (0 : Int) < (ord e : Nat) := by omega
    have oct : CtOk (ord e : Nat) := ⟨by omega, by omega⟩
    refine ⟨.ref a, rfl, .int (ord e : Nat), rfl, go_repeat (hA.same S15).s he hl1 oct fun H16 p16 s16 n16 hp16 => ?_⟩
    rw [rep_ord he] at hp16
    refine ⟨.int (e.length : Nat), rfl, (e.length : Nat), rfl, rg_idn hl1, fun q17 hq17 => ?_⟩
    rw [rgV_range]
    show qNe K _ _ _ _
    refine ne_go ((At.new hp16).same (same_upd hq17)) (At.new upd_same) ⟨false, rfl, iteF ?_⟩
    have S17 := (S15.trans s16).trans (same_upd (o := .tup (vN (List.range e.length))) hq17)
    generalize upd H16 q17 (.tup (vN (List.range e.length))) = H17 at S17
    clear S15 s16 n16 hp16
    have m0 := Int.emod_nonneg far (Int.ne_of_gt oz)
    have m1 := Int.emod_lt_of_pos far oz
    refine ⟨.ref a, rfl, .int far, rfl, go_repeat (hA.same S17).s he hl1 hfar fun H18 p18 s18 n18 hp18 => ?_⟩
    refine ⟨.ref a, rfl, .int far, rfl, .inl ⟨far, rfl, .int (ord e : Nat), rfl, far, (ord e : Nat), rfl, rfl, oz, ?_⟩⟩
    show qRepeat K CE CC _ _ _ _
    refine go_repeat (hA.same (S17.trans s18)).s he hl1 ⟨by omega, by omega⟩ fun H19 p19 s19 n19 hp19 => ?_
    rw [rep_mod he (Int.emod_emod_of_dvd far (Int.dvd_refl _))] at hp19
    show qAlike K 2 _ _ _ _
    refine alike_go ((At.new hp18).same s19) (At.new hp19) (by rw [rep_len]; exact hl1) fun H20 s20 => ⟨true, rfl, iteF ?_⟩
    have S20 := ((S17.trans s18).trans s19).trans s20
    clear S17 s18 s19 s20 n18 n19 hp18 hp19
    -- the primes
    refine ⟨(by show 12 ≤ sizeLine; decide), fun tp htp => ?_⟩
    have S21 := S20.trans (same_upd (o := .tup [V.int 2, V.int 3, V.int 5, V.int 7, V.int 11, V.int 13, V.int 17, V.int 19, V.int 23, V.int 29, V.int 31, V.int 37]) htp)
    have hP : (upd H20 tp (.tup [V.int 2, V.int 3, V.int 5, V.int 7, V.int 11, V.int 13, V.int 17, V.int 19, V.int 23, V.int 29, V.int 31, V.int 37])) tp = some (.tup (vN primes)) := by rw [upd_same]; rfl
    generalize upd H20 tp (.tup [V.int 2, V.int 3, V.int 5, V.int 7, V.int 11, V.int 13, V.int 17, V.int 19, V.int 23, V.int 29, V.int 31, V.int 37]) = H21 at S21 hP
    clear S20
    refine ⟨tp, rfl, ⟨_, .inl (.inl hP)⟩, fun D2 hD2 => ?_⟩
    refine lc_tup (xs := vN primes) (fun i H' => Same H21 H' ∧ ∃ ks : List Nat, H' D2 = some (.lst (vN ks)) ∧ (∀ k ∈ ks, 2 ≤ k ∧ k ≤ 37 ∧ ord e % k = 0) ∧ ks.length ≤ i) ⟨same_upd hD2, [], upd_same, fun k hk => (List.not_mem_nil hk).elim, Nat.le_refl _⟩
      (fun i H' _ h => .inl (.inl (h.1 _ _ hP))) (fun i x H' hx ⟨sm, ks, hd, hks, hkl⟩ => ?_) (fun H' ⟨sm, ks, hd, hks, hkl⟩ => ?_)
    · obtain ⟨hi, rfl⟩ := vN_lt hx
      have hm : ap primes i ∈ primes := List.mem_of_getElem? (ap_at hi)
      have hk := primes_ok _ hm
      generalize ap primes i = k at hk
      have hi12 : i < 12 := hi
      refine ⟨rfl, .int (ord e : Nat), rfl, .inl ⟨(ord e : Nat), rfl, .int (k : Nat), rfl, (ord e : Nat), (k : Nat), rfl, rfl, (by omega : (0 : Int) < (k : Nat)), ?_⟩⟩
      refine ⟨rfl, _, rfl, ?_⟩
      show if decide (V.int ((ord e : Nat) % (k : Nat)) = V.int 0) = true then _ else _
      by_cases hd0 : ord e % k = 0
      · have hz : ((ord e : Nat) : Int) % (k : Nat) = 0 := by omega
        rw [hz, decide_eq_true rfl]
        refine iteT ⟨.int (k : Nat), rfl, vN ks, hd, ?_, same_of sm hD2, ks ++ [k], ?_, ?_, ?_⟩
        · rw [vN_len]
          exact small1000 (by omega)
        · rw [upd_same, vN_app]
          rfl
        · intro z hz
          rcases List.mem_append.mp hz with q | q
          · exact hks z q
          · obtain rfl := List.mem_singleton.mp q
            exact ⟨hk.1, hk.2, hd0⟩
        · rw [List.length_append]
          exact Nat.succ_le_succ hkl
      · have hz : ¬ ((ord e : Nat) : Int) % (k : Nat) = 0 := by omega
        rw [decide_eq_false fun z => hz (V.int.inj z)]
        exact iteF ⟨sm, ks, hd, hks, by omega⟩
    have S22 := S21.trans sm
    clear S21 hP hD2 sm
    rw [vN_len] at hkl
    have hkl : ks.length ≤ 12 := hkl
    -- none of them
    refine ⟨.ref D2, rfl, D2, rfl, ⟨_, .inl (.inl hd)⟩, fun D3 hD3 => ?_⟩
    refine lc_list (xs := vN ks) (fun i H'' => Same H' H'' ∧ H'' D3 = some (.lst [])) ⟨same_upd hD3, upd_same⟩ (fun i H'' _ h => .inl (.inl (h.1 _ _ hd))) (fun i x H'' hx ⟨sm, hd3⟩ => ?_) (fun H'' ⟨sm, hd3⟩ => ?_)
    · obtain ⟨hi, rfl⟩ := vN_lt hx
      have hk := hks _ (List.mem_of_getElem? (ap_at hi))
      generalize ap ks i = k at hk
      refine ⟨rfl, .ref a, rfl, .int (ord e : Nat), rfl, .int (k : Nat), rfl, (ord e : Nat), (k : Nat), rfl, rfl, ⟨by omega, by omega⟩, ?_⟩
      have ez : ((ord e : Nat) : Int) / (k : Nat) = ((ord e / k : Nat) : Int) := by omega
      show qRepeat K CE CC [.ref a, .int (((ord e : Nat) : Int) / (k : Nat))] _ _ _
      rw [ez]
      have hdl : ord e / k ≤ ord e := Nat.div_le_self _ _
      have hct : CtOk ((ord e / k : Nat) : Int) := by
        generalize ord e / k = dd at hdl
        exact ⟨by omega, by omega⟩
      refine go_repeat (hA.same (S22.trans sm)).s he hl1 hct fun H23 p23 s23 n23 hp23 => ?_
      refine ⟨.int (e.length : Nat), rfl, (e.length : Nat), rfl, rg_idn hl1, fun q24 hq24 => ?_⟩
      rw [rgV_range]
      show qEq K _ _ _ _
      refine eq_no ((At.new hp23).same (same_upd hq24)) (At.new upd_same) (ord_least he hk.1 hk.2.2) ⟨false, rfl, iteF ?_⟩
      have s24 : Same H'' (upd H23 q24 (.tup (vN (List.range e.length)))) := s23.trans (same_upd hq24)
      exact ⟨sm.trans s24, s24 _ _ hd3⟩
    refine ⟨Nat.zero_le _, fun z hz => ?_⟩
    show qNe K _ _ _ _
    refine ne_nil (by rw [upd_ne (ne_of_none hd3 hz)]; exact hd3) upd_same ⟨false, rfl, iteF ?_⟩
    have S25 := (S22.trans sm).trans (same_upd (o := .lst []) hz)
    generalize upd H'' z (.lst []) = H25 at S25
    clear S22 hd sm hd3
    -- small repetitions
    refine ⟨.int (e.length : Nat), rfl, (e.length : Nat), rfl, rg_idn hl1, fun q26 hq26 => ?_⟩
    rw [rgV_range, ← rep_zero]
    have S26 := S25.trans (same_upd (o := .tup (vN (rep e 0))) hq26)
    have h26 : (upd H25 q26 (.tup (vN (rep e 0)))) q26 = some (.tup (vN (rep e 0))) := upd_same
    generalize upd H25 q26 (.tup (vN (rep e 0))) = H26 at S26 h26
    clear S25
    refine ⟨7, rfl, by omega, by omega, ?_⟩
    refine for_range (lo := 0) (n := (7 : Int).toNat) (fun i σ H' => Same H H' ∧ ∃ y5 f, σ = [some (.ref a), some (.ref b), some (.ref c), some (.int far), some (.int (e.length : Nat)), y5, some (.int (ord e : Nat)), some (.ref D2), some (.ref f)] ∧ At K H' f (rep e (i : Nat)))
      ⟨S26, _, _, rfl, At.new h26⟩ (fun i σ H' hi ⟨S, y5, f, es, hf⟩ => ?_) (fun σ H' ⟨S, y5, f, es, hf⟩ => ?_)
    · subst es
      have hi7 : i < 7 := hi
      have ei : (0 : Int) + (i : Nat) = (i : Nat) := by omega
      rw [ei]
      have rl : (rep e (i : Nat)).length = e.length := rep_len e _
      refine ⟨.ref a, rfl, .int (i : Nat), rfl, go_repeat (hA.same S).s he hl1 ⟨by omega, by omega⟩ fun H27 p27 s27 n27 hp27 => ⟨.ref f, rfl, ?_⟩⟩
      show qNe K _ _ _ _
      refine ne_go (At.new hp27) (hf.same s27) ⟨false, rfl, iteF ?_⟩
      refine ⟨.ref a, rfl, .int (i : Nat), rfl, 0, (i : Nat), rfl, rfl, ?_⟩
      show qRepeat K CE CC [.ref a, .int (0 - (i : Nat))] _ _ _
      rw [Int.zero_sub]
      refine go_repeat (hA.same (S.trans s27)).s he hl1 ⟨by omega, by omega⟩ fun H28 p28 s28 n28 hp28 => ⟨.ref f, rfl, ?_⟩
      show qInvert K CE _ _ _ _
      refine go_invert (hf.same (s27.trans s28)).s (rep_eff he _) (by rw [rl]; exact hl1) fun H29 p29 s29 n29 hp29 => ?_
      rw [inv_rep he] at hp29
      show qNe K _ _ _ _
      refine ne_go ((At.new hp28).same s29) (At.new hp29) ⟨false, rfl, iteF ?_⟩
      have S29 := ((S.trans s27).trans s28).trans s29
      refine ⟨.ref f, rfl, .ref a, rfl, go_compose (hf.same ((s27.trans s28).trans s29)).s (hA.same S29).s (rep_eff he _) he rl (by rw [rl]; exact hl1) fun H30 p30 s30 n30 hp30 => ?_⟩
      rw [rep_succ he] at hp30
      exact ⟨S29.trans s30, _, _, rfl, At.new hp30⟩
    · subst es
      -- two parts
      have c1 : CtOk (far / 2) := ⟨by have := hfar.1; omega, by have := hfar.2; omega⟩
      have c2 : CtOk (far - far / 2) := ⟨by have := hfar.1; have := hfar.2; omega, by have := hfar.1; have := hfar.2; omega⟩
      refine ⟨.ref a, rfl, .int far, rfl, far, 2, rfl, rfl, ⟨by decide, by decide⟩, go_repeat (hA.same S).s he hl1 c1 fun H31 p31 s31 n31 hp31 => ?_⟩
      refine ⟨.ref a, rfl, .int far, rfl, .int far, rfl, far, 2, rfl, rfl, ⟨by decide, by decide⟩, far, far / 2, rfl, rfl, go_repeat (hA.same (S.trans s31)).s he hl1 c2 fun H32 p32 s32 n32 hp32 => ?_⟩
      show qCompose K CE CD _ _ _ _
      refine go_compose ((At.new hp31).same s32).s (At.new hp32).s (rep_eff he _) (rep_eff he _) (by rw [rep_len, rep_len]) (by rw [rep_len]; exact hl1) fun H33 p33 s33 n33 hp33 => ?_
      rw [rep_comp he, show far / 2 + (far - far / 2) = far by omega] at hp33
      have S33 := ((S.trans s31).trans s32).trans s33
      refine ⟨.ref a, rfl, .int far, rfl, go_repeat (hA.same S33).s he hl1 hfar fun H34 p34 s34 n34 hp34 => ?_⟩
      show qEq K _ _ _ _
      exact eq_go ((At.new hp33).same s34) (At.new hp34) (q _ (S33.trans s34))
@[irreducible] def qRight (K : PySem.W.Frag) : Sp := spRight K
end
end Sv


set_option maxHeartbeats 8000000
namespace Sv
open PySem PySem.Spec PyProof.Rows L2 LamX NdefX
/-! ### a function that makes lambdas and hands them to _law_error -/
section
variable {P : Program} {w : World} {K : PySem.W.Frag} {mg : Str → Option Value} {base : Heap}
/-- THE RULE for a def whose code object is known -/
theorem fun_okC {x qual : Str} {st : Stmt} {f c : Addr} {fd : FuncData} {N ps : List Str} {k : Nat} {sp : Sp} (F : Fun K x qual st f fd) (hc : fd.code = .ref c) (S : FnScope N ps (defScope st)) (len : ∀ vs H Q E, sp vs H Q E → vs.length = ps.length)
    (hbody : ∀ (A : Around) (outer : List Env) (s : Shared) (H : Hp) (vs : List V) (Q : VK) (E : XK), Room k (A.deeper (envOfC qual (defScope st) s.heap.objs.size f (.ref c))) → sp vs H Q E →
      ∃ t, PSs (cxOf CX0 P w K mg base N qual (defScope st) f (.ref c) A outer s H E).nox (defBody st) t ∧ t { nx := fun _ H' => Q .non H', rt := Q } (start N vs) H) : FnOk P w K mg base CX0 (k + 1) f fd ps sp := by
  obtain ⟨oc, od, kV, doc, pm, an, cdv, ct, osl, rfl, lk, hcd⟩ := F.ex
  obtain rfl : cdv = .ref c := hc
  refine fn_of lk hcd S len fun A outer s H vs Q E hr hsp => ?_
  obtain ⟨t, h, q⟩ := hbody A outer s H vs Q E hr hsp
  exact ⟨t, h.nox, q⟩
end
/-- the lambda at f, told by the maker's names js -/
def LamIs (X : Cx) (k : Nat) (H : Hp) (f : Addr) (js : List Nat) (tl : List (Option V) → XK → Hp → VK → Prop) : Prop :=
  ∃ (L : LF) (fr : List Str) (dvs : List V), H f = some (LamO f L) ∧ H L.c = some (CodeO L.c L.qual) ∧ DflAt H L.dV dvs ∧ LOk X.prog X.w X.K X.mg X.base k f L fr dvs tl ∧ (X.Ok → Caps X L.cl fr js)
theorem DflAt.ext {H H1 : Hp} {dV : Value} {dvs : List V} (d : DflAt H dV dvs) (e : ExtN H H1) : DflAt H1 dV dvs := by
  rcases d with ⟨a, b⟩ | ⟨a, T, b, c⟩
  · exact .inl ⟨a, b⟩
  · exact .inr ⟨a, T, b, e _ _ c (fun ps z => nomatch z)⟩
theorem LamIs.ext {X : Cx} {k : Nat} {H H1 : Hp} {f : Addr} {js : List Nat} {tl : List (Option V) → XK → Hp → VK → Prop} (h : LamIs X k H f js tl) (e : ExtN H H1) : LamIs X k H1 f js tl := by
  obtain ⟨L, fr, dvs, h1, h2, h3, h4, h5⟩ := h
  exact ⟨L, fr, dvs, e _ _ h1 (fun ps => lamO_tbl ps), e _ _ h2 codeO_ne, h3.ext e, h4, h5⟩
theorem extN_same {H H1 : Hp} (s : Same H H1) : ExtN H H1 := ExtN.of s
def freeB (sc scope : Scope) : Bool := scope.names.all fun y => match y.2 with
  | .free => (match sc.names.lookup y.1 with | some .cell => true | some .free => true | _ => false)
  | _ => true
theorem free_by {sc scope : Scope} (h : freeB sc scope = true) : ∀ y ∈ scope.names, y.2 = .free → sc.names.lookup y.1 = some .cell ∨ sc.names.lookup y.1 = some .free := fun y hy e => by
  have q := List.all_eq_true.mp h y hy
  rw [e] at q
  simp only at q
  split at q
  · rename_i z
    exact .inl z
  · rename_i z
    exact .inr z
  · cases q
/-- the reading of a lambda as a value -/
def tLamK (X : Cx) (k : Nat) (T : List (Addr × Str)) (js : List Nat) (tl : List (Option V) → XK → Hp → VK → Prop) : TE := fun _ H Q => Tabs T H ∧ ∀ (f : Addr) (H1 : Hp), ExtN H H1 → (∀ b, H1 b = none → H b = none) → Tabs T H1 → H f = none → LamIs X k H1 f js tl → Q (.ref f) H1
section
variable {X : Cx} {k : Nat} {T : List (Addr × Str)} {c P : Addr} {params : Arguments} {body : Expr} {scope : Scope} {pos : Pos} {js : List Nat} {fr N ps : List Str} {tl : List (Option V) → XK → Hp → VK → Prop}
/-- what its body keeps, wherever it was made -/
def LamB (X : Cx) (k : Nat) (N : List Str) (params : Arguments) (body : Expr) (scope : Scope) (fr : List Str) (dvs : List V) (tl : List (Option V) → XK → Hp → VK → Prop) : Prop :=
  ∀ (qual : Str) (cl : List (Str × Addr)) (dV : Value) (c f : Addr) (A : Around) (outer : List Env) (s : Shared) (H : Hp) (ws : List (Option V)) (Q : VK) (E : XK), Room k (A.deeper (envF (LF.nf ⟨params, body, scope, qual, cl, dV, c⟩) f s.heap.objs.size)) → tl ws E H Q →
    ∃ t, PE (ncx (L2.CX X.prog X.w) X.prog X.w X.K X.mg X.base N (LF.nf ⟨params, body, scope, qual, cl, dV, c⟩) f A outer s H E) body t ∧ t (startF N dvs ws) H Q
theorem lamB_ok {f c' : Addr} {cl : List (Str × Addr)} {q : Str} {dV : Value} {dvs : List V} (hB : LamB X k N params body scope fr dvs tl) (S : NScope N ps fr scope) (hb : LBinds ⟨params, body, scope, q, cl, dV, c'⟩ ps dvs) (hl : dvs.length = ps.length) :
    LOk X.prog X.w X.K X.mg X.base (k + 1) f ⟨params, body, scope, q, cl, dV, c'⟩ fr dvs tl := lok_of S hb hl fun A outer s H ws Q E hr _ ht => hB q cl dV c' f A outer s H ws Q E hr ht
theorem pe_lamK0 (LT : LamT X T c P) (hB : LamB X k N params body scope fr [] tl) (hd : defaultsOf params X.env = ([], []) := by rfl)
    (hfree : ∀ y ∈ scope.names, y.2 = .free → X.env.scope.names.lookup y.1 = some .cell ∨ X.env.scope.names.lookup y.1 = some .free := by exact free_by rfl)
    (S : NScope N [] fr scope := by exact nscope_by (by decide +kernel)) (hbn : ∀ q cl pm cv ctv, bindArgs (PySem.W.kla_fn "<lambda>" q params body scope cl pm cv ctv) ⟨[], []⟩ = pure [] := by intro q cl pm cv ctv; rfl)
    (hfr : ∀ y ∈ fr, (y, NameKind.free) ∈ scope.names := by decide +kernel) (hjs : js.map (fun j => X.N[j]?) = fr.map some := by rfl) :
    PE X (.Lambda params body scope pos) (tLamK X (k + 1) T js tl) := by
  refine ⟨fun pins s σ H Q I ⟨hT, h⟩ => (pe_lam0 LT hd hfree).run pins s σ H Q I ⟨hT, fun f c' dV H1 a1 a2 a3 a4 a5 a6 a7 => h f H1 a1 a2 a3 a4 ⟨_, fr, [], a5, a6, a7, lamB_ok hB S (lbinds0 hbn) rfl, fun ok => Caps.made ok hfree hfr hjs⟩⟩⟩
theorem pe_lamK1 {i : Int} {jn : Nat} {p2 : Pos} {a : Str} (LT : LamT X T c P) (hB : LamB X k N params body scope fr [.int i] tl) (hbn : ∀ q cl pm cv ctv (T : Addr) (u : Value), ∃ k, bindArgs { PySem.W.kla_fn "<lambda>" q params body scope cl pm cv ctv with defaults := .ref T } ⟨[], []⟩ = seqItems? (.ref T) >>= k ∧ k (some [u].toArray) = pure [(a, u)])
    (hd : defaultsOf params X.env = ([eval (.Constant (.int i) jn p2) X.env], []) := by rfl)
    (hfree : ∀ y ∈ scope.names, y.2 = .free → X.env.scope.names.lookup y.1 = some .cell ∨ X.env.scope.names.lookup y.1 = some .free := by exact free_by rfl)
    (S : NScope N [a] fr scope := by exact nscope_by (by decide +kernel))
    (hfr : ∀ y ∈ fr, (y, NameKind.free) ∈ scope.names := by decide +kernel) (hjs : js.map (fun j => X.N[j]?) = fr.map some := by rfl) :
    PE X (.Lambda params body scope pos) (tLamK X (k + 1) T js tl) := by
  refine ⟨fun pins s σ H Q I ⟨hT, h⟩ => (pe_lam1 (j := 0) LT hd hfree).run pins s σ H Q I ⟨hT, fun f c' dV H1 a1 a2 a3 a4 a5 a6 a7 => h f H1 a1 a2 a3 a4 ⟨_, fr, [.int i], a5, a6, a7, lamB_ok hB S (lbinds1 hbn) rfl, fun ok => Caps.made ok hfree hfr hjs⟩⟩⟩
end
section
variable {CS C0 C1 C2 C3 C4 C5 C6 C7 C8 C9 C10 C11 C12 C13 C14 : Addr}
/-- the reading of _law_error(lambda: ..) -/
def tErrL (K : PySem.W.Frag) (T : List (Addr × Str)) (js : List Nat) (tl : List (Option V) → XK → Hp → VK → Prop) (CS C0 C1 C2 C3 C4 C5 C6 C7 C8 C9 C10 C11 C12 C13 C14 : Addr) : TE := fun σ H Q => Tabs T H ∧ ∀ H1, ExtN H H1 → (∀ b, H1 b = none → H b = none) → Tabs T H1 → tl (js.map (slotAt σ)) (ErrE K CS C0 C1 C2 C3 C4 C5 C6 C7 C8 C9 C10 C11 C12 C13 C14 Q) H1 (OkQ Q)
/-- .. of a lambda that the def around holds -/
def tErrB (X : Cx) (k i : Nat) (σ0 : L2.St) (CS C0 C1 C2 C3 C4 C5 C6 C7 C8 C9 C10 C11 C12 C13 C14 : Addr) : TE := fun σ H Q => ∃ f js tl, σ[i]? = some (some (.ref f)) ∧ LamIs X k H f js tl ∧ tl (js.map (slotAt σ0)) (ErrE X.K CS C0 C1 C2 C3 C4 C5 C6 C7 C8 C9 C10 C11 C12 C13 C14 Q) H (OkQ Q)
/-- _law_error(lambda: ..) -/
theorem pe_errLam {X : Cx} {k : Nat} {g : Addr} {T : List (Addr × Str)} {js : List Nat} {tl : List (Option V) → XK → Hp → VK → Prop} {e : Expr} {p pos : Pos} (G : FnSt X.prog X.w X.K X.mg X.base (k + 1) g (KnErr X.prog X.w X.K X.mg X.base k CS C0 C1 C2 C3 C4 C5 C6 C7 C8 C9 C10 C11 C12 C13 C14))
    (hr : Room (k + 1) X.A) (hg : Gl X "_law_error") (hm : X.mg "_law_error" = some (.ref g)) (hk : PySem.W.keepIn X.K (.ref g) = true)
    (hfar : ∀ (pins : List (Addr × Obj)) (σ : L2.St) (H : Hp) (s : Shared), Inv X pins σ H s → Far X) (he : PE X e (tLamK X k T js tl)) (hst : starEach [e] X.env = (false, eval e X.env) :: starEach [] X.env := by rfl) :
    PE X (.Call (.Name "_law_error" p) [e] [] pos) (tErrL X.K T js tl CS C0 C1 C2 C3 C4 C5 C6 C7 C8 C9 C10 C11 C12 C13 C14) := by
  refine ⟨fun pins s σ H Q I ⟨hT, h⟩ => (pe_callSt (te := fun σ1 H1 Q1 => σ1 = σ ∧ tLamK X k T js tl σ1 H1 Q1) G hr hg hm hk ⟨fun pins s σ1 H Q I h => he.run pins s σ1 H Q I h.2⟩ (hst := hst)).run pins s σ H Q I ⟨rfl, hT, fun f H1 a1 a2 a3 a4 a5 pins' s' I' => ?_⟩⟩
  obtain ⟨L, fr, dvs, h1, h2, h3, h4, h5⟩ := a5
  have cp := h5 I'.ok
  exact ⟨f, L, fr, dvs, js.map (slotAt σ), tl, rfl, ⟨h1, h2, h3, h4, cells_of I' cp, fun y c e => hfar _ _ _ _ I' y c (cp.sub y c e)⟩, h H1 a1 a2 a3⟩
/-- _law_error(x) in a comprehension, x a lambda of the def around it -/
theorem pe_errBlk {X : Cx} {k : Nat} {g : Addr} {i : Nat} {x : Str} {p p2 pos : Pos} {scope : Scope} {σ0 : L2.St} {s0 : Shared} {H0 : Hp} {C : Addr} {cl : List (Str × Addr)} {fp : List Addr} (G : FnSt X.prog X.w X.K X.mg X.base (k + 1) g (KnErr X.prog X.w X.K X.mg X.base k CS C0 C1 C2 C3 C4 C5 C6 C7 C8 C9 C10 C11 C12 C13 C14))
    (hr : Room (k + 1) X.A) (hX : ∀ y, X.fn y = true) (B0 : Blk0 X σ0 s0 H0 cl fp) (hg : Gl (X.blk s0 H0 scope (compEnvC scope cl C X.env) fp) "_law_error") (hm : X.mg "_law_error" = some (.ref g)) (hk : PySem.W.keepIn X.K (.ref g) = true)
    (hv : PE (X.blk s0 H0 scope (compEnvC scope cl C X.env) fp) (.Name x p2) (tVar i)) :
    PE (X.blk s0 H0 scope (compEnvC scope cl C X.env) fp) (.Call (.Name "_law_error" p) [.Name x p2] [] pos)
      (tErrB X k i σ0 CS C0 C1 C2 C3 C4 C5 C6 C7 C8 C9 C10 C11 C12 C13 C14) := by
  refine ⟨fun pins s σ H Q I ⟨f, js, tl, e1, ⟨L, fr, dvs, h1, h2, h3, h4, h5⟩, ht⟩ => (pe_callSt (Y := X.blk s0 H0 scope (compEnvC scope cl C X.env) fp) G hr hg hm hk hv).run pins s σ H Q I ⟨.ref f, e1, fun pins' s' I' => ?_⟩⟩
  obtain ⟨pins0, I0, hfp⟩ := B0.inv
  have cp := h5 I0.ok
  have far := far_def I0 hX
  refine ⟨f, L, fr, dvs, js.map (slotAt σ0), tl, rfl, ⟨h1, h2, h3, h4, ?_, fun y c e => far y c (cp.sub y c e)⟩, ht⟩
  refine cells_later (fs := frs X.stack) (ex := fp) (cells_of I0 cp) (fun y c e => far y c (cp.sub y c e)) (fun y c e hm => ?_) I'.base
  exact (hfp c hm).2.2.2.2.1 y c (cp.sub y c e) rfl
end
end Sv


set_option maxHeartbeats 8000000
namespace Sv
open PySem PySem.Spec PyProof.Rows L2 LamX NdefX
/-! ### the law's lambdas -/
def zE : Expr := .Name "x" ⟨0, 0, 0, 0⟩
def eArgs : Expr → List Expr | .Call _ as _ _ => as | _ => []
def eElts : Expr → List Expr | .List es _ => es | .Tuple es _ _ => es | _ => []
def eElt : Expr → Expr | .ListComp e _ _ _ => e | e => e
def eLeft : Expr → Expr | .Compare l _ _ _ => l | e => e
def sVal : Stmt → Expr | .Assign _ v _ => v | .Expr v _ => v | .If t _ _ _ => t | _ => zE
def sBody : Stmt → List Stmt | .For _ _ b _ _ => b | _ => []
def lamP : Expr → Arguments | .Lambda p _ _ _ => p | _ => ⟨[], [], none, [], [], none, []⟩
def lamE : Expr → Expr | .Lambda _ b _ _ => b | e => e
def lamS : Expr → Scope | .Lambda _ _ s _ => s | _ => defScope sLaw
def sTurn (i : Nat) : Stmt := (sBody ((defBody sLaw).getD 1 (.Pass ⟨0, 0, 0, 0⟩))).getD i (.Pass ⟨0, 0, 0, 0⟩)
def lam1 : Expr := (eElts (sVal (sTurn 5))).getD 0 zE
def lam2 : Expr := (eElts (sVal (sTurn 5))).getD 1 zE
def lam3 : Expr := (eElts (sVal (sTurn 5))).getD 2 zE
def lam4 : Expr := (eElts ((eArgs (sVal (sTurn 6))).getD 0 zE)).getD 0 zE
def lam5 : Expr := (eElts ((eArgs (sVal (sTurn 6))).getD 0 zE)).getD 1 zE
def lam6 : Expr := (eElts ((eArgs (sVal (sTurn 6))).getD 0 zE)).getD 2 zE
def lam7 : Expr := (eArgs (eLeft (sVal (sTurn 8)))).getD 0 zE
def lam8 : Expr := (eArgs (eElt (eLeft (sVal (sTurn 9))))).getD 0 zE
section
variable {X : Cx}
variable {fW fC fE fI fH fV fR fY fF CE CC CD : Addr} {dW dC dE dI dH dV dR dY dF : FuncData}
variable {gC gI gR gY gO gA gW gN gE gX gQ gM : Addr} {eC eI eR eY eO eA eW eN eE eX eQ eM : FuncData}
def tl1 (K : PySem.W.Frag) (CE CD : Addr) : List (Option V) → XK → Hp → VK → Prop := fun ws E H Q => ∃ b o : Addr, ws = [some (.ref b), some (.ref o)] ∧ qCompose K CE CD [.ref b, .ref o] H Q E
def tl2 (K : PySem.W.Frag) (CE CD : Addr) : List (Option V) → XK → Hp → VK → Prop := fun ws E H Q => ∃ b o : Addr, ws = [some (.ref b), some (.ref o)] ∧ qCompose K CE CD [.ref o, .ref b] H Q E
def tl3 (K : PySem.W.Frag) (CE : Addr) : List (Option V) → XK → Hp → VK → Prop := fun ws E H Q => ∃ b : Addr, ws = [some (.ref b)] ∧ qInvert K CE [.ref b] H Q E
def tl4 (K : PySem.W.Frag) (CE CC : Addr) : List (Option V) → XK → Hp → VK → Prop := fun ws E H Q => ∃ b : Addr, ws = [some (.ref b)] ∧ qRepeat K CE CC [.ref b, .int 100000000000000000000] H Q E
def tl5 (K : PySem.W.Frag) (CE : Addr) : List (Option V) → XK → Hp → VK → Prop := fun ws E H Q => ∃ b : Addr, ws = [some (.ref b)] ∧ qCycles K CE [.ref b] H Q E
def tl6 (K : PySem.W.Frag) (CE : Addr) : List (Option V) → XK → Hp → VK → Prop := fun ws E H Q => ∃ b : Addr, ws = [some (.ref b)] ∧ qOrder K CE [.ref b] H Q E
def tl7 (K : PySem.W.Frag) (CE CD : Addr) : List (Option V) → XK → Hp → VK → Prop := fun ws E H Q => ∃ (h o : Addr) (n : Int), ws = [some (.ref h), some (.ref o), some (.int n)] ∧ qEffect [.ref h, .int (n + 1)] H (fun v H1 => qCompose K CE CD [.ref o, v] H1 Q E) E0
def tl8 (K : PySem.W.Frag) (CE CC : Addr) : List (Option V) → XK → Hp → VK → Prop := fun ws E H Q => ∃ (k : Int) (o : Addr), ws = [some (.int k), some (.ref o)] ∧ qRepeat K CE CC [.ref o, .int k] H Q E
theorem lb1 (T : Ef X.K X.mg fW fC fE fI fH fV fR fY fF CE CC CD dW dC dE dI dH dV dR dY dF) (L : Lf X.K X.mg gC gI gR gY gO gA gW gN gE gX gQ gM eC eI eR eY eO eA eW eN eE eX eQ eM) : LamB X 4 ["_law_bad", "_law_other"] (lamP lam1) (lamE lam1) (lamS lam1) ["_law_bad", "_law_other"] [] (tl1 X.K CE CD) := fun qual cl dV c f A outer s H ws Q E hr ht => by
  have GC : FnOk X.prog X.w X.K X.mg X.base (L2.CX X.prog X.w) 4 gC eC ["one", "other"] (qCompose X.K CE CD) := by unfold qCompose; exact ok_compose T L.C
  obtain ⟨b, o, rfl, q⟩ := ht
  exact ⟨_, pe_call (E := E) GC hr (by rfl) L.C.g L.C.F.kp L.C.b .nil (tkX (takes_of rfl rfl rfl rfl)) (pa_cons (pv 0) (pa_cons (pv 1) pa_nil)), .ref b, rfl, .ref o, rfl, q⟩
theorem lb2 (T : Ef X.K X.mg fW fC fE fI fH fV fR fY fF CE CC CD dW dC dE dI dH dV dR dY dF) (L : Lf X.K X.mg gC gI gR gY gO gA gW gN gE gX gQ gM eC eI eR eY eO eA eW eN eE eX eQ eM) : LamB X 4 ["_law_a", "_law_bad", "_law_one"] (lamP lam2) (lamE lam2) (lamS lam2) ["_law_bad", "_law_one"] [.int 0] (tl2 X.K CE CD) := fun qual cl dV c f A outer s H ws Q E hr ht => by
  have GC : FnOk X.prog X.w X.K X.mg X.base (L2.CX X.prog X.w) 4 gC eC ["one", "other"] (qCompose X.K CE CD) := by unfold qCompose; exact ok_compose T L.C
  obtain ⟨b, o, rfl, q⟩ := ht
  exact ⟨_, pe_call (E := E) GC hr (by rfl) L.C.g L.C.F.kp L.C.b .nil (tkX (takes_of rfl rfl rfl rfl)) (pa_cons (pv 2) (pa_cons (pv 1) pa_nil)), .ref o, rfl, .ref b, rfl, q⟩
theorem lb3 (T : Ef X.K X.mg fW fC fE fI fH fV fR fY fF CE CC CD dW dC dE dI dH dV dR dY dF) (L : Lf X.K X.mg gC gI gR gY gO gA gW gN gE gX gQ gM eC eI eR eY eO eA eW eN eE eX eQ eM) : LamB X 4 ["_law_b", "_law_bad"] (lamP lam3) (lamE lam3) (lamS lam3) ["_law_bad"] [.int 0] (tl3 X.K CE) := fun qual cl dV c f A outer s H ws Q E hr ht => by
  have GC : FnOk X.prog X.w X.K X.mg X.base (L2.CX X.prog X.w) 4 gI eI ["effect"] (qInvert X.K CE) := by unfold qInvert; exact ok_invert T L.I
  obtain ⟨b, rfl, q⟩ := ht
  exact ⟨_, pe_call (E := E) GC hr (by rfl) L.I.g L.I.F.kp L.I.b .nil (tkX (takes_of rfl rfl rfl rfl)) (pa_cons (pv 1) pa_nil), .ref b, rfl, q⟩
theorem lb4 (T : Ef X.K X.mg fW fC fE fI fH fV fR fY fF CE CC CD dW dC dE dI dH dV dR dY dF) (L : Lf X.K X.mg gC gI gR gY gO gA gW gN gE gX gQ gM eC eI eR eY eO eA eW eN eE eX eQ eM) : LamB X 4 ["_law_bad"] (lamP lam4) (lamE lam4) (lamS lam4) ["_law_bad"] [] (tl4 X.K CE CC) := fun qual cl dV c f A outer s H ws Q E hr ht => by
  have GC : FnOk X.prog X.w X.K X.mg X.base (L2.CX X.prog X.w) 4 gR eR ["effect", "count"] (qRepeat X.K CE CC) := by unfold qRepeat; exact ok_repeat T L.R
  obtain ⟨b, rfl, q⟩ := ht
  exact ⟨_, pe_call (E := E) GC hr (by rfl) L.R.g L.R.F.kp L.R.b .nil (tkX (takes_of rfl rfl rfl rfl)) (pa_cons (pv 0) (pa_cons (pe_op op_pow pe_int pe_int) pa_nil)), .ref b, rfl, 10, 20, rfl, rfl, ⟨by decide, by decide, by decide⟩, q⟩
theorem lb5 (T : Ef X.K X.mg fW fC fE fI fH fV fR fY fF CE CC CD dW dC dE dI dH dV dR dY dF) (L : Lf X.K X.mg gC gI gR gY gO gA gW gN gE gX gQ gM eC eI eR eY eO eA eW eN eE eX eQ eM) : LamB X 4 ["_law_a", "_law_bad"] (lamP lam5) (lamE lam5) (lamS lam5) ["_law_bad"] [.int 0] (tl5 X.K CE) := fun qual cl dV c f A outer s H ws Q E hr ht => by
  have GC : FnOk X.prog X.w X.K X.mg X.base (L2.CX X.prog X.w) 4 gY eY ["effect"] (qCycles X.K CE) := by unfold qCycles; exact ok_cycles T L.Y
  obtain ⟨b, rfl, q⟩ := ht
  exact ⟨_, pe_call (E := E) GC hr (by rfl) L.Y.g L.Y.F.kp L.Y.b .nil (tkX (takes_of rfl rfl rfl rfl)) (pa_cons (pv 1) pa_nil), .ref b, rfl, q⟩
theorem lb6 (T : Ef X.K X.mg fW fC fE fI fH fV fR fY fF CE CC CD dW dC dE dI dH dV dR dY dF) (L : Lf X.K X.mg gC gI gR gY gO gA gW gN gE gX gQ gM eC eI eR eY eO eA eW eN eE eX eQ eM) : LamB X 4 ["_law_b", "_law_bad"] (lamP lam6) (lamE lam6) (lamS lam6) ["_law_bad"] [.int 0] (tl6 X.K CE) := fun qual cl dV c f A outer s H ws Q E hr ht => by
  have GC : FnOk X.prog X.w X.K X.mg X.base (L2.CX X.prog X.w) 4 gO eO ["effect"] (qOrder X.K CE) := by unfold qOrder; exact ok_order T L.O
  obtain ⟨b, rfl, q⟩ := ht
  exact ⟨_, pe_call (E := E) GC hr (by rfl) L.O.g L.O.F.kp L.O.b .nil (tkX (takes_of rfl rfl rfl rfl)) (pa_cons (pv 1) pa_nil), .ref b, rfl, q⟩
theorem lb7 (T : Ef X.K X.mg fW fC fE fI fH fV fR fY fF CE CC CD dW dC dE dI dH dV dR dY dF) (L : Lf X.K X.mg gC gI gR gY gO gA gW gN gE gX gQ gM eC eI eR eY eO eA eW eN eE eX eQ eM) : LamB X 4 ["_law_h", "_law_one", "_law_size"] (lamP lam7) (lamE lam7) (lamS lam7) ["_law_h", "_law_one", "_law_size"] [] (tl7 X.K CE CD) := fun qual cl dV c f A outer s H ws Q E hr ht => by
  have GC : FnOk X.prog X.w X.K X.mg X.base (L2.CX X.prog X.w) 4 gC eC ["one", "other"] (qCompose X.K CE CD) := by unfold qCompose; exact ok_compose T L.C
  have GE : FnOk X.prog X.w X.K X.mg X.base CX0 2 gE eE ["_law_h", "_law_size"] qEffect := by unfold qEffect; exact ok_effect L.E.F L.N T.bt
  obtain ⟨h, o, n, rfl, q⟩ := ht
  exact ⟨_, pe_call (E := E) GC hr (by rfl) L.C.g L.C.F.kp L.C.b .nil (tkX (takes_of rfl rfl rfl rfl)) (pa_cons (pv 1) (pa_cons (pe_call (E := E0) GE (hr.mono (by decide)) (by rfl) L.E.g L.E.F.kp L.E.b .nil pass0 (pa_cons (pv 0) (pa_cons (pe_op op_add (pv 2) pe_int) pa_nil))) pa_nil)), .ref o, rfl, .ref h, rfl, .int n, rfl, n, 1, rfl, rfl, q⟩
theorem lb8 (T : Ef X.K X.mg fW fC fE fI fH fV fR fY fF CE CC CD dW dC dE dI dH dV dR dY dF) (L : Lf X.K X.mg gC gI gR gY gO gA gW gN gE gX gQ gM eC eI eR eY eO eA eW eN eE eX eQ eM) : LamB X 4 ["_law_k", "_law_one"] (lamP lam8) (lamE lam8) (lamS lam8) ["_law_k", "_law_one"] [] (tl8 X.K CE CC) := fun qual cl dV c f A outer s H ws Q E hr ht => by
  have GC : FnOk X.prog X.w X.K X.mg X.base (L2.CX X.prog X.w) 4 gR eR ["effect", "count"] (qRepeat X.K CE CC) := by unfold qRepeat; exact ok_repeat T L.R
  obtain ⟨k, o, rfl, q⟩ := ht
  exact ⟨_, pe_call (E := E) GC hr (by rfl) L.R.g L.R.F.kp L.R.b .nil (tkX (takes_of rfl rfl rfl rfl)) (pa_cons (pv 1) (pa_cons (pv 0) pa_nil)), .ref o, rfl, .int k, rfl, q⟩
end
end Sv


set_option maxHeartbeats 8000000
namespace Sv
open PySem PySem.Spec PyProof.Rows L2 LamX NdefX
/-! ### what the law knows between its steps -/
/-- all but lists and tables stay -/
def ExtL (H H1 : Hp) : Prop := ∀ b o, H b = some o → (∀ xs, o ≠ .lst xs) → (∀ ps, o ≠ .tbl ps) → H1 b = some o
theorem ExtL.refl (H : Hp) : ExtL H H := fun _ _ e _ _ => e
theorem ExtL.trans {H H1 H2 : Hp} (a : ExtL H H1) (b : ExtL H1 H2) : ExtL H H2 := fun c o e n m => b c o (a c o e n m) n m
theorem ExtL.n {H H1 : Hp} (e : ExtN H H1) : ExtL H H1 := fun b o h _ m => e b o h m
theorem ExtL.s {H H1 : Hp} (e : Same H H1) : ExtL H H1 := fun b o h _ _ => e b o h
theorem ExtL.x {H H1 : Hp} {h l : Addr} (L : LawH H h l) (e : SameX h l H H1) : ExtL H H1 := fun b o hb n _ => by
  obtain ⟨m, i, cs, e1, e2, _⟩ := L.ex
  refine e b o (fun z => ?_) (fun z => ?_) hb
  · rw [z, e1] at hb
    exact n _ (Option.some.inj hb).symm
  · rw [z, e2] at hb
    exact n _ (Option.some.inj hb).symm
theorem ExtL.upd {H : Hp} {p : Addr} {xs : List V} {o : HO} (h : H p = some (.lst xs)) : ExtL H (L2.upd H p o) := fun b u e n _ => by
  rw [upd_ne (fun z => by rw [z, h] at e; exact n _ (Option.some.inj e).symm)]
  exact e
theorem sqT_ext {K : PySem.W.Frag} {H H1 : Hp} {a : Addr} {xs : List V} (e : ExtL H H1) (h : SqT K H a xs) : SqT K H1 a xs := by
  rcases h with (h | ⟨o, h⟩) | h
  · exact .inl (.inl (e _ _ h (fun _ z => nomatch z) (fun _ z => nomatch z)))
  · exact .inl (.inr ⟨o, e _ _ h (fun _ z => nomatch z) (fun _ z => nomatch z)⟩)
  · exact .inr h
theorem At.ext {K : PySem.W.Frag} {H H1 : Hp} {a : Addr} {x : List Nat} (h : At K H a x) (e : ExtL H H1) : At K H1 a x := ⟨sqT_ext e h.s⟩
theorem LamIs.extL {X : Cx} {k : Nat} {H H1 : Hp} {f : Addr} {js : List Nat} {tl : List (Option V) → XK → Hp → VK → Prop} (h : LamIs X k H f js tl) (e : ExtL H H1) : LamIs X k H1 f js tl := by
  obtain ⟨L, fr, dvs, h1, h2, h3, h4, h5⟩ := h
  refine ⟨L, fr, dvs, e _ _ h1 (fun _ z => by unfold LamO at z; cases z) (fun ps => lamO_tbl ps), e _ _ h2 (fun _ z => by unfold CodeO at z; cases z) codeO_ne, ?_, h4, h5⟩
  rcases h3 with ⟨a, b⟩ | ⟨a, T, b, c⟩
  · exact .inl ⟨a, b⟩
  · exact .inr ⟨a, T, b, e _ _ c (fun _ z => nomatch z) (fun _ z => nomatch z)⟩
theorem LamIs.not_lst {X : Cx} {k : Nat} {H : Hp} {f p : Addr} {js : List Nat} {tl : List (Option V) → XK → Hp → VK → Prop} {xs : List V} (h : LamIs X k H f js tl) (hp : H p = some (.lst xs)) : f ≠ p := fun z => by
  obtain ⟨L, fr, dvs, h1, _⟩ := h
  rw [z, hp] at h1
  have := Option.some.inj h1
  unfold LamO at this
  cases this
/-- the law's source and its table -/
structure LS (T : List (Addr × Str)) (h l : Addr) (H : Hp) : Prop where
  law : LawH H h l
  tabs : Tabs T H
theorem LawH.ext {H H' : Hp} {h l : Addr} (x : LawH H h l) (e : ExtN H H') : LawH H' h l := by
  obtain ⟨m, i, cs, e1, e2, e3⟩ := x.ex
  exact ⟨m, i, cs, e _ _ e1 (fun _ z => nomatch z), e _ _ e2 (fun _ z => nomatch z), e3⟩
theorem tabs_x {T : List (Addr × Str)} {H H1 : Hp} {h l : Addr} (t : Tabs T H) (L : LawH H h l) (e : SameX h l H H1) : Tabs T H1 := fun p hp => by
  obtain ⟨ps, h1, h2, h3⟩ := t p hp
  obtain ⟨m, i, cs, e1, e2, _⟩ := L.ex
  refine ⟨ps, e _ _ (fun z => ?_) (fun z => ?_) h1, h2, fun pos cv hc => ?_⟩
  · rw [z, e1] at h1
    cases h1
  · rw [z, e2] at h1
    cases h1
  · obtain ⟨c, q1, q2⟩ := h3 pos cv hc
    exact ⟨c, q1, ExtL.x L e _ _ q2 (fun _ z => by unfold CodeO at z; cases z) codeO_ne⟩
theorem LS.x {T : List (Addr × Str)} {h l : Addr} {H H1 : Hp} (a : LS T h l H) (L : LawH H1 h l) (e : SameX h l H H1) : LS T h l H1 := ⟨L, tabs_x a.tabs a.law e⟩
theorem LS.s {T : List (Addr × Str)} {h l : Addr} {H H1 : Hp} (a : LS T h l H) (e : Same H H1) : LS T h l H1 := ⟨a.law.same e, a.tabs.ext e⟩
theorem LS.e {T : List (Addr × Str)} {h l : Addr} {H H1 : Hp} (a : LS T h l H) (e : ExtN H H1) (t : Tabs T H1) : LS T h l H1 := ⟨a.law.ext e, t⟩
section
variable {P : Program} {w : World} {K : PySem.W.Frag} {mg : Str → Option Value} {base : Heap}
variable {CE CC CD a b : Addr} {H : Hp} {Q : VK} {E : XK} {e g : List Nat}
theorem go_next {h l : Addr} {lim : Int} (LH : LawH H h l) (p1 : 0 < lim) (p2 : lim < 2 ^ 64) (q : ∀ (r : Nat) H', (r : Int) < lim → LawH H' h l → SameX h l H H' → Q (.int (r : Nat)) H') : qNext [.ref h, .int lim] H Q E := by
  unfold qNext
  exact ⟨h, l, lim, rfl, LH, p1, p2, fun r H' r0 r1 L k => by
      obtain ⟨n, rfl⟩ : ∃ n : Nat, r = (n : Int) := ⟨r.toNat, (Int.toNat_of_nonneg r0).symm⟩
      exact q n H' r1 L k⟩
theorem go_effect {h l : Addr} {n : Nat} (LH : LawH H h l) (hn : n ≤ 1000) (q : ∀ e H' p, Eff e → e.length = n → LawH H' h l → SameX h l H H' → H' p = some (.tup (vN e)) → Q (.ref p) H') : qEffect [.ref h, .int (n : Nat)] H Q E := by
  unfold qEffect
  exact ⟨h, l, n, rfl, LH, hn, fun e H' p h1 h2 h3 h4 _ h5 => q e H' p h1 h2 h3 h4 h5⟩
theorem go_right {c : Addr} {t : List Nat} {far : Int} (hA : At K H a e) (hB : At K H b g) (hC : At K H c t) (he : Eff e) (hg : Eff g) (ht : Eff t) (h1 : g.length = e.length) (h2 : t.length = e.length) (h3 : e.length ≤ 40) (h4 : CtOk far) (q : ∀ H', Same H H' → Q (.bl true) H') : qRight K [.ref a, .ref b, .ref c, .int far] H Q E := by
  unfold qRight
  exact ⟨a, b, c, e, g, t, far, rfl, hA, hB, hC, he, hg, ht, h1, h2, h3, h4, q⟩
/-- numbers in their place -/
structure AtI (K : PySem.W.Frag) (H : Hp) (a : Addr) (ns : List Int) : Prop where
  s : SqT K H a (ns.map V.int)
theorem AtI.ext {H H1 : Hp} {ns : List Int} (h : AtI K H a ns) (e : ExtL H H1) : AtI K H1 a ns := ⟨sqT_ext e h.s⟩
theorem At.i (h : At K H a e) : AtI K H a (nInts e) := ⟨by rw [vN_eq]; exact h.s⟩
theorem go_cat {ns ms : List Int} (hA : AtI K H a ns) (hB : AtI K H b ms) (hl : ns.length + ms.length ≤ 1000) (q : ∀ H' p, Same H H' → AtI K H' p (ns ++ ms) → Q (.ref p) H') : rCatA K (.ref a) (.ref b) H Q := by
  refine ⟨a, b, _, _, rfl, rfl, hA.s, hB.s, ?_, fun z => ?_, fun _ z => ?_, fun _ _ p hp => ?_⟩
  · rw [List.length_map, List.length_map]
    exact sz1000 hl
  · have z := List.map_eq_nil_iff.mp z
    subst z
    exact q H b (fun _ _ h => h) (by rw [List.nil_append]; exact hB)
  · have z := List.map_eq_nil_iff.mp z
    subst z
    exact q H a (fun _ _ h => h) (by rw [List.append_nil]; exact hA)
  · refine q _ p (same_upd hp) ⟨.inl (.inl ?_)⟩
    rw [upd_same, List.map_append]
/-! calls that fail -/
variable {ns ms : List Int}
theorem no_compose1 (hA : AtI K H a ns) (hB : AtI K H b ms) (la : ns.length ≤ 1000) (lb : ms.length ≤ 1000) (h : ¬ EffI ns) (q : E (.ref CE) none H) : qCompose K CE CD [.ref a, .ref b] H Q E := by
  unfold qCompose
  exact ⟨a, b, ns, ms, rfl, hA.s, hB.s, la, lb, fun _ => q, fun z => absurd z h, fun z => absurd z h, fun e g z _ he => absurd (by rw [z]; exact effI_ints he) h⟩
theorem no_compose2 (hA : AtI K H a ns) (hB : AtI K H b ms) (la : ns.length ≤ 1000) (lb : ms.length ≤ 1000) (h0 : EffI ns) (h : ¬ EffI ms) (q : E (.ref CE) none H) : qCompose K CE CD [.ref a, .ref b] H Q E := by
  unfold qCompose
  exact ⟨a, b, ns, ms, rfl, hA.s, hB.s, la, lb, fun z => absurd h0 z, fun _ _ => q, fun _ z => absurd z h, fun e g _ z _ hg => absurd (by rw [z]; exact effI_ints hg) h⟩
theorem no_compose3 (hA : At K H a e) (hB : At K H b g) (he : Eff e) (hg : Eff g) (la : e.length ≤ 1000) (lb : g.length ≤ 1000) (h : e.length ≠ g.length) (q : E (.ref CD) none H) : qCompose K CE CD [.ref a, .ref b] H Q E := by
  unfold qCompose
  exact ⟨a, b, _, _, rfl, hA.i.s, hB.i.s, by rw [ints_len]; exact la, by rw [ints_len]; exact lb, fun z => absurd (effI_ints he) z, fun _ z => absurd (effI_ints hg) z, fun _ _ _ => q, fun e' g' z1 z2 _ _ z3 => absurd (by rw [ints_inj z1, ints_inj z2]; exact z3) h⟩
theorem no_invert (hA : AtI K H a ns) (la : ns.length ≤ 1000) (h : ¬ EffI ns) (q : E (.ref CE) none H) : qInvert K CE [.ref a] H Q E := by
  unfold qInvert
  exact ⟨a, ns, rfl, hA.s, la, fun _ => q, fun e z he => absurd (by rw [z]; exact effI_ints he) h⟩
theorem no_repeat1 {c : Int} (hA : AtI K H a ns) (la : ns.length ≤ 1000) (h : ¬ EffI ns) (q : E (.ref CE) none H) : qRepeat K CE CC [.ref a, .int c] H Q E := by
  unfold qRepeat
  exact ⟨a, ns, c, rfl, hA.s, la, fun _ => q, fun z => absurd z h, fun e z he => absurd (by rw [z]; exact effI_ints he) h⟩
theorem no_repeat2 {c : Int} (hA : At K H a e) (he : Eff e) (la : e.length ≤ 1000) (h : ¬ CtOk c) (q : E (.ref CC) none H) : qRepeat K CE CC [.ref a, .int c] H Q E := by
  unfold qRepeat
  exact ⟨a, _, c, rfl, hA.i.s, by rw [ints_len]; exact la, fun z => absurd (effI_ints he) z, fun _ _ => q, fun _ _ _ z => absurd z h⟩
theorem no_cycles (hA : AtI K H a ns) (la : ns.length ≤ 1000) (h : ¬ EffI ns) (q : E (.ref CE) none H) : qCycles K CE [.ref a] H Q E := by
  unfold qCycles
  exact ⟨a, ns, rfl, hA.s, la, fun _ => q, fun e z he => absurd (by rw [z]; exact effI_ints he) h⟩
theorem no_order (hA : AtI K H a ns) (la : ns.length ≤ 63) (h : ¬ EffI ns) (q : E (.ref CE) none H) : qOrder K CE [.ref a] H Q E := by
  unfold qOrder
  exact ⟨a, ns, rfl, hA.s, la, fun _ => q, fun e z he => absurd (by rw [z]; exact effI_ints he) h⟩
/-! what is no effect -/
theorem bad1 (e : List Nat) : ¬ EffI (nInts e ++ [(e.length : Int) + 1]) := fun h => by
  have := (h.1 ((e.length : Int) + 1) (by simp)).2
  rw [List.length_append, ints_len] at this
  simp at this
  omega
theorem bad2 : ¬ EffI [1] := by decide
theorem bad3 (e : List Nat) : ¬ EffI (nInts e ++ [0, 0]) := fun h => by
  have := h.2
  rw [List.nodup_append] at this
  exact absurd this.2.1 (by decide)
theorem bad4 (e : List Nat) : ¬ EffI ([-1] ++ nInts e) := fun h => by
  have := (h.1 (-1) (by simp)).1
  omega
theorem bad5 (e : List Nat) : ¬ EffI (nInts e ++ [0, 0, 1]) := fun h => by
  have := h.2
  rw [List.nodup_append] at this
  exact absurd this.2.1 (by decide)
/-! lists of names of errors -/
def dW (nm : Str) : PyData := .tuple [.str nm]
theorem dp_w {p : Addr} {nm : Str} (h : H p = some (.tup [.str nm])) : Dp K H (.ref p) (dW nm) := .tup (.inl (.inl h)) (.cons (.str nm) .nil)
theorem dpAll_w {nm : Str} : ∀ {ps : List Addr} (n : Nat), ps.length = n → (∀ p ∈ ps, H p = some (.tup [.str nm])) → DpAll K H (ps.map V.ref) (List.replicate n (dW nm))
  | [], _, rfl, _ => .nil
  | p :: ps, _, rfl, h => .cons (dp_w (h p (List.mem_cons_self ..))) (dpAll_w ps.length rfl fun q hq => h q (List.mem_cons_of_mem _ hq))
theorem ne_wl {x y : Addr} {nm : Str} {ps qs : List Addr} {n : Nat} (hx : H x = some (.lst (ps.map V.ref))) (hp : ∀ p ∈ ps, H p = some (.tup [.str nm])) (lp : ps.length = n) (hy : H y = some (.lst (qs.map V.ref))) (hq : ∀ p ∈ qs, H p = some (.tup [.str nm])) (lq : qs.length = n)
    (hs : SeqAt.shaped (.list (List.replicate n (dW nm))) = true) (q : Q (.bl false) H) : qNe K (.ref x) (.ref y) H Q := by
  unfold qNe
  exact ⟨.list (List.replicate n (dW nm)), .list (List.replicate n (dW nm)), .lst (.inl (.inl hx)) (dpAll_w n lp hp), .lst (.inl (.inl hy)) (dpAll_w n lq hq), hs, hs, by rw [SeqAt.eqv_refl _ (SeqAt.canLay_of_shaped hs)]; exact q⟩
theorem ne_w {x y : Addr} {nm : Str} (hx : H x = some (.tup [.str nm])) (hy : H y = some (.tup [.str nm])) (hs : SeqAt.shaped (dW nm) = true) (q : Q (.bl false) H) : qNe K (.ref x) (.ref y) H Q := by
  unfold qNe
  exact ⟨dW nm, dW nm, dp_w hx, dp_w hy, hs, hs, by rw [SeqAt.eqv_refl _ (SeqAt.canLay_of_shaped hs)]; exact q⟩
theorem tabs_upd {T : List (Addr × Str)} {p : Addr} {xs : List V} {o : HO} (t : Tabs T H) (hp : H p = some (.lst xs)) : Tabs T (L2.upd H p o) := fun y hy => by
  obtain ⟨ps, h1, h2, h3⟩ := t y hy
  refine ⟨ps, ?_, h2, fun pos cv hc => ?_⟩
  · rw [upd_ne (fun z => by rw [z, hp] at h1; cases h1)]
    exact h1
  · obtain ⟨c, q1, q2⟩ := h3 pos cv hc
    exact ⟨c, q1, ExtL.upd hp _ _ q2 (fun _ z => by unfold CodeO at z; cases z) codeO_ne⟩
theorem LS.u {T : List (Addr × Str)} {h l p : Addr} {xs : List V} {o : HO} (a : LS T h l H) (hp : H p = some (.lst xs)) (n1 : p ≠ h) (n2 : p ≠ l) : LS T h l (L2.upd H p o) := by
  refine ⟨?_, tabs_upd a.tabs hp⟩
  obtain ⟨m, i, cs, e1, e2, e3⟩ := a.law.ex
  exact ⟨m, i, cs, by rw [upd_ne (Ne.symm n1)]; exact e1, by rw [upd_ne (Ne.symm n2)]; exact e2, e3⟩
theorem errE_of {CS C0 C1 C2 C3 C4 C5 C6 C7 C8 C9 C10 C11 C12 C13 C14 D : Addr} {nm : Str} (A : ∃ (b0 b1 b2 b3 b4 b5 b6 b7 b8 b9 b10 b11 b12 b13 b14 : Bool) (j : Nat), ErK K CS C0 C1 C2 C3 C4 C5 C6 C7 C8 C9 C10 C11 C12 C13 C14 D nm b0 b1 b2 b3 b4 b5 b6 b7 b8 b9 b10 b11 b12 b13 b14 j) (q : NewS H nm Q) :
    ErrE K CS C0 C1 C2 C3 C4 C5 C6 C7 C8 C9 C10 C11 C12 C13 C14 Q (.ref D) none H := by
  obtain ⟨b0, b1, b2, b3, b4, b5, b6, b7, b8, b9, b10, b11, b12, b13, b14, j, R⟩ := A
  exact ⟨D, nm, b0, b1, b2, b3, b4, b5, b6, b7, b8, b9, b10, b11, b12, b13, b14, j, rfl, rfl, R, q⟩
theorem comp_step {T : List (Addr × Str)} {Hw H' : Hp} {D : Addr} {ps : List Addr} {i : Nat} {nm : Str} (hD : Hw D = none) (e : ExtN Hw H') (t : Tabs T H') (hl : ps.length = i) (hd : H' D = some (.lst (ps.map V.ref))) (hp : ∀ p ∈ ps, H' p = some (.tup [.str nm])) (hi : i < 1000) :
    NewS H' nm (fun y H4 => ∃ acc, H4 D = some (.lst acc) ∧ acc.length < sizeLine ∧ (ExtN Hw (L2.upd H4 D (.lst (acc ++ [y]))) ∧ Tabs T (L2.upd H4 D (.lst (acc ++ [y]))) ∧ ∃ ps' : List Addr, ps'.length = i + 1 ∧ (L2.upd H4 D (.lst (acc ++ [y]))) D = some (.lst (ps'.map V.ref)) ∧ ∀ p ∈ ps', (L2.upd H4 D (.lst (acc ++ [y]))) p = some (.tup [.str nm]))) := fun H4 p sm hp0 hk => by
  refine ⟨_, sm _ _ hd, ?_, fun b o hb hn => ?_, tabs_upd (t.ext sm) (sm _ _ hd), ps ++ [p], ?_, ?_, fun z hz => ?_⟩
  · rw [List.length_map, hl]
    exact small1000 (Nat.le_of_lt hi)
  · rw [upd_ne (ne_of_none hb hD)]
    exact sm _ _ (e b o hb hn)
  · rw [List.length_append, hl]
    rfl
  · rw [upd_same, List.map_append]
    rfl
  · have key : H4 z = some (.tup [.str nm]) := by
      rcases List.mem_append.mp hz with q | q
      · exact sm _ _ (hp z q)
      · rw [List.mem_singleton.mp q]
        exact hk
    rw [upd_ne (fun e => by rw [e, sm _ _ hd] at key; cases key)]
    exact key
end
end Sv


set_option maxHeartbeats 8000000
namespace Sv
open PySem PySem.Spec PyProof.Rows L2 LamX NdefX
section
variable {P : Program} {w : World} {K : PySem.W.Frag} {mg : Str → Option Value} {base : Heap}
variable {fW fC fE fI fH fV fR fY fF CE CC CD : Addr} {dW dC dE dI dH dV dR dY dF : FuncData}
variable {gC gI gR gY gO gA gW gN gE gX gQ gM : Addr} {eC eI eR eY eO eA eW eN eE eX eQ eM : FuncData}
def nLaw : List Str := ["_law_script", "_law_turn", "_law_third", "_law_far", "_law_works", "_law_bad", "_law_h", "_law_one", "_law_other", "_law_size", "_law_call", "_law_k"]
theorem scLaw : FnScope nLaw ["_law_script"] (defScope sLaw) := ⟨rfl, rfl, rfl, by decide +kernel, rfl, by decide +kernel, by decide +kernel⟩
def lamQ : Str := (envOfC "law" (defScope sLaw) 0 0 .none).qual ++ "<lambda>"
def lawT (Pt : Addr) : List (Addr × Str) := [(Pt, lamQ)]
theorem hbn2 : ∀ q cl pm cv ctv (T : Addr) (u : Value), ∃ k, bindArgs { PySem.W.kla_fn "<lambda>" q (lamP lam2) (lamE lam2) (lamS lam2) cl pm cv ctv with defaults := .ref T } ⟨[], []⟩ = seqItems? (.ref T) >>= k ∧ k (some [u].toArray) = pure [(("_law_a" : Str), u)] := by
  intro q cl pm cv ctv T u
  exact ⟨_, rfl, rfl⟩
theorem hbn3 : ∀ q cl pm cv ctv (T : Addr) (u : Value), ∃ k, bindArgs { PySem.W.kla_fn "<lambda>" q (lamP lam3) (lamE lam3) (lamS lam3) cl pm cv ctv with defaults := .ref T } ⟨[], []⟩ = seqItems? (.ref T) >>= k ∧ k (some [u].toArray) = pure [(("_law_b" : Str), u)] := by
  intro q cl pm cv ctv T u
  exact ⟨_, rfl, rfl⟩
theorem hbn5 : ∀ q cl pm cv ctv (T : Addr) (u : Value), ∃ k, bindArgs { PySem.W.kla_fn "<lambda>" q (lamP lam5) (lamE lam5) (lamS lam5) cl pm cv ctv with defaults := .ref T } ⟨[], []⟩ = seqItems? (.ref T) >>= k ∧ k (some [u].toArray) = pure [(("_law_a" : Str), u)] := by
  intro q cl pm cv ctv T u
  exact ⟨_, rfl, rfl⟩
theorem hbn6 : ∀ q cl pm cv ctv (T : Addr) (u : Value), ∃ k, bindArgs { PySem.W.kla_fn "<lambda>" q (lamP lam6) (lamE lam6) (lamS lam6) cl pm cv ctv with defaults := .ref T } ⟨[], []⟩ = seqItems? (.ref T) >>= k ∧ k (some [u].toArray) = pure [(("_law_b" : Str), u)] := by
  intro q cl pm cv ctv T u
  exact ⟨_, rfl, rfl⟩
def spLaw (K : PySem.W.Frag) (Pt : Addr) : Sp := fun vs H Q _ => ∃ (a : Addr) (ns : List Int), vs = [.ref a] ∧ SqL K H a (ns.map V.int) ∧ ns.length ≤ 63 ∧ Tabs (lawT Pt) H ∧ ∀ H', Q (.bl true) H'
theorem far_blk {X : Cx} {σ : L2.St} {s : Shared} {H : Hp} {C : Addr} {cl : List (Str × Addr)} {fp : List Addr} {scope : Scope} (B0 : Blk0 X σ s H cl fp) (hX : ∀ y, X.fn y = true) : Far (X.blk s H scope (compEnvC scope cl C X.env) fp) := fun y c e => B0.far (B0.inv.elim fun _ h => far_def h.1 hX) y c e
/-- how three of the classes answer -/
structure ErA (K : PySem.W.Frag) (CS C0 C1 C2 C3 C4 C5 C6 C7 C8 C9 C10 C11 C12 C13 C14 D : Addr) (nm : Str) : Prop where
  ex : ∃ (b0 b1 b2 b3 b4 b5 b6 b7 b8 b9 b10 b11 b12 b13 b14 : Bool) (j : Nat), ErK K CS C0 C1 C2 C3 C4 C5 C6 C7 C8 C9 C10 C11 C12 C13 C14 D nm b0 b1 b2 b3 b4 b5 b6 b7 b8 b9 b10 b11 b12 b13 b14 j
theorem ok_law {f c Pt : Addr} {fd : FuncData} {CS C0 C1 C3 C4 C5 C6 C9 C10 C11 C12 C13 C14 : Addr} (T : Ef K mg fW fC fE fI fH fV fR fY fF CE CC CD dW dC dE dI dH dV dR dY dF) (L : Lf K mg gC gI gR gY gO gA gW gN gE gX gQ gM eC eI eR eY eO eA eW eN eE eX eQ eM)
    (F : Df K mg "law" sLaw ["_law_script"] f fd) (hc : fd.code = .ref c) (TB : TabB base mg c Pt) (G : ErG mg CS C0 C1 CC C3 C4 C5 C6 CE CD C9 C10 C11 C12 C13 C14)
    (AE : ErA K CS C0 C1 CC C3 C4 C5 C6 CE CD C9 C10 C11 C12 C13 C14 CE "effect") (AD : ErA K CS C0 C1 CC C3 C4 C5 C6 CE CD C9 C10 C11 C12 C13 C14 CD "sizes") (AC : ErA K CS C0 C1 CC C3 C4 C5 C6 CE CD C9 C10 C11 C12 C13 C14 CC "count") :
    FnOk P w K mg base CX0 7 f fd ["_law_script"] (spLaw K Pt) := by
  have GM : FnOk P w K mg base CX0 1 gM eM ["_law_script", "_law_seed"] (spMix K) := ok_mix L.M.F T.bt
  have GN : FnOk P w K mg base CX0 1 gN eN ["_law_h", "_law_limit"] qNext := by unfold qNext; exact ok_next L.N.F T.bt
  have GE : FnOk P w K mg base CX0 2 gE eE ["_law_h", "_law_size"] qEffect := by unfold qEffect; exact ok_effect L.E.F L.N T.bt
  have GQ : FnOk P w K mg base CX0 5 gQ eQ ["_law_one", "_law_other", "_law_third", "_law_far"] (qRight K) := by unfold qRight; exact ok_right T L
  have GX : FnSt P w K mg base 6 gX (KnErr P w K mg base 5 CS C0 C1 CC C3 C4 C5 C6 CE CD C9 C10 C11 C12 C13 C14) := ok_error L.X T.bt G
  refine fun_okC F.F hc scLaw (fun vs H Q E h => ?_) (fun A outer s H vs Q E hr h => ?_)
  · obtain ⟨a, ns, rfl, _⟩ := h
    rfl
  · obtain ⟨a, ns, rfl, hA, hl, hT, q⟩ := h
    have LT : LamT (cxOf CX0 P w K mg base nLaw "law" (defScope sLaw) f (.ref c) A outer s H E).nox (lawT Pt) c Pt := ⟨TB, rfl, List.mem_singleton.mpr rfl, fun p hp _ => by rw [List.mem_singleton.mp hp]; rfl⟩
    have far0 : ∀ (pins : List (Addr × Obj)) (σ : L2.St) (H' : Hp) (s' : Shared), Inv (cxOf CX0 P w K mg base nLaw "law" (defScope sLaw) f (.ref c) A outer s H E).nox pins σ H' s' → Far (cxOf CX0 P w K mg base nLaw "law" (defScope sLaw) f (.ref c) A outer s H E).nox := fun _ _ _ _ I => far_def I fun _ => rfl
    refine ⟨_, (pss_cons (ps_set (i := 6) scLaw.nd rfl (Or.inr rfl) (pe_call (E := E0) GM (hr.mono (by decide)) (by rfl) L.M.g L.M.F.kp L.M.b .nil pass0 (pa_cons (pv 0) (pa_cons pe_int pa_nil))))
          (pss_cons (ps_for PassesOwn.never rfl (pi_range1 (by rfl) T.bt.range (pa_cons pe_int pa_nil)) (pg_name (i := 1) scLaw.nd rfl (Or.inl rfl))
          (pss_cons (ps_set (i := 9) scLaw.nd rfl (Or.inr rfl) (pe_call (E := E0) GN (hr.mono (by decide)) (by rfl) L.N.g L.N.F.kp L.N.b .nil pass0 (pa_cons (pv 6) (pa_cons (pe_ix ix_list (pe_lst (pa_cons pe_int (pa_cons pe_int pa_nil))) (pe_call (E := E0) GN (hr.mono (by decide)) (by rfl) L.N.g L.N.F.kp L.N.b .nil pass0 (pa_cons (pv 6) (pa_cons pe_int pa_nil))) (fun _ _ => rfl)) pa_nil))))
          (pss_cons (ps_asg (pe_tup (pa_cons (pe_call (E := E0) GE (hr.mono (by decide)) (by rfl) L.E.g L.E.F.kp L.E.b .nil pass0 (pa_cons (pv 6) (pa_cons (pv 9) pa_nil))) (pa_cons (pe_call (E := E0) GE (hr.mono (by decide)) (by rfl) L.E.g L.E.F.kp L.E.b .nil pass0 (pa_cons (pv 6) (pa_cons (pv 9) pa_nil))) (pa_cons (pe_call (E := E0) GE (hr.mono (by decide)) (by rfl) L.E.g L.E.F.kp L.E.b .nil pass0 (pa_cons (pv 6) (pa_cons (pv 9) pa_nil))) pa_nil)))) (pg_tup rfl (pgs_cons (pg_name (i := 7) scLaw.nd rfl (.inr rfl)) (pgs_cons (pg_name (i := 8) scLaw.nd rfl (.inr rfl)) (pgs_cons (pg_name (i := 2) scLaw.nd rfl (.inl rfl)) pgs_nil)))))
          (pss_cons (ps_set (i := 3) scLaw.nd rfl (Or.inl rfl) (pe_op op_mul (pe_op op_sub (pe_op op_pow pe_int pe_int) (pe_call (E := E0) GN (hr.mono (by decide)) (by rfl) L.N.g L.N.F.kp L.N.b .nil pass0 (pa_cons (pv 6) (pa_cons (pe_op op_pow pe_int pe_int) pa_nil)))) (pe_op op_sub pe_int (pe_op op_mul pe_int (pe_call (E := E0) GN (hr.mono (by decide)) (by rfl) L.N.g L.N.F.kp L.N.b .nil pass0 (pa_cons (pv 6) (pa_cons pe_int pa_nil)))))))
          (pss_cons (ps_if (pt_not (pt_val (pe_call (E := E0) GQ (hr.mono (by decide)) (by rfl) L.Q.g L.Q.F.kp L.Q.b .nil pass0 (pa_cons (pv 7) (pa_cons (pv 8) (pa_cons (pv 2) (pa_cons (pv 3) pa_nil))))))) pss_never pss_nil)
          (pss_cons (ps_set (i := 5) scLaw.nd rfl (Or.inr rfl) (pe_ix ix_list (pe_lst (pa_cons (pe_op op_catA (pv 7) (pe_tup (pa_cons (pe_op op_add (pv 9) pe_int) pa_nil))) (pa_cons (pe_tup (pa_cons pe_int pa_nil)) (pa_cons (pe_op op_catA (pv 7) (pe_tup (pa_cons pe_int (pa_cons pe_int pa_nil)))) (pa_cons (pe_op op_catA (pe_tup (pa_cons (pe_un un_neg pe_int) pa_nil)) (pv 7)) (pa_cons (pe_op op_catA (pv 7) (pe_tup (pa_cons pe_int (pa_cons pe_int (pa_cons pe_int pa_nil))))) pa_nil)))))) (pe_call (E := E0) GN (hr.mono (by decide)) (by rfl) L.N.g L.N.F.kp L.N.b .nil pass0 (pa_cons (pv 6) (pa_cons pe_int pa_nil))) (fun _ _ => rfl)))
          (pss_cons (ps_set (i := 4) scLaw.nd rfl (Or.inl rfl) (pe_lst (pa_cons (pe_lamK0 (js := [5, 8]) LT (lb1 T L)) (pa_cons (pe_lamK1 (js := [5, 7]) LT (lb2 T L) hbn2) (pa_cons (pe_lamK1 (js := [5]) LT (lb3 T L) hbn3) pa_nil)))))
          (pss_cons (ps_expr (pe_bm PySem.F.plainAttrs_list PySem.F.slot_list_extend PySem.F.type_list_extend mt_extend (pv 4) <| pa_one  (pe_lst (pa_cons (pe_lamK0 (js := [5]) LT (lb4 T L)) (pa_cons (pe_lamK1 (js := [5]) LT (lb5 T L) hbn5) (pa_cons (pe_lamK1 (js := [5]) LT (lb6 T L) hbn6) pa_nil))))))
          (pss_cons (ps_if (pt_cmpR (op_neQ hr.units) (pe_lcI (own := [("_law_call", 10)]) (g := gName 10) (tt := fun _ => tYes) rfl scLaw.nd (pi_list (pv 4)) (blkOk_by (N := nLaw) (sc := defScope sLaw) (by decide +kernel)) (fun _ _ _ _ _ => pg_name (i := 10) scLaw.nd rfl (Or.inl rfl)) (fun _ _ _ _ _ _ _ => pts_nil) (fun _ _ _ _ _ _ B0 => pe_errBlk (i := 10) GX hr (fun _ => rfl) B0 (by rfl) L.X.g L.X.F.kp (pv 10))) (pe_op op_rep (pe_lst (pa_cons (pe_tup (pa_cons pe_str pa_nil)) pa_nil)) pe_int) (nomark _)) pss_never pss_nil)
          (pss_cons (ps_if (pt_cmpR (op_neQ hr.units) (pe_errLam GX hr (by rfl) L.X.g L.X.F.kp far0 (pe_lamK0 (js := [6, 7, 9]) LT (lb7 T L))) (pe_tup (pa_cons pe_str pa_nil)) (nomark _)) pss_never pss_nil)
          (pss_one (ps_if (pt_cmpR (op_neQ hr.units) (pe_lcI (own := [("_law_k", 11)]) (g := gName 11) (tt := fun _ => tYes) (te := fun _ => tErrL K (lawT Pt) [11, 7] (tl8 K CE CC) CS C0 C1 CC C3 C4 C5 C6 CE CD C9 C10 C11 C12 C13 C14) rfl scLaw.nd (pi_tup (pe_tup (pa_cons (pe_op op_add (pe_op op_pow pe_int pe_int) pe_int) (pa_cons (pe_op op_sub (pe_op op_sub pe_int (pe_op op_pow pe_int pe_int)) pe_int) pa_nil)))) (blkOk_by (N := nLaw) (sc := defScope sLaw) (by decide +kernel)) (fun _ _ _ _ _ => pg_name (i := 11) scLaw.nd rfl (Or.inr rfl)) (fun _ _ _ _ _ _ _ => pts_nil) (fun σ1 s1 H1 D1 cl1 fp1 B0 => pe_errLam (X := (cxOf CX0 P w K mg base nLaw "law" (defScope sLaw) f (.ref c) A outer s H E).nox.blk s1 H1 _ (compEnvC _ cl1 D1 _) fp1) GX hr (by rfl) L.X.g L.X.F.kp (fun _ _ _ _ _ => far_blk (X := (cxOf CX0 P w K mg base nLaw "law" (defScope sLaw) f (.ref c) A outer s H E).nox) (C := D1) B0 (fun _ => rfl)) (pe_lamK0 (js := [11, 7]) ⟨TB, rfl, List.mem_singleton.mpr rfl, fun p hp _ => by rw [List.mem_singleton.mp hp]; rfl⟩ (lb8 T L)))) (pe_op op_rep (pe_lst (pa_cons (pe_tup (pa_cons pe_str pa_nil)) pa_nil)) pe_int) (nomark _)) pss_never pss_nil))))))))))))
          (pss_one (ps_ret pe_bl)))), ?_⟩
    -- the source
    refine ⟨.ref a, rfl, a, ns, 5, rfl, hA, hl, fun H1 h l LH sm nh nl => ?_⟩
    refine ⟨2, rfl, by omega, by omega, ?_⟩
    refine for_range (lo := 0) (n := (2 : Int).toNat) (fun i σ H' => (∃ x0 x1 x2 x3 x4 x5 x7 x8 x9 x10 x11, σ = [x0, x1, x2, x3, x4, x5, some (.ref h), x7, x8, x9, x10, x11]) ∧ LS (lawT Pt) h l H')
      ⟨⟨_, _, _, _, _, _, _, _, _, _, _, rfl⟩, LH, hT.ext sm⟩ (fun i σ H2 hi ⟨⟨x0, x1, x2, x3, x4, x5, x7, x8, x9, x10, x11, es⟩, S2⟩ => ?_) (fun σ H2 _ => q _)
    subst es
    clear LH sm nh nl hT hA H1
    -- the size
    refine ⟨.ref h, rfl, (by show 2 ≤ sizeLine; decide), fun p0 hp0 => ⟨.ref h, rfl, ?_⟩⟩
    have S3 := S2.s (same_upd (o := .lst [.int 6, .int 41]) hp0)
    have k3 : (upd H2 p0 (.lst [.int 6, .int 41])) p0 = some (.lst [.int 6, .int 41]) := upd_same
    generalize upd H2 p0 (.lst [.int 6, .int 41]) = H3 at S3 k3
    have hp1 : p0 ≠ h ∧ p0 ≠ l := by
      obtain ⟨m, ii, cs, e1, e2, e3⟩ := S2.law.ex
      exact ⟨(ne_of_none e1 hp0).symm, (ne_of_none e2 hp0).symm⟩
    clear S2 hp0
    show qNext _ _ _ _
    refine go_next S3.law (by decide) (by decide) fun r H4 hr4 L4 x4 => ?_
    have S4 := S3.x L4 x4
    have k4 : H4 p0 = some (.lst [.int 6, .int 41]) := x4 _ _ hp1.1 hp1.2 k3
    obtain ⟨lim, hl0, hl1, hat⟩ : ∃ lim : Int, 0 < lim ∧ lim ≤ 41 ∧ atI [V.int 6, V.int 41] (r : Nat) = some (.int lim) := by
      have : r = 0 ∨ r = 1 := by omega
      rcases this with rfl | rfl
      · exact ⟨6, by decide, by decide, rfl⟩
      · exact ⟨41, by decide, by decide, rfl⟩
    refine ⟨p0, _, _, _, rfl, rfl, .inl (.inl k4), hat, ?_⟩
    clear k4 k3
    show qNext _ _ _ _
    refine go_next S4.law hl0 (by have : (41 : Int) < 2 ^ 64 := by decide
                                  omega) fun n H5 hn L5 x5 => ?_
    have S5 := S4.x L5 x5
    have hn40 : n ≤ 40 := by omega
    clear S4 S3 x5 x4 L4 L5
    -- three effects
    refine ⟨.ref h, rfl, .int (n : Nat), rfl, go_effect S5.law (by omega) fun e H6 a1 he el L6 x6 k6 => ?_⟩
    have S6 := S5.x L6 x6
    have A6 : At K H6 a1 e := At.new k6
    refine ⟨.ref h, rfl, .int (n : Nat), rfl, go_effect S6.law (by omega) fun g H7 b1 hg gl L7 x7 k7 => ?_⟩
    have S7 := S6.x L7 x7
    have A7 := A6.ext (ExtL.x S6.law x7)
    have B7 : At K H7 b1 g := At.new k7
    refine ⟨.ref h, rfl, .int (n : Nat), rfl, go_effect S7.law (by omega) fun t H8 c1 ht tl L8 x8 k8 => ?_⟩
    have S8 := S7.x L8 x8
    have A8 := A7.ext (ExtL.x S7.law x8)
    have B8 := B7.ext (ExtL.x S7.law x8)
    have C8 : At K H8 c1 t := At.new k8
    clear S5 S6 S7 L6 L7 L8 x6 x7 x8 A6 A7 B7 k6 k7 k8
    refine ⟨(by show 3 ≤ sizeLine; decide), fun p9 hp9 => ?_⟩
    refine ⟨p9, [.ref a1, .ref b1, .ref c1], rfl, .inl (.inl upd_same), rfl, _, _, rfl, _, _, rfl, _, _, rfl, rfl, ?_⟩
    have m9 : Same H8 (upd H8 p9 (.tup [.ref a1, .ref b1, .ref c1])) := same_upd hp9
    generalize upd H8 p9 (.tup [.ref a1, .ref b1, .ref c1]) = H9 at m9 ⊢
    have S9 := S8.s m9
    have A9 := A8.same m9
    have B9 := B8.same m9
    have C9 := C8.same m9
    clear S8 A8 B8 C8 m9 hp9
    -- far
    refine ⟨10, 18, rfl, rfl, ⟨by decide, by decide, by decide⟩, .ref h, rfl, 10, 6, rfl, rfl, ⟨by decide, by decide, by decide⟩, ?_⟩
    show qNext _ _ _ _
    refine go_next S9.law (by decide) (by decide) fun r1 H10 hr1 L10 x10 => ⟨_, _, rfl, rfl, .ref h, rfl, ?_⟩
    have S10 := S9.x L10 x10
    have A10 := A9.ext (ExtL.x S9.law x10)
    have B10 := B9.ext (ExtL.x S9.law x10)
    have C10 := C9.ext (ExtL.x S9.law x10)
    clear S9 A9 B9 C9
    show qNext _ _ _ _
    refine go_next S10.law (by decide) (by decide) fun r2 H11 hr2 L11 x11 => ⟨2, (r2 : Nat), rfl, rfl, .inl ⟨by decide, by decide⟩, 1, _, rfl, rfl, _, _, rfl, rfl, ?_, ?_⟩
    · refine .inr ⟨?_, ?_⟩
      · have : (-(2 ^ 64) : Int) < -100 := by decide
        omega
      · have : (100 : Int) < 2 ^ 64 := by decide
        omega
    have S11 := S10.x L11 x11
    have A11 := A10.ext (ExtL.x S10.law x11)
    have B11 := B10.ext (ExtL.x S10.law x11)
    have C11 := C10.ext (ExtL.x S10.law x11)
    clear S10 A10 B10 C10
    obtain ⟨far, hfar⟩ : ∃ far : Int, ((10 : Int) ^ (18 : Int).toNat - (r1 : Nat)) * (1 - 2 * (r2 : Nat)) = far := ⟨_, rfl⟩
    have cfar : CtOk far := by
      have e18 : (10 : Int) ^ (18 : Int).toNat = 1000000000000000000 := by decide
      have e6 : (10 : Int) ^ (6 : Int).toNat = 1000000 := by decide
      rw [e6] at hr1
      rw [e18] at hfar
      have : r2 = 0 ∨ r2 = 1 := by omega
      rcases this with rfl | rfl
      · have e : (1 : Int) - 2 * ((0 : Nat) : Int) = 1 := by decide
        rw [e, Int.mul_one] at hfar
        exact ⟨by omega, by omega⟩
      · have e : (1 : Int) - 2 * ((1 : Nat) : Int) = -1 := by decide
        rw [e] at hfar
        exact ⟨by omega, by omega⟩
    show tSeq _ _ _ (List.set _ 3 (some (.int (((10 : Int) ^ (18 : Int).toNat - (r1 : Nat)) * (1 - 2 * (r2 : Nat)))))) _
    rw [hfar]
    clear hfar x10 x11 L10 L11 hr1 hr2
    -- right
    refine ⟨.ref a1, rfl, .ref b1, rfl, .ref c1, rfl, .int far, rfl, ?_⟩
    show qRight K _ _ _ _
    refine go_right A11 B11 C11 he hg ht (by omega) (by omega) (by omega) cfar fun H12 m12 => ⟨true, rfl, iteF ?_⟩
    have S12 := S11.s m12
    have A12 := A11.same m12
    have B12 := B11.same m12
    clear S11 A11 B11 C11 m12
    have nl40 : (nInts e).length ≤ 40 := by rw [ints_len]; omega
    -- what is bad
    refine ⟨.ref a1, rfl, .int (n : Nat), rfl, n, 1, rfl, rfl, (by show 1 ≤ sizeLine; decide), fun p13 hp13 => ?_⟩
    have m13 : Same H12 (upd H12 p13 (.tup [.int ((n : Nat) + 1)])) := same_upd hp13
    have P13 : AtI K (upd H12 p13 (.tup [.int ((n : Nat) + 1)])) p13 [(n : Int) + 1] := ⟨.inl (.inl upd_same)⟩
    generalize upd H12 p13 (.tup [.int ((n : Nat) + 1)]) = H13 at m13 P13 ⊢
    show rCatA K _ _ _ _
    refine go_cat (A12.same m13).i P13 (by show (nInts e).length + 1 ≤ 1000; omega) fun H14 q1 m14 Q14 => ?_
    have M14 := m13.trans m14
    refine ⟨(by show 1 ≤ sizeLine; decide), fun q2 hq2 => ?_⟩
    have m15 : Same H14 (upd H14 q2 (.tup [.int 1])) := same_upd hq2
    have Q15 : AtI K (upd H14 q2 (.tup [.int 1])) q2 [1] := ⟨.inl (.inl upd_same)⟩
    generalize upd H14 q2 (.tup [.int 1]) = H15 at m15 Q15 ⊢
    have M15 := M14.trans m15
    refine ⟨.ref a1, rfl, (by show 2 ≤ sizeLine; decide), fun p16 hp16 => ?_⟩
    have m16 : Same H15 (upd H15 p16 (.tup [.int 0, .int 0])) := same_upd hp16
    have P16 : AtI K (upd H15 p16 (.tup [.int 0, .int 0])) p16 [0, 0] := ⟨.inl (.inl upd_same)⟩
    generalize upd H15 p16 (.tup [.int 0, .int 0]) = H16 at m16 P16 ⊢
    show rCatA K _ _ _ _
    refine go_cat (A12.same (M15.trans m16)).i P16 (by show (nInts e).length + 2 ≤ 1000; omega) fun H17 q3 m17 Q17 => ?_
    have M17 := (M15.trans m16).trans m17
    refine ⟨1, rfl, (by show 1 ≤ sizeLine; decide), fun p18 hp18 => ⟨.ref a1, rfl, ?_⟩⟩
    have m18 : Same H17 (upd H17 p18 (.tup [.int (-1)])) := same_upd hp18
    have P18 : AtI K (upd H17 p18 (.tup [.int (-1)])) p18 [-1] := ⟨.inl (.inl upd_same)⟩
    generalize upd H17 p18 (.tup [.int (-1)]) = H18 at m18 P18 ⊢
    show rCatA K _ _ _ _
    refine go_cat P18 (A12.same (M17.trans m18)).i (by show 1 + (nInts e).length ≤ 1000; omega) fun H19 q4 m19 Q19 => ?_
    have M19 := (M17.trans m18).trans m19
    refine ⟨.ref a1, rfl, (by show 3 ≤ sizeLine; decide), fun p20 hp20 => ?_⟩
    have m20 : Same H19 (upd H19 p20 (.tup [.int 0, .int 0, .int 1])) := same_upd hp20
    have P20 : AtI K (upd H19 p20 (.tup [.int 0, .int 0, .int 1])) p20 [0, 0, 1] := ⟨.inl (.inl upd_same)⟩
    generalize upd H19 p20 (.tup [.int 0, .int 0, .int 1]) = H20 at m20 P20 ⊢
    show rCatA K _ _ _ _
    refine go_cat (A12.same (M19.trans m20)).i P20 (by show (nInts e).length + 3 ≤ 1000; omega) fun H21 q5 m21 Q21 => ?_
    have M21 := (M19.trans m20).trans m21
    have k1 : AtI K H21 q1 (nInts e ++ [(n : Int) + 1]) := Q14.ext (.s (((((m15.trans m16).trans m17).trans m18).trans m19).trans (m20.trans m21)))
    have k2 : AtI K H21 q2 [1] := Q15.ext (.s ((((m16.trans m17).trans m18).trans m19).trans (m20.trans m21)))
    have k3 : AtI K H21 q3 (nInts e ++ [0, 0]) := Q17.ext (.s ((m18.trans m19).trans (m20.trans m21)))
    have k4 : AtI K H21 q4 ([-1] ++ nInts e) := Q19.ext (.s (m20.trans m21))
    refine ⟨(by show 5 ≤ sizeLine; decide), fun D22 hD22 => ⟨.ref h, rfl, ?_⟩⟩
    have m22 : Same H21 (upd H21 D22 (.lst [.ref q1, .ref q2, .ref q3, .ref q4, .ref q5])) := same_upd hD22
    have d22 : (upd H21 D22 (.lst [.ref q1, .ref q2, .ref q3, .ref q4, .ref q5])) D22 = some (.lst [.ref q1, .ref q2, .ref q3, .ref q4, .ref q5]) := upd_same
    have n22 : D22 ≠ h ∧ D22 ≠ l := by
      obtain ⟨m, ii, cs, e1, e2, e3⟩ := S12.law.ex
      exact ⟨(ne_of_none (M21 _ _ e1) hD22).symm, (ne_of_none (M21 _ _ e2) hD22).symm⟩
    generalize upd H21 D22 (.lst [.ref q1, .ref q2, .ref q3, .ref q4, .ref q5]) = H22 at m22 d22 ⊢
    have S22 := S12.s (M21.trans m22)
    have A22 := A12.same (M21.trans m22)
    have B22 := B12.same (M21.trans m22)
    show qNext _ _ _ _
    refine go_next S22.law (by decide) (by decide) fun r H23 hr23 L23 x23 => ?_
    have S23 := S22.x L23 x23
    have E23 := (ExtL.s m22).trans (ExtL.x S22.law x23)
    have A23 := A22.ext (ExtL.x S22.law x23)
    have B23 := B22.ext (ExtL.x S22.law x23)
    have d23 := x23 _ _ n22.1 n22.2 d22
    obtain ⟨bad, bs, hb, lb, nb, hat⟩ : ∃ (bad : Addr) (bs : List Int), AtI K H23 bad bs ∧ bs.length ≤ 63 ∧ ¬ EffI bs ∧ atI [V.ref q1, V.ref q2, V.ref q3, V.ref q4, V.ref q5] (r : Nat) = some (.ref bad) := by
      have : r = 0 ∨ r = 1 ∨ r = 2 ∨ r = 3 ∨ r = 4 := by omega
      rcases this with rfl | rfl | rfl | rfl | rfl
      · refine ⟨q1, _, k1.ext E23, ?_, ?_, rfl⟩
        · rw [List.length_append]
          show (nInts e).length + 1 ≤ 63
          omega
        · rw [← el]
          exact bad1 e
      · exact ⟨q2, _, k2.ext E23, by decide, bad2, rfl⟩
      · refine ⟨q3, _, k3.ext E23, ?_, bad3 e, rfl⟩
        rw [List.length_append]
        show (nInts e).length + 2 ≤ 63
        omega
      · refine ⟨q4, _, k4.ext E23, ?_, bad4 e, rfl⟩
        rw [List.length_append]
        show 1 + (nInts e).length ≤ 63
        omega
      · refine ⟨q5, _, Q21.ext E23, ?_, bad5 e, rfl⟩
        rw [List.length_append]
        show (nInts e).length + 3 ≤ 63
        omega
    refine ⟨D22, _, _, _, rfl, rfl, .inl (.inl d23), hat, ?_⟩
    clear k1 k2 k3 k4 Q14 Q15 Q17 Q19 Q21 P13 P16 P18 P20 M14 M15 M17 M19 M21 m13 m14 m15 m16 m17 m18 m19 m20 m21 m22 d22 n22 d23 S12 S22 A12 A22 B12 B22 hat E23 x23 L23
    -- the works
    refine ⟨S23.tabs, fun f1 H24 x24 v24 t24 nf1 is1 => ⟨t24, fun f2 H25 x25 v25 t25 nf2 is2 => ⟨t25, fun f3 H26 x26 v26 t26 nf3 is3 => ⟨(by show 3 ≤ sizeLine; decide), fun W hW => ?_⟩⟩⟩⟩
    have S26 := ((S23.e x24 t24).e x25 t25).e x26 t26
    have E26 := ((ExtL.n x24).trans (.n x25)).trans (.n x26)
    have nW : W ≠ h ∧ W ≠ l := by
      obtain ⟨m, ii, cs, e1, e2, e3⟩ := S26.law.ex
      exact ⟨(ne_of_none e1 hW).symm, (ne_of_none e2 hW).symm⟩
    have m27 : Same H26 (upd H26 W (.lst [.ref f1, .ref f2, .ref f3])) := same_upd hW
    have d27 : (upd H26 W (.lst [.ref f1, .ref f2, .ref f3])) W = some (.lst [.ref f1, .ref f2, .ref f3]) := upd_same
    generalize upd H26 W (.lst [.ref f1, .ref f2, .ref f3]) = H27 at m27 d27 ⊢
    have S27 := S26.s m27
    have E27 := E26.trans (.s m27)
    have is1 := is1.extL (((ExtL.n x25).trans (.n x26)).trans (.s m27))
    have is2 := is2.extL ((ExtL.n x26).trans (.s m27))
    have is3 := is3.extL (.s m27)
    clear S26 E26 x24 x25 x26 v24 v25 v26 t24 t25 t26 nf1 nf2 nf3 m27 hW
    refine ⟨.ref W, rfl, .inl ⟨rfl, _, .inl (.inl d27)⟩, S27.tabs, fun f4 H28 x28 v28 t28 nf4 is4 => ⟨t28, fun f5 H29 x29 v29 t29 nf5 is5 => ⟨t29, fun f6 H30 x30 v30 t30 nf6 is6 => ⟨(by show 3 ≤ sizeLine; decide), fun q31 hq31 => ?_⟩⟩⟩⟩
    have S30 := ((S27.e x28 t28).e x29 t29).e x30 t30
    have E30 := ((ExtL.n x28).trans (.n x29)).trans (.n x30)
    have d30 := x30 _ _ (x29 _ _ (x28 _ _ d27 (fun _ z => nomatch z)) (fun _ z => nomatch z)) (fun _ z => nomatch z)
    have Wq : W ≠ q31 := ne_of_none d30 hq31
    have m31 : Same H30 (upd H30 q31 (.lst [.ref f4, .ref f5, .ref f6])) := same_upd hq31
    have d31 := m31 _ _ d30
    refine ⟨W, q31, _, _, rfl, rfl, d31, upd_same, (by show 3 + 3 ≤ sizeLine; decide), ?_⟩
    generalize upd H30 q31 (.lst [.ref f4, .ref f5, .ref f6]) = H31 at m31 d31 ⊢
    have S32 := (S30.s m31).u (o := .lst ([V.ref f1, V.ref f2, V.ref f3] ++ [V.ref f4, V.ref f5, V.ref f6])) d31 nW.1 nW.2
    have u32 : ExtL H31 (upd H31 W (.lst ([V.ref f1, V.ref f2, V.ref f3] ++ [V.ref f4, V.ref f5, V.ref f6]))) := ExtL.upd d31
    have d32 : (upd H31 W (.lst ([V.ref f1, V.ref f2, V.ref f3] ++ [V.ref f4, V.ref f5, V.ref f6]))) W = some (.lst [.ref f1, .ref f2, .ref f3, .ref f4, .ref f5, .ref f6]) := upd_same
    generalize upd H31 W (.lst ([V.ref f1, V.ref f2, V.ref f3] ++ [V.ref f4, V.ref f5, V.ref f6])) = H32 at S32 u32 d32 ⊢
    have s32 : ExtL H30 H32 := (ExtL.s m31).trans u32
    have is1 := is1.extL (E30.trans s32)
    have is2 := is2.extL (E30.trans s32)
    have is3 := is3.extL (E30.trans s32)
    have is4 := is4.extL (((ExtL.n x29).trans (.n x30)).trans s32)
    have is5 := is5.extL ((ExtL.n x30).trans s32)
    have is6 := is6.extL s32
    have E32 := (E27.trans E30).trans s32
    have A32 := A23.ext E32
    have B32 := B23.ext E32
    have hb := hb.ext E32
    clear E27 E30 s32 u32 m31 d31 d30 Wq x28 x29 x30 v28 v29 v30 t28 t29 t30 nf4 nf5 nf6 hq31 S27 S30 d27 E32 A23 B23 S23 hr23
    -- their errors
    refine ⟨.ref W, rfl, W, rfl, ⟨_, .inl (.inl d32)⟩, fun D33 hD33 => ?_⟩
    refine lc_list (xs := [.ref f1, .ref f2, .ref f3, .ref f4, .ref f5, .ref f6]) (fun i H' => ExtN H32 H' ∧ Tabs (lawT Pt) H' ∧ ∃ ps : List Addr, ps.length = i ∧ H' D33 = some (.lst (ps.map V.ref)) ∧ ∀ p ∈ ps, H' p = some (.tup [.str "effect"]))
      ⟨extN_same (same_upd hD33), S32.tabs.ext (same_upd hD33), [], rfl, upd_same, fun p hp => (List.not_mem_nil hp).elim⟩ (fun i H' _ h => .inl (.inl (h.1 _ _ d32 (fun _ z => nomatch z)))) (fun i x H' hx ⟨e33, t33, ps, hps, hd, hpp⟩ => ?_) (fun H' ⟨e33, t33, ps, hps, hd, hpp⟩ => ?_)
    · have hi6 : i < 6 := (List.getElem?_eq_some_iff.mp hx).1
      have st := comp_step (nm := "effect") hD33 e33 t33 hps hd hpp (by omega)
      have L33 := ExtL.n e33
      have hb3 := hb.ext L33
      have A3 := A32.ext L33
      have B3 := B32.ext L33
      refine ⟨rfl, yes_go ?_⟩
      have hbl : bs.length ≤ 1000 := by omega
      have gl1 : (nInts g).length ≤ 1000 := by rw [ints_len]; omega
      have el1 : (nInts e).length ≤ 1000 := by omega
      have hc6 : i = 0 ∨ i = 1 ∨ i = 2 ∨ i = 3 ∨ i = 4 ∨ i = 5 := by omega
      rcases hc6 with h0 | h0 | h0 | h0 | h0 | h0
      · rw [h0] at hx
        obtain rfl := Option.some.inj hx
        exact ⟨f1, [5, 8], tl1 K CE CD, rfl, is1.extL L33, bad, b1, rfl, no_compose1 hb3 B3.i hbl gl1 nb (errE_of AE.ex st)⟩
      · rw [h0] at hx
        obtain rfl := Option.some.inj hx
        exact ⟨f2, [5, 7], tl2 K CE CD, rfl, is2.extL L33, bad, a1, rfl, no_compose2 A3.i hb3 el1 hbl (effI_ints he) nb (errE_of AE.ex st)⟩
      · rw [h0] at hx
        obtain rfl := Option.some.inj hx
        exact ⟨f3, [5], tl3 K CE, rfl, is3.extL L33, bad, rfl, no_invert hb3 hbl nb (errE_of AE.ex st)⟩
      · rw [h0] at hx
        obtain rfl := Option.some.inj hx
        exact ⟨f4, [5], tl4 K CE CC, rfl, is4.extL L33, bad, rfl, no_repeat1 hb3 hbl nb (errE_of AE.ex st)⟩
      · rw [h0] at hx
        obtain rfl := Option.some.inj hx
        exact ⟨f5, [5], tl5 K CE, rfl, is5.extL L33, bad, rfl, no_cycles hb3 hbl nb (errE_of AE.ex st)⟩
      · rw [h0] at hx
        obtain rfl := Option.some.inj hx
        exact ⟨f6, [5], tl6 K CE, rfl, is6.extL L33, bad, rfl, no_order hb3 lb nb (errE_of AE.ex st)⟩
    have S33 : LS (lawT Pt) h l H' := S32.e e33 t33
    have A33 := A32.ext (ExtL.n e33)
    clear S32 A32 B32 hb is1 is2 is3 is4 is5 is6 e33 t33 hD33 d32
    refine ⟨(by show 1 ≤ sizeLine; decide), fun t34 ht34 => ⟨(by show 1 ≤ sizeLine; decide), fun u34 hu34 => ?_⟩⟩
    refine ⟨u34, 6, _, rfl, rfl, upd_same, by omega, by omega, (by show 1 * 6 ≤ sizeLine; decide), fun v34 hv34 => ?_⟩
    have m34 : Same H' (upd H' t34 (.tup [.str "effect"])) := same_upd ht34
    have k34 : (upd H' t34 (.tup [.str "effect"])) t34 = some (.tup [.str "effect"]) := upd_same
    generalize upd H' t34 (.tup [.str "effect"]) = H34 at m34 k34 hu34 hv34 ⊢
    have m35 : Same H34 (upd H34 u34 (.lst [.ref t34])) := same_upd hu34
    generalize upd H34 u34 (.lst [.ref t34]) = H35 at m35 hv34 ⊢
    have m36 : Same H35 (upd H35 v34 (.lst (List.replicate (6 : Int).toNat [V.ref t34]).flatten)) := same_upd hv34
    have k36 : (upd H35 v34 (.lst (List.replicate (6 : Int).toNat [V.ref t34]).flatten)) v34 = some (.lst ((List.replicate 6 t34).map V.ref)) := upd_same
    generalize upd H35 v34 (.lst (List.replicate (6 : Int).toNat [V.ref t34]).flatten) = H36 at m36 k36 ⊢
    have M36 := (m34.trans m35).trans m36
    show qNe K _ _ _ _
    refine ne_wl (nm := "effect") (n := 6) (M36 _ _ hd) (fun p hp => M36 _ _ (hpp p hp)) hps k36 (fun p hp => ?_) rfl (by decide +kernel) ⟨false, rfl, iteF ?_⟩
    · rw [(List.mem_replicate.mp hp).2]
      exact (m35.trans m36) _ _ k34
    have S36 := S33.s M36
    have A36 := A33.same M36
    clear S33 A33 M36 m34 m35 m36 k34 k36 hd hps hpp ht34 hu34 hv34
    -- other sizes
    refine ⟨S36.tabs, fun H37 e37 v37 t37 => ⟨h, a1, (n : Nat), rfl, ?_⟩⟩
    have S37 := S36.e e37 t37
    have A37 := A36.ext (ExtL.n e37)
    show qEffect [.ref h, .int ((n + 1 : Nat) : Int)] _ _ _
    refine go_effect S37.law (by omega) fun e2 H38 p38 he2 el2 L38 x38 k38 => ?_
    have S38 := S37.x L38 x38
    have A38 := A37.ext (ExtL.x S37.law x38)
    refine no_compose3 A38 (At.new k38) he he2 (by omega) (by omega) (by omega) (errE_of AD.ex fun H39 p39 m39 hp39 k39 => ?_)
    refine ⟨(by show 1 ≤ sizeLine; decide), fun t40 ht40 => ?_⟩
    show qNe K _ _ _ _
    refine ne_w (nm := "sizes") ((same_upd ht40) _ _ k39) upd_same (by decide +kernel) ⟨false, rfl, iteF ?_⟩
    have S40 := S38.s (m39.trans (same_upd (o := .tup [.str "sizes"]) ht40))
    have A40 := A38.same (m39.trans (same_upd (o := .tup [.str "sizes"]) ht40))
    generalize upd H39 t40 (.tup [.str "sizes"]) = H40 at S40 A40 ⊢
    clear S36 S37 S38 A36 A37 A38 e37 v37 t37 k38 x38 L38 m39 k39 hp39 ht40
    -- counts
    refine ⟨10, 18, rfl, rfl, ⟨by decide, by decide, by decide⟩, _, 1, rfl, rfl, 10, 18, rfl, rfl, ⟨by decide, by decide, by decide⟩, 0, _, rfl, rfl, _, 1, rfl, rfl, (by show 2 ≤ sizeLine; decide), fun t41 ht41 => ?_⟩
    have m41 : Same H40 (upd H40 t41 (.tup [.int ((10 : Int) ^ (18 : Int).toNat + 1), .int (0 - (10 : Int) ^ (18 : Int).toNat - 1)])) := same_upd ht41
    have k41 : (upd H40 t41 (.tup [.int ((10 : Int) ^ (18 : Int).toNat + 1), .int (0 - (10 : Int) ^ (18 : Int).toNat - 1)])) t41 = some (.tup [.int ((10 : Int) ^ (18 : Int).toNat + 1), .int (0 - (10 : Int) ^ (18 : Int).toNat - 1)]) := upd_same
    generalize upd H40 t41 (.tup [.int ((10 : Int) ^ (18 : Int).toNat + 1), .int (0 - (10 : Int) ^ (18 : Int).toNat - 1)]) = H41 at m41 k41 ⊢
    have S41 := S40.s m41
    have A41 := A40.same m41
    clear S40 A40 m41 ht41
    refine ⟨t41, rfl, ⟨_, .inl (.inl k41)⟩, fun D42 hD42 => ?_⟩
    refine lc_tup (xs := [.int ((10 : Int) ^ (18 : Int).toNat + 1), .int (0 - (10 : Int) ^ (18 : Int).toNat - 1)]) (fun i H' => ExtN H41 H' ∧ Tabs (lawT Pt) H' ∧ ∃ ps : List Addr, ps.length = i ∧ H' D42 = some (.lst (ps.map V.ref)) ∧ ∀ p ∈ ps, H' p = some (.tup [.str "count"]))
      ⟨extN_same (same_upd hD42), S41.tabs.ext (same_upd hD42), [], rfl, upd_same, fun p hp => (List.not_mem_nil hp).elim⟩ (fun i H' _ h => .inl (.inl (h.1 _ _ k41 (fun _ z => nomatch z)))) (fun i x H' hx ⟨e43, t43, ps, hps, hd, hpp⟩ => ?_) (fun H' ⟨e43, t43, ps, hps, hd, hpp⟩ => ?_)
    · have hi2 : i < 2 := (List.getElem?_eq_some_iff.mp hx).1
      obtain ⟨k, rfl, hk⟩ : ∃ k : Int, x = .int k ∧ ¬ CtOk k := by
        have h01 : i = 0 ∨ i = 1 := by omega
        rcases h01 with h0 | h0
        · rw [h0] at hx
          obtain rfl := Option.some.inj hx
          exact ⟨_, rfl, by decide⟩
        · rw [h0] at hx
          obtain rfl := Option.some.inj hx
          exact ⟨_, rfl, by decide⟩
      refine ⟨rfl, yes_go ⟨t43, fun H1 e44 v44 t44 => ⟨k, a1, rfl, ?_⟩⟩⟩
      have d44 := e44 _ _ hd (fun _ z => nomatch z)
      have st := comp_step (nm := "count") hD42 (e43.trans e44) t44 hps d44 (fun p hp => e44 _ _ (hpp p hp) (fun _ z => nomatch z)) (by omega)
      exact no_repeat2 (A41.ext (ExtL.n (e43.trans e44))) he (by omega) hk (errE_of AC.ex st)
    have S43 : LS (lawT Pt) h l H' := S41.e e43 t43
    clear S41 A41 e43 t43 hD42 k41
    refine ⟨(by show 1 ≤ sizeLine; decide), fun t44 ht44 => ⟨(by show 1 ≤ sizeLine; decide), fun u44 hu44 => ?_⟩⟩
    refine ⟨u44, 2, _, rfl, rfl, upd_same, by omega, by omega, (by show 1 * 2 ≤ sizeLine; decide), fun v44 hv44 => ?_⟩
    have m44 : Same H' (upd H' t44 (.tup [.str "count"])) := same_upd ht44
    have k44 : (upd H' t44 (.tup [.str "count"])) t44 = some (.tup [.str "count"]) := upd_same
    generalize upd H' t44 (.tup [.str "count"]) = H44 at m44 k44 hu44 hv44 ⊢
    have m45 : Same H44 (upd H44 u44 (.lst [.ref t44])) := same_upd hu44
    generalize upd H44 u44 (.lst [.ref t44]) = H45 at m45 hv44 ⊢
    have m46 : Same H45 (upd H45 v44 (.lst (List.replicate (2 : Int).toNat [V.ref t44]).flatten)) := same_upd hv44
    have k46 : (upd H45 v44 (.lst (List.replicate (2 : Int).toNat [V.ref t44]).flatten)) v44 = some (.lst ((List.replicate 2 t44).map V.ref)) := upd_same
    generalize upd H45 v44 (.lst (List.replicate (2 : Int).toNat [V.ref t44]).flatten) = H46 at m46 k46 ⊢
    have M46 := (m44.trans m45).trans m46
    show qNe K _ _ _ _
    refine ne_wl (nm := "count") (n := 2) (M46 _ _ hd) (fun p hp => M46 _ _ (hpp p hp)) hps k46 (fun p hp => ?_) rfl (by decide +kernel) ⟨false, rfl, iteF ?_⟩
    · rw [(List.mem_replicate.mp hp).2]
      exact (m45.trans m46) _ _ k44
    exact ⟨⟨_, _, _, _, _, _, _, _, _, _, _, rfl⟩, S43.s M46⟩
end
end Sv


set_option maxHeartbeats 8000000
namespace Sv
open PySem PySem.Spec PyProof.Rows L2 LamX NdefX
/-! ### the end -/
theorem walk_ofTsX {l : PySem.W.OpenLaw} {n k : Nat} {q : Program} {loose : List Str} {XP : (Str → Option Value) → Heap → Prop} {YP : World → Heap → Prop} {d : DefRec} {K : Params → PySem.W.Frag} {CX : World → CXT} {x : Str}
    (hn : l.most = some n) (hn2 : n ≤ sizeLine) (hdf : d.params.defaults = []) (hr : Room k callerA) (hY : ∀ (w : World) (h : Heap), YP w h → (K w.params).In h)
    (F : ∀ (w : World) (mg : Str → Option Value) (fa : Addr) (h : Heap), XP mg h → YP w h → (K w.params).In h → h.Ns mainGlobals mg → mg d.name = some (.ref fa) → LawAtS l w (K w.params) (CX w) k n x mg fa h)
    (hCX : ∀ (w : World) (H : Hp) (s : Shared) (e : Value) (s' : Shared), CX w [] H s (fun _ _ _ => False) e s' → False) :
    PySem.W.WalkO q loose XP YP l.row.toRowW d [] (fun f vs => PySem.call f vs) := by
  refine Att.attach_callB hn hdf fun w s₀ s₁ mg mb fa o pm cd doc a vs ns G Y ho hd hcd hmg hobj hints hlen hbits hg => ?_
  have KX := hY w _ Y
  obtain ⟨fd, cs, sp, hT, nT, C, hb, hsp, hF⟩ := F w mg fa _ G.X Y KX G.T.g hmg
  exact law_callTs KX G.T.g G.T.b G.T.builtins G.T.nolimit hg hT nT C G.T.bmain hobj hints (Nat.le_trans hlen hn2) hr hF hb (fun H hH hS => hsp H a ns hlen hbits hH hS) fun H e s' => hCX w H s₁ e s'
theorem be_of {l : List V} {j : Nat} (h : (l.take j).all (fun z => !eqV z (.bl true)) = true) : ∀ (m : Nat) (z : V), m < j → l[m]? = some z → eqV z (.bl true) = false := fun m z hm hz => by
  have q := List.all_eq_true.mp h z (List.mem_of_getElem? (i := m) (by rw [List.getElem?_take, if_pos hm]; exact hz))
  simpa using q
section
variable {K : PySem.W.Frag} {h : Heap} {mg : Str → Option Value}
theorem df_mk {x : Str} {st : Stmt} {f : Addr} {oc : Value} {od an : Option Addr} {osl : Array (Option Value)} {kV doc pm cdv ct : Value} {ps : List Str} (X : K.In h) (G : h.Ns mainGlobals mg) (a : PySem.W.nsIn K mainGlobals x = some (some (.ref f)))
    (l : K.lookup f = some ⟨oc, od, .func (PySem.W.fnOf x x (defArgs st) (defBody st) (defScope st) .none kV doc pm an cdv ct), osl⟩) (c : PySem.W.codeIn K cdv x = true) (k : PySem.W.keepIn K (.ref f) = true)
    (b : ∀ (kV doc pm : Value) (an : Option Addr) (cdv ct : Value) (us : List Value), us.length = ps.length → bindArgs (PySem.W.fnOf x x (defArgs st) (defBody st) (defScope st) .none kV doc pm an cdv ct) ⟨us, []⟩ = pure (ps.zip us)) :
    Df K mg x st ps f (PySem.W.fnOf x x (defArgs st) (defBody st) (defScope st) .none kV doc pm an cdv ct) := ⟨fun_mk l c k, (fun_mk l c k).binds b, PySem.W.mg_of X G a⟩
/-- all that is asked of one of the classes that the law names -/
structure ErF (K : PySem.W.Frag) (CS C0 C1 C2 C3 C4 C5 C6 C7 C8 C9 C10 C11 C12 C13 C14 D : Addr) (b0 b1 b2 b3 b4 b5 b6 b7 b8 b9 b10 b11 b12 b13 b14 : Bool) : Prop where
  exc : ExcC K D
  ex : PySem.W.exmOne K (.ref D) (.ref CS) = some true
  ve : PySem.W.kitOne K (.ref D) (.type "ValueError") = some true
  k0 : PySem.W.kitOne K (.ref D) (.ref C0) = some b0
  k1 : PySem.W.kitOne K (.ref D) (.ref C1) = some b1
  k2 : PySem.W.kitOne K (.ref D) (.ref C2) = some b2
  k3 : PySem.W.kitOne K (.ref D) (.ref C3) = some b3
  k4 : PySem.W.kitOne K (.ref D) (.ref C4) = some b4
  k5 : PySem.W.kitOne K (.ref D) (.ref C5) = some b5
  k6 : PySem.W.kitOne K (.ref D) (.ref C6) = some b6
  k7 : PySem.W.kitOne K (.ref D) (.ref C7) = some b7
  k8 : PySem.W.kitOne K (.ref D) (.ref C8) = some b8
  k9 : PySem.W.kitOne K (.ref D) (.ref C9) = some b9
  k10 : PySem.W.kitOne K (.ref D) (.ref C10) = some b10
  k11 : PySem.W.kitOne K (.ref D) (.ref C11) = some b11
  k12 : PySem.W.kitOne K (.ref D) (.ref C12) = some b12
  k13 : PySem.W.kitOne K (.ref D) (.ref C13) = some b13
  k14 : PySem.W.kitOne K (.ref D) (.ref C14) = some b14
theorem era_effect {CS C0 C1 C2 C3 C4 C5 C6 C7 C8 C9 C10 C11 C12 C13 C14 : Addr} (F : ErF K CS C0 C1 C2 C3 C4 C5 C6 C7 C8 C9 C10 C11 C12 C13 C14 C7 false false false false false false false true false false false false false false false) : ErA K CS C0 C1 C2 C3 C4 C5 C6 C7 C8 C9 C10 C11 C12 C13 C14 C7 "effect" :=
  ⟨_, _, _, _, _, _, _, _, _, _, _, _, _, _, _, 7, ⟨F.exc, F.ex, F.ve, F.k0, F.k1, F.k2, F.k3, F.k4, F.k5, F.k6, F.k7, F.k8, F.k9, F.k10, F.k11, F.k12, F.k13, F.k14, rfl, rfl, be_of rfl, rfl, by decide, by decide⟩⟩
theorem era_sizes {CS C0 C1 C2 C3 C4 C5 C6 C7 C8 C9 C10 C11 C12 C13 C14 : Addr} (F : ErF K CS C0 C1 C2 C3 C4 C5 C6 C7 C8 C9 C10 C11 C12 C13 C14 C8 false false false false false false false false true false false false false false false) : ErA K CS C0 C1 C2 C3 C4 C5 C6 C7 C8 C9 C10 C11 C12 C13 C14 C8 "sizes" :=
  ⟨_, _, _, _, _, _, _, _, _, _, _, _, _, _, _, 8, ⟨F.exc, F.ex, F.ve, F.k0, F.k1, F.k2, F.k3, F.k4, F.k5, F.k6, F.k7, F.k8, F.k9, F.k10, F.k11, F.k12, F.k13, F.k14, rfl, rfl, be_of rfl, rfl, by decide, by decide⟩⟩
theorem era_count {CS C0 C1 C2 C3 C4 C5 C6 C7 C8 C9 C10 C11 C12 C13 C14 : Addr} (F : ErF K CS C0 C1 C2 C3 C4 C5 C6 C7 C8 C9 C10 C11 C12 C13 C14 C2 false false true false false false false false false false false false false false false) : ErA K CS C0 C1 C2 C3 C4 C5 C6 C7 C8 C9 C10 C11 C12 C13 C14 C2 "count" :=
  ⟨_, _, _, _, _, _, _, _, _, _, _, _, _, _, _, 2, ⟨F.exc, F.ex, F.ve, F.k0, F.k1, F.k2, F.k3, F.k4, F.k5, F.k6, F.k7, F.k8, F.k9, F.k10, F.k11, F.k12, F.k13, F.k14, rfl, rfl, be_of rfl, rfl, by decide, by decide⟩⟩
theorem all_mk {P : Program} {w : World} {fa : Addr} {fW : Addr} {ocW kVW dcW pmW cdW ctW : Value} {odW anW : Option Addr} {slW : Array (Option Value)}
    {fC : Addr} {ocC kVC dcC pmC cdC ctC : Value} {odC anC : Option Addr} {slC : Array (Option Value)}
    {fB : Addr} {ocB kVB dcB pmB cdB ctB : Value} {odB anB : Option Addr} {slB : Array (Option Value)}
    {fOO : Addr} {ocOO kVOO dcOO pmOO cdOO ctOO : Value} {odOO anOO : Option Addr} {slOO : Array (Option Value)}
    {fE : Addr} {ocE kVE dcE pmE cdE ctE : Value} {odE anE : Option Addr} {slE : Array (Option Value)}
    {fI : Addr} {ocI kVI dcI pmI cdI ctI : Value} {odI anI : Option Addr} {slI : Array (Option Value)}
    {fH : Addr} {ocH kVH dcH pmH cdH ctH : Value} {odH anH : Option Addr} {slH : Array (Option Value)}
    {fV : Addr} {ocV kVV dcV pmV cdV ctV : Value} {odV anV : Option Addr} {slV : Array (Option Value)}
    {fR : Addr} {ocR kVR dcR pmR cdR ctR : Value} {odR anR : Option Addr} {slR : Array (Option Value)}
    {fY : Addr} {ocY kVY dcY pmY cdY ctY : Value} {odY anY : Option Addr} {slY : Array (Option Value)}
    {fF : Addr} {ocF kVF dcF pmF cdF ctF : Value} {odF anF : Option Addr} {slF : Array (Option Value)}
    {fgC : Addr} {ocgC kVgC dcgC pmgC cdgC ctgC : Value} {odgC angC : Option Addr} {slgC : Array (Option Value)}
    {fgI : Addr} {ocgI kVgI dcgI pmgI cdgI ctgI : Value} {odgI angI : Option Addr} {slgI : Array (Option Value)}
    {fgR : Addr} {ocgR kVgR dcgR pmgR cdgR ctgR : Value} {odgR angR : Option Addr} {slgR : Array (Option Value)}
    {fgY : Addr} {ocgY kVgY dcgY pmgY cdgY ctgY : Value} {odgY angY : Option Addr} {slgY : Array (Option Value)}
    {fgO : Addr} {ocgO kVgO dcgO pmgO cdgO ctgO : Value} {odgO angO : Option Addr} {slgO : Array (Option Value)}
    {fgA : Addr} {ocgA kVgA dcgA pmgA cdgA ctgA : Value} {odgA angA : Option Addr} {slgA : Array (Option Value)}
    {fgW : Addr} {ocgW kVgW dcgW pmgW cdgW ctgW : Value} {odgW angW : Option Addr} {slgW : Array (Option Value)}
    {fgN : Addr} {ocgN kVgN dcgN pmgN cdgN ctgN : Value} {odgN angN : Option Addr} {slgN : Array (Option Value)}
    {fgE : Addr} {ocgE kVgE dcgE pmgE cdgE ctgE : Value} {odgE angE : Option Addr} {slgE : Array (Option Value)}
    {fgX : Addr} {ocgX kVgX dcgX pmgX cdgX ctgX : Value} {odgX angX : Option Addr} {slgX : Array (Option Value)}
    {fgQ : Addr} {ocgQ kVgQ dcgQ pmgQ cdgQ ctgQ : Value} {odgQ angQ : Option Addr} {slgQ : Array (Option Value)}
    {fgM : Addr} {ocgM kVgM dcgM pmgM cdgM ctgM : Value} {odgM angM : Option Addr} {slgM : Array (Option Value)}
    {fL : Addr} {ocL kVL dcL pmL cdL ctL : Value} {odL anL : Option Addr} {slL : Array (Option Value)}
    {CS C0 C1 C2 C3 C4 C5 C6 C7 C8 C9 C10 C11 C12 C13 C14 : Addr}
    {c Pt : Addr} (X : K.In h) (G : h.Ns mainGlobals mg) (hfa : mg "law" = some (.ref fa)) (hPt : h.get? Pt = some { cls := .none, data := .fields #[] }) (hlim : ∃ t, mg "COUNT_LIMIT" = some (.int 1000000000000000000 t))
    (aW : PySem.W.nsIn K mainGlobals "is_within" = some (some (.ref fW)))
    (lW : K.lookup fW = some ⟨ocW, odW, .func (PySem.W.fnOf "is_within" "is_within" (defArgs sWithin) (defBody sWithin) (defScope sWithin) .none kVW dcW pmW anW cdW ctW), slW⟩)
    (cW : PySem.W.codeIn K cdW "is_within" = true)
    (kW : PySem.W.keepIn K (.ref fW) = true)
    (aC : PySem.W.nsIn K mainGlobals "check_count" = some (some (.ref fC)))
    (lC : K.lookup fC = some ⟨ocC, odC, .func (PySem.W.fnOf "check_count" "check_count" (defArgs sCheckCount) (defBody sCheckCount) (defScope sCheckCount) .none kVC dcC pmC anC cdC ctC), slC⟩)
    (cC : PySem.W.codeIn K cdC "check_count" = true)
    (kC : PySem.W.keepIn K (.ref fC) = true)
    (aB : PySem.W.nsIn K mainGlobals "check_between" = some (some (.ref fB)))
    (lB : K.lookup fB = some ⟨ocB, odB, .func (PySem.W.fnOf "check_between" "check_between" (defArgs sCheckBetween) (defBody sCheckBetween) (defScope sCheckBetween) .none kVB dcB pmB anB cdB ctB), slB⟩)
    (cB : PySem.W.codeIn K cdB "check_between" = true)
    (kB : PySem.W.keepIn K (.ref fB) = true)
    (aOO : PySem.W.nsIn K mainGlobals "order_of" = some (some (.ref fOO)))
    (lOO : K.lookup fOO = some ⟨ocOO, odOO, .func (PySem.W.fnOf "order_of" "order_of" (defArgs sOrderOf) (defBody sOrderOf) (defScope sOrderOf) .none kVOO dcOO pmOO anOO cdOO ctOO), slOO⟩)
    (cOO : PySem.W.codeIn K cdOO "order_of" = true)
    (kOO : PySem.W.keepIn K (.ref fOO) = true)
    (aE : PySem.W.nsIn K mainGlobals "check_effect" = some (some (.ref fE)))
    (lE : K.lookup fE = some ⟨ocE, odE, .func (PySem.W.fnOf "check_effect" "check_effect" (defArgs sCheckEffect) (defBody sCheckEffect) (defScope sCheckEffect) .none kVE dcE pmE anE cdE ctE), slE⟩)
    (cE : PySem.W.codeIn K cdE "check_effect" = true)
    (kE : PySem.W.keepIn K (.ref fE) = true)
    (aI : PySem.W.nsIn K mainGlobals "is_effect" = some (some (.ref fI)))
    (lI : K.lookup fI = some ⟨ocI, odI, .func (PySem.W.fnOf "is_effect" "is_effect" (defArgs sIsEffect) (defBody sIsEffect) (defScope sIsEffect) .none kVI dcI pmI anI cdI ctI), slI⟩)
    (cI : PySem.W.codeIn K cdI "is_effect" = true)
    (kI : PySem.W.keepIn K (.ref fI) = true)
    (aH : PySem.W.nsIn K mainGlobals "chained" = some (some (.ref fH)))
    (lH : K.lookup fH = some ⟨ocH, odH, .func (PySem.W.fnOf "chained" "chained" (defArgs sChained) (defBody sChained) (defScope sChained) .none kVH dcH pmH anH cdH ctH), slH⟩)
    (cH : PySem.W.codeIn K cdH "chained" = true)
    (kH : PySem.W.keepIn K (.ref fH) = true)
    (aV : PySem.W.nsIn K mainGlobals "inverse" = some (some (.ref fV)))
    (lV : K.lookup fV = some ⟨ocV, odV, .func (PySem.W.fnOf "inverse" "inverse" (defArgs sInverse) (defBody sInverse) (defScope sInverse) .none kVV dcV pmV anV cdV ctV), slV⟩)
    (cV : PySem.W.codeIn K cdV "inverse" = true)
    (kV : PySem.W.keepIn K (.ref fV) = true)
    (aR : PySem.W.nsIn K mainGlobals "repeated" = some (some (.ref fR)))
    (lR : K.lookup fR = some ⟨ocR, odR, .func (PySem.W.fnOf "repeated" "repeated" (defArgs sRepeated) (defBody sRepeated) (defScope sRepeated) .none kVR dcR pmR anR cdR ctR), slR⟩)
    (cR : PySem.W.codeIn K cdR "repeated" = true)
    (kR : PySem.W.keepIn K (.ref fR) = true)
    (aY : PySem.W.nsIn K mainGlobals "cycles_of" = some (some (.ref fY)))
    (lY : K.lookup fY = some ⟨ocY, odY, .func (PySem.W.fnOf "cycles_of" "cycles_of" (defArgs sCyclesOf) (defBody sCyclesOf) (defScope sCyclesOf) .none kVY dcY pmY anY cdY ctY), slY⟩)
    (cY : PySem.W.codeIn K cdY "cycles_of" = true)
    (kY : PySem.W.keepIn K (.ref fY) = true)
    (aF : PySem.W.nsIn K mainGlobals "cycle_from" = some (some (.ref fF)))
    (lF : K.lookup fF = some ⟨ocF, odF, .func (PySem.W.fnOf "cycle_from" "cycle_from" (defArgs sCycleFrom) (defBody sCycleFrom) (defScope sCycleFrom) .none kVF dcF pmF anF cdF ctF), slF⟩)
    (cF : PySem.W.codeIn K cdF "cycle_from" = true)
    (kF : PySem.W.keepIn K (.ref fF) = true)
    (agC : PySem.W.nsIn K mainGlobals "compose" = some (some (.ref fgC)))
    (lgC : K.lookup fgC = some ⟨ocgC, odgC, .func (PySem.W.fnOf "compose" "compose" (defArgs sCompose) (defBody sCompose) (defScope sCompose) .none kVgC dcgC pmgC angC cdgC ctgC), slgC⟩)
    (cgC : PySem.W.codeIn K cdgC "compose" = true)
    (kgC : PySem.W.keepIn K (.ref fgC) = true)
    (agI : PySem.W.nsIn K mainGlobals "invert" = some (some (.ref fgI)))
    (lgI : K.lookup fgI = some ⟨ocgI, odgI, .func (PySem.W.fnOf "invert" "invert" (defArgs sInvert) (defBody sInvert) (defScope sInvert) .none kVgI dcgI pmgI angI cdgI ctgI), slgI⟩)
    (cgI : PySem.W.codeIn K cdgI "invert" = true)
    (kgI : PySem.W.keepIn K (.ref fgI) = true)
    (agR : PySem.W.nsIn K mainGlobals "repeat" = some (some (.ref fgR)))
    (lgR : K.lookup fgR = some ⟨ocgR, odgR, .func (PySem.W.fnOf "repeat" "repeat" (defArgs sRepeat) (defBody sRepeat) (defScope sRepeat) .none kVgR dcgR pmgR angR cdgR ctgR), slgR⟩)
    (cgR : PySem.W.codeIn K cdgR "repeat" = true)
    (kgR : PySem.W.keepIn K (.ref fgR) = true)
    (agY : PySem.W.nsIn K mainGlobals "cycles" = some (some (.ref fgY)))
    (lgY : K.lookup fgY = some ⟨ocgY, odgY, .func (PySem.W.fnOf "cycles" "cycles" (defArgs sCycles) (defBody sCycles) (defScope sCycles) .none kVgY dcgY pmgY angY cdgY ctgY), slgY⟩)
    (cgY : PySem.W.codeIn K cdgY "cycles" = true)
    (kgY : PySem.W.keepIn K (.ref fgY) = true)
    (agO : PySem.W.nsIn K mainGlobals "order" = some (some (.ref fgO)))
    (lgO : K.lookup fgO = some ⟨ocgO, odgO, .func (PySem.W.fnOf "order" "order" (defArgs sOrder) (defBody sOrder) (defScope sOrder) .none kVgO dcgO pmgO angO cdgO ctgO), slgO⟩)
    (cgO : PySem.W.codeIn K cdgO "order" = true)
    (kgO : PySem.W.keepIn K (.ref fgO) = true)
    (agA : PySem.W.nsIn K mainGlobals "_law_alike" = some (some (.ref fgA)))
    (lgA : K.lookup fgA = some ⟨ocgA, odgA, .func (PySem.W.fnOf "_law_alike" "_law_alike" (defArgs sAlike) (defBody sAlike) (defScope sAlike) .none kVgA dcgA pmgA angA cdgA ctgA), slgA⟩)
    (cgA : PySem.W.codeIn K cdgA "_law_alike" = true)
    (kgA : PySem.W.keepIn K (.ref fgA) = true)
    (agW : PySem.W.nsIn K mainGlobals "_law_wheels" = some (some (.ref fgW)))
    (lgW : K.lookup fgW = some ⟨ocgW, odgW, .func (PySem.W.fnOf "_law_wheels" "_law_wheels" (defArgs sWheels) (defBody sWheels) (defScope sWheels) .none kVgW dcgW pmgW angW cdgW ctgW), slgW⟩)
    (cgW : PySem.W.codeIn K cdgW "_law_wheels" = true)
    (kgW : PySem.W.keepIn K (.ref fgW) = true)
    (agN : PySem.W.nsIn K mainGlobals "_law_next" = some (some (.ref fgN)))
    (lgN : K.lookup fgN = some ⟨ocgN, odgN, .func (PySem.W.fnOf "_law_next" "_law_next" (defArgs sNext) (defBody sNext) (defScope sNext) .none kVgN dcgN pmgN angN cdgN ctgN), slgN⟩)
    (cgN : PySem.W.codeIn K cdgN "_law_next" = true)
    (kgN : PySem.W.keepIn K (.ref fgN) = true)
    (agE : PySem.W.nsIn K mainGlobals "_law_effect" = some (some (.ref fgE)))
    (lgE : K.lookup fgE = some ⟨ocgE, odgE, .func (PySem.W.fnOf "_law_effect" "_law_effect" (defArgs sEffect) (defBody sEffect) (defScope sEffect) .none kVgE dcgE pmgE angE cdgE ctgE), slgE⟩)
    (cgE : PySem.W.codeIn K cdgE "_law_effect" = true)
    (kgE : PySem.W.keepIn K (.ref fgE) = true)
    (agX : PySem.W.nsIn K mainGlobals "_law_error" = some (some (.ref fgX)))
    (lgX : K.lookup fgX = some ⟨ocgX, odgX, .func (PySem.W.fnOf "_law_error" "_law_error" (defArgs sError) (defBody sError) (defScope sError) .none kVgX dcgX pmgX angX cdgX ctgX), slgX⟩)
    (cgX : PySem.W.codeIn K cdgX "_law_error" = true)
    (kgX : PySem.W.keepIn K (.ref fgX) = true)
    (agQ : PySem.W.nsIn K mainGlobals "_law_is_right" = some (some (.ref fgQ)))
    (lgQ : K.lookup fgQ = some ⟨ocgQ, odgQ, .func (PySem.W.fnOf "_law_is_right" "_law_is_right" (defArgs sRight) (defBody sRight) (defScope sRight) .none kVgQ dcgQ pmgQ angQ cdgQ ctgQ), slgQ⟩)
    (cgQ : PySem.W.codeIn K cdgQ "_law_is_right" = true)
    (kgQ : PySem.W.keepIn K (.ref fgQ) = true)
    (agM : PySem.W.nsIn K mainGlobals "_law_mix" = some (some (.ref fgM)))
    (lgM : K.lookup fgM = some ⟨ocgM, odgM, .func (PySem.W.fnOf "_law_mix" "_law_mix" (defArgs sMix) (defBody sMix) (defScope sMix) .none kVgM dcgM pmgM angM cdgM ctgM), slgM⟩)
    (cgM : PySem.W.codeIn K cdgM "_law_mix" = true)
    (kgM : PySem.W.keepIn K (.ref fgM) = true)
    (aL : PySem.W.nsIn K mainGlobals "law" = some (some (.ref fL)))
    (lL : K.lookup fL = some ⟨ocL, odL, .func (PySem.W.fnOf "law" "law" (defArgs sLaw) (defBody sLaw) (defScope sLaw) .none kVL dcL pmL anL cdL ctL), slL⟩)
    (cL : PySem.W.codeIn K cdL "law" = true)
    (kL : PySem.W.keepIn K (.ref fL) = true)
    (n_isinstance : PySem.W.nsIn K mainGlobals "isinstance" = some none)
    (n_bool : PySem.W.nsIn K mainGlobals "bool" = some none)
    (n_int : PySem.W.nsIn K mainGlobals "int" = some none)
    (n_str : PySem.W.nsIn K mainGlobals "str" = some none)
    (n_list : PySem.W.nsIn K mainGlobals "list" = some none)
    (n_tuple : PySem.W.nsIn K mainGlobals "tuple" = some none)
    (n_dict : PySem.W.nsIn K mainGlobals "dict" = some none)
    (n_len : PySem.W.nsIn K mainGlobals "len" = some none)
    (n_set : PySem.W.nsIn K mainGlobals "set" = some none)
    (n_range : PySem.W.nsIn K mainGlobals "range" = some none)
    (n_enumerate : PySem.W.nsIn K mainGlobals "enumerate" = some none)
    (n_zip : PySem.W.nsIn K mainGlobals "zip" = some none)
    (n_max : PySem.W.nsIn K mainGlobals "max" = some none)
    (n_ValueError : PySem.W.nsIn K mainGlobals "ValueError" = some none)
    (n_lcm : PySem.W.nsIn K mainGlobals "lcm" = some (some (.builtin "math.lcm")))
    (eS : PySem.W.nsIn K mainGlobals "ShelfError" = some (some (.ref CS)))
    (e0 : PySem.W.nsIn K mainGlobals "InvalidPlan" = some (some (.ref C0)))
    (e1 : PySem.W.nsIn K mainGlobals "InvalidState" = some (some (.ref C1)))
    (e2 : PySem.W.nsIn K mainGlobals "InvalidCount" = some (some (.ref C2)))
    (e3 : PySem.W.nsIn K mainGlobals "UnknownPlace" = some (some (.ref C3)))
    (e4 : PySem.W.nsIn K mainGlobals "UnknownParcel" = some (some (.ref C4)))
    (e5 : PySem.W.nsIn K mainGlobals "UnknownShelf" = some (some (.ref C5)))
    (e6 : PySem.W.nsIn K mainGlobals "UnknownCarrier" = some (some (.ref C6)))
    (e7 : PySem.W.nsIn K mainGlobals "InvalidEffect" = some (some (.ref C7)))
    (e8 : PySem.W.nsIn K mainGlobals "DifferentSizes" = some (some (.ref C8)))
    (e9 : PySem.W.nsIn K mainGlobals "InvalidParcels" = some (some (.ref C9)))
    (e10 : PySem.W.nsIn K mainGlobals "Contradiction" = some (some (.ref C10)))
    (e11 : PySem.W.nsIn K mainGlobals "InvalidArrangement" = some (some (.ref C11)))
    (e12 : PySem.W.nsIn K mainGlobals "ShelfFull" = some (some (.ref C12)))
    (e13 : PySem.W.nsIn K mainGlobals "ParcelCarried" = some (some (.ref C13)))
    (e14 : PySem.W.nsIn K mainGlobals "InvalidSwap" = some (some (.ref C14)))
    (x7 : PySem.W.excIn K C7 [.type "ValueError", .type "Exception", .type "BaseException", .type "object"] "ValueError.__new__" = true)
    (xk7 : PySem.W.keepIn K (.ref C7) = true)
    (xb7 : PySem.W.subIn K (.ref C7) (.type "BaseException") = some true)
    (xt7 : PySem.W.typeIn K (.ref C7) = some (.type "type"))
    (yg7 : PySem.W.findIn K (.ref C7) "__getattribute__" = some (some (.builtin "BaseException.__getattribute__")))
    (yk7 : PySem.W.findIn K (.ref C7) "__getattr__" = some none)
    (yd7 : PySem.W.hasDictIn K C7 = true)
    (ya7 : PySem.W.findIn K (.ref C7) "__class__" = some (some (.builtin "object.__class__")))
    (ym7 : PySem.W.mroIn K C7 (.type "object") = some true)
    (ze7 : PySem.W.exmOne K (.ref C7) (.ref CS) = some true)
    (zv7 : PySem.W.kitOne K (.ref C7) (.type "ValueError") = some true)
    (z7_0 : PySem.W.kitOne K (.ref C7) (.ref C0) = some false)
    (z7_1 : PySem.W.kitOne K (.ref C7) (.ref C1) = some false)
    (z7_2 : PySem.W.kitOne K (.ref C7) (.ref C2) = some false)
    (z7_3 : PySem.W.kitOne K (.ref C7) (.ref C3) = some false)
    (z7_4 : PySem.W.kitOne K (.ref C7) (.ref C4) = some false)
    (z7_5 : PySem.W.kitOne K (.ref C7) (.ref C5) = some false)
    (z7_6 : PySem.W.kitOne K (.ref C7) (.ref C6) = some false)
    (z7_7 : PySem.W.kitOne K (.ref C7) (.ref C7) = some true)
    (z7_8 : PySem.W.kitOne K (.ref C7) (.ref C8) = some false)
    (z7_9 : PySem.W.kitOne K (.ref C7) (.ref C9) = some false)
    (z7_10 : PySem.W.kitOne K (.ref C7) (.ref C10) = some false)
    (z7_11 : PySem.W.kitOne K (.ref C7) (.ref C11) = some false)
    (z7_12 : PySem.W.kitOne K (.ref C7) (.ref C12) = some false)
    (z7_13 : PySem.W.kitOne K (.ref C7) (.ref C13) = some false)
    (z7_14 : PySem.W.kitOne K (.ref C7) (.ref C14) = some false)
    (x8 : PySem.W.excIn K C8 [.type "ValueError", .type "Exception", .type "BaseException", .type "object"] "ValueError.__new__" = true)
    (xk8 : PySem.W.keepIn K (.ref C8) = true)
    (xb8 : PySem.W.subIn K (.ref C8) (.type "BaseException") = some true)
    (xt8 : PySem.W.typeIn K (.ref C8) = some (.type "type"))
    (yg8 : PySem.W.findIn K (.ref C8) "__getattribute__" = some (some (.builtin "BaseException.__getattribute__")))
    (yk8 : PySem.W.findIn K (.ref C8) "__getattr__" = some none)
    (yd8 : PySem.W.hasDictIn K C8 = true)
    (ya8 : PySem.W.findIn K (.ref C8) "__class__" = some (some (.builtin "object.__class__")))
    (ym8 : PySem.W.mroIn K C8 (.type "object") = some true)
    (ze8 : PySem.W.exmOne K (.ref C8) (.ref CS) = some true)
    (zv8 : PySem.W.kitOne K (.ref C8) (.type "ValueError") = some true)
    (z8_0 : PySem.W.kitOne K (.ref C8) (.ref C0) = some false)
    (z8_1 : PySem.W.kitOne K (.ref C8) (.ref C1) = some false)
    (z8_2 : PySem.W.kitOne K (.ref C8) (.ref C2) = some false)
    (z8_3 : PySem.W.kitOne K (.ref C8) (.ref C3) = some false)
    (z8_4 : PySem.W.kitOne K (.ref C8) (.ref C4) = some false)
    (z8_5 : PySem.W.kitOne K (.ref C8) (.ref C5) = some false)
    (z8_6 : PySem.W.kitOne K (.ref C8) (.ref C6) = some false)
    (z8_7 : PySem.W.kitOne K (.ref C8) (.ref C7) = some false)
    (z8_8 : PySem.W.kitOne K (.ref C8) (.ref C8) = some true)
    (z8_9 : PySem.W.kitOne K (.ref C8) (.ref C9) = some false)
    (z8_10 : PySem.W.kitOne K (.ref C8) (.ref C10) = some false)
    (z8_11 : PySem.W.kitOne K (.ref C8) (.ref C11) = some false)
    (z8_12 : PySem.W.kitOne K (.ref C8) (.ref C12) = some false)
    (z8_13 : PySem.W.kitOne K (.ref C8) (.ref C13) = some false)
    (z8_14 : PySem.W.kitOne K (.ref C8) (.ref C14) = some false)
    (x2 : PySem.W.excIn K C2 [.type "ValueError", .type "Exception", .type "BaseException", .type "object"] "ValueError.__new__" = true)
    (xk2 : PySem.W.keepIn K (.ref C2) = true)
    (xb2 : PySem.W.subIn K (.ref C2) (.type "BaseException") = some true)
    (xt2 : PySem.W.typeIn K (.ref C2) = some (.type "type"))
    (yg2 : PySem.W.findIn K (.ref C2) "__getattribute__" = some (some (.builtin "BaseException.__getattribute__")))
    (yk2 : PySem.W.findIn K (.ref C2) "__getattr__" = some none)
    (yd2 : PySem.W.hasDictIn K C2 = true)
    (ya2 : PySem.W.findIn K (.ref C2) "__class__" = some (some (.builtin "object.__class__")))
    (ym2 : PySem.W.mroIn K C2 (.type "object") = some true)
    (ze2 : PySem.W.exmOne K (.ref C2) (.ref CS) = some true)
    (zv2 : PySem.W.kitOne K (.ref C2) (.type "ValueError") = some true)
    (z2_0 : PySem.W.kitOne K (.ref C2) (.ref C0) = some false)
    (z2_1 : PySem.W.kitOne K (.ref C2) (.ref C1) = some false)
    (z2_2 : PySem.W.kitOne K (.ref C2) (.ref C2) = some true)
    (z2_3 : PySem.W.kitOne K (.ref C2) (.ref C3) = some false)
    (z2_4 : PySem.W.kitOne K (.ref C2) (.ref C4) = some false)
    (z2_5 : PySem.W.kitOne K (.ref C2) (.ref C5) = some false)
    (z2_6 : PySem.W.kitOne K (.ref C2) (.ref C6) = some false)
    (z2_7 : PySem.W.kitOne K (.ref C2) (.ref C7) = some false)
    (z2_8 : PySem.W.kitOne K (.ref C2) (.ref C8) = some false)
    (z2_9 : PySem.W.kitOne K (.ref C2) (.ref C9) = some false)
    (z2_10 : PySem.W.kitOne K (.ref C2) (.ref C10) = some false)
    (z2_11 : PySem.W.kitOne K (.ref C2) (.ref C11) = some false)
    (z2_12 : PySem.W.kitOne K (.ref C2) (.ref C12) = some false)
    (z2_13 : PySem.W.kitOne K (.ref C2) (.ref C13) = some false)
    (z2_14 : PySem.W.kitOne K (.ref C2) (.ref C14) = some false)
    (y_n : PySem.W.specialIn K (.builtin "object.__class__") "__get__" = some (some (.builtin "getset_descriptor.__get__")))
    (y_t : PySem.W.takesIn K (.builtin "object.__class__") = some true)
    (hcode : cdL = .ref c)
    (htab : PySem.W.codeHdIn K c Pt = true)
    (hnone : K.lookup Pt = none)
    : ∃ (fd : FuncData) (cs : List (Addr × Addr)) (sp : Sp), (∀ p ∈ cs, h.get? p.2 = some { cls := .none, data := .fields #[] }) ∧ (∀ p ∈ cs, K.lookup p.2 = none) ∧ (∀ p ∈ cs, PySem.W.CodeHd h p.1 p.2) ∧ (∀ (s : Shared) (u : Value), BindsTo s fd ⟨[u], []⟩ [("_law_script", u)]) ∧
    (∀ (H : Hp) (a : Addr) (ns : List Int), ns.length ≤ 63 → (∀ z ∈ ns, Builtin.Int.intBits z ≤ 1048576) → (∀ p ∈ cs, H p.2 = some (.tbl #[])) → SqL K H a (ns.map V.int) → sp [.ref a] H (fun v _ => v = .bl true) fun _ _ _ => False) ∧
    ∀ base : Heap, K.In base → base.Ns mainGlobals mg → (∀ p ∈ cs, TabB base mg p.1 p.2) → FnOk P w K mg base CX0 7 fa fd ["_law_script"] sp := by
  have e := hfa.symm.trans (PySem.W.mg_of X G aL)
  cases e
  subst hcode
  have DW := df_mk (ps := ["number", "low", "high"]) X G aW lW cW kW fun _ _ _ _ _ _ us hl => match us, hl with | [_, _, _], _ => rfl
  have DC := df_mk (ps := ["count"]) X G aC lC cC kC fun _ _ _ _ _ _ us hl => match us, hl with | [_], _ => rfl
  have DB := df_mk (ps := ["number", "low", "high"]) X G aB lB cB kB fun _ _ _ _ _ _ us hl => match us, hl with | [_, _, _], _ => rfl
  have DOO := df_mk (ps := ["effect"]) X G aOO lOO cOO kOO fun _ _ _ _ _ _ us hl => match us, hl with | [_], _ => rfl
  have DE := df_mk (ps := ["effect"]) X G aE lE cE kE fun _ _ _ _ _ _ us hl => match us, hl with | [_], _ => rfl
  have DI := df_mk (ps := ["effect"]) X G aI lI cI kI fun _ _ _ _ _ _ us hl => match us, hl with | [_], _ => rfl
  have DH := df_mk (ps := ["one", "other"]) X G aH lH cH kH fun _ _ _ _ _ _ us hl => match us, hl with | [_, _], _ => rfl
  have DV := df_mk (ps := ["effect"]) X G aV lV cV kV fun _ _ _ _ _ _ us hl => match us, hl with | [_], _ => rfl
  have DR := df_mk (ps := ["effect", "count"]) X G aR lR cR kR fun _ _ _ _ _ _ us hl => match us, hl with | [_, _], _ => rfl
  have DY := df_mk (ps := ["effect"]) X G aY lY cY kY fun _ _ _ _ _ _ us hl => match us, hl with | [_], _ => rfl
  have DF := df_mk (ps := ["effect", "start"]) X G aF lF cF kF fun _ _ _ _ _ _ us hl => match us, hl with | [_, _], _ => rfl
  have DgC := df_mk (ps := ["one", "other"]) X G agC lgC cgC kgC fun _ _ _ _ _ _ us hl => match us, hl with | [_, _], _ => rfl
  have DgI := df_mk (ps := ["effect"]) X G agI lgI cgI kgI fun _ _ _ _ _ _ us hl => match us, hl with | [_], _ => rfl
  have DgR := df_mk (ps := ["effect", "count"]) X G agR lgR cgR kgR fun _ _ _ _ _ _ us hl => match us, hl with | [_, _], _ => rfl
  have DgY := df_mk (ps := ["effect"]) X G agY lgY cgY kgY fun _ _ _ _ _ _ us hl => match us, hl with | [_], _ => rfl
  have DgO := df_mk (ps := ["effect"]) X G agO lgO cgO kgO fun _ _ _ _ _ _ us hl => match us, hl with | [_], _ => rfl
  have DgA := df_mk (ps := ["_law_found", "_law_due"]) X G agA lgA cgA kgA fun _ _ _ _ _ _ us hl => match us, hl with | [_, _], _ => rfl
  have DgW := df_mk (ps := ["_law_effect_here"]) X G agW lgW cgW kgW fun _ _ _ _ _ _ us hl => match us, hl with | [_], _ => rfl
  have DgN := df_mk (ps := ["_law_h", "_law_limit"]) X G agN lgN cgN kgN fun _ _ _ _ _ _ us hl => match us, hl with | [_, _], _ => rfl
  have DgE := df_mk (ps := ["_law_h", "_law_size"]) X G agE lgE cgE kgE fun _ _ _ _ _ _ us hl => match us, hl with | [_, _], _ => rfl
  have DgX := df_mk (ps := ["_law_call"]) X G agX lgX cgX kgX fun _ _ _ _ _ _ us hl => match us, hl with | [_], _ => rfl
  have DgQ := df_mk (ps := ["_law_one", "_law_other", "_law_third", "_law_far"]) X G agQ lgQ cgQ kgQ fun _ _ _ _ _ _ us hl => match us, hl with | [_, _, _, _], _ => rfl
  have DgM := df_mk (ps := ["_law_script", "_law_seed"]) X G agM lgM cgM kgM fun _ _ _ _ _ _ us hl => match us, hl with | [_, _], _ => rfl
  have DL := df_mk (ps := ["_law_script"]) X G aL lL cL kL fun _ _ _ _ _ _ us hl => match us, hl with | [_], _ => rfl
  have B : Bt mg := ⟨PySem.W.mg_none_of X G n_isinstance, PySem.W.mg_none_of X G n_bool, PySem.W.mg_none_of X G n_int, PySem.W.mg_none_of X G n_str, PySem.W.mg_none_of X G n_list, PySem.W.mg_none_of X G n_tuple, PySem.W.mg_none_of X G n_dict, PySem.W.mg_none_of X G n_len, PySem.W.mg_none_of X G n_set, PySem.W.mg_none_of X G n_range, PySem.W.mg_none_of X G n_enumerate, PySem.W.mg_none_of X G n_zip, PySem.W.mg_none_of X G n_max⟩
  have T := Ef.mk B (PySem.W.mg_of X G n_lcm) hlim DW DC DE DI DH DV DR DY DF ⟨_, _, DB⟩ ⟨_, _, DOO⟩ ⟨PySem.W.mg_of X G e7, x7, xk7, xb7, xt7⟩ ⟨PySem.W.mg_of X G e2, x2, xk2, xb2, xt2⟩ ⟨PySem.W.mg_of X G e8, x8, xk8, xb8, xt8⟩
  have L := Lf.mk DgC DgI DgR DgY DgO DgA DgW DgN DgE DgX DgQ DgM
  have EG : ErG mg CS C0 C1 C2 C3 C4 C5 C6 C7 C8 C9 C10 C11 C12 C13 C14 := ⟨PySem.W.mg_of X G eS, PySem.W.mg_of X G e0, PySem.W.mg_of X G e1, PySem.W.mg_of X G e2, PySem.W.mg_of X G e3, PySem.W.mg_of X G e4, PySem.W.mg_of X G e5, PySem.W.mg_of X G e6, PySem.W.mg_of X G e7, PySem.W.mg_of X G e8, PySem.W.mg_of X G e9, PySem.W.mg_of X G e10, PySem.W.mg_of X G e11, PySem.W.mg_of X G e12, PySem.W.mg_of X G e13, PySem.W.mg_of X G e14, PySem.W.mg_none_of X G n_ValueError⟩
  have A7 := era_effect (K := K) ⟨⟨yg7, yk7, xb7, yd7, ya7, y_n, y_t, ym7⟩, ze7, zv7, z7_0, z7_1, z7_2, z7_3, z7_4, z7_5, z7_6, z7_7, z7_8, z7_9, z7_10, z7_11, z7_12, z7_13, z7_14⟩
  have A8 := era_sizes (K := K) ⟨⟨yg8, yk8, xb8, yd8, ya8, y_n, y_t, ym8⟩, ze8, zv8, z8_0, z8_1, z8_2, z8_3, z8_4, z8_5, z8_6, z8_7, z8_8, z8_9, z8_10, z8_11, z8_12, z8_13, z8_14⟩
  have A2 := era_count (K := K) ⟨⟨yg2, yk2, xb2, yd2, ya2, y_n, y_t, ym2⟩, ze2, zv2, z2_0, z2_1, z2_2, z2_3, z2_4, z2_5, z2_6, z2_7, z2_8, z2_9, z2_10, z2_11, z2_12, z2_13, z2_14⟩
  refine ⟨_, [(c, Pt)], spLaw K Pt, fun p hp => ?_, fun p hp => ?_, fun p hp => ?_, fun s u => ?_, fun H a ns hl _ hH hS => ?_, fun base _ _ TB => ok_law T L DL rfl (TB (c, Pt) (List.mem_singleton.mpr rfl)) EG A7 A8 A2⟩
  · rw [List.mem_singleton.mp hp]
    exact hPt
  · rw [List.mem_singleton.mp hp]
    exact hnone
  · rw [List.mem_singleton.mp hp]
    exact PySem.W.codeHd_of_K X htab
  · exact .of_eq rfl
  · exact ⟨a, ns, rfl, hS, hl, fun p hp => by rw [List.mem_singleton.mp hp]; exact TabS.nil (hH (c, Pt) (List.mem_singleton.mpr rfl)), fun _ => rfl⟩
end
end Sv
open PySem PySem.W PyProof.Rows
set_option maxHeartbeats 0 in
theorem PySem.Challenge.cw_swapshelves_k05_whole_effects_are_a_grou_holds : PySem.Challenge.rw_swapshelves_k05_whole_effects_are_a_grou.Holds := by
  refine head ?_
  k_fill
  refine Sv.walk_ofTsX (l := PySem.Challenge.rw_swapshelves_k05_whole_effects_are_a_grou) (n := 63) (k := 7) (x := "_law_script") (CX := fun _ => L2.CX0) rfl (by decide) rfl ⟨rfl, by decide, by decide⟩ (fun w h Y => PySem.W.km_in_of Y) ?F (fun _ _ _ _ _ h => h)
  case F =>
    intro w mg fa h XPh Y KX G hmg
    have hPt := PySem.W.km_tabs_of Y 410 (List.mem_singleton.mpr rfl)
    have hlim : ∃ t, mg "COUNT_LIMIT" = some (.int 1000000000000000000 t) := by
      obtain ⟨v, hv, hr⟩ := XPh.2.val _ (List.mem_singleton.mpr rfl)
      cases hr
      exact ⟨_, hv⟩
    refine' Sv.all_mk (Pt := 410) KX G hmg hPt hlim ?aW ?lW ?cW ?kW ?aC ?lC ?cC ?kC ?aB ?lB ?cB ?kB ?aOO ?lOO ?cOO ?kOO ?aE ?lE ?cE ?kE ?aI ?lI ?cI ?kI ?aH ?lH ?cH ?kH ?aV ?lV ?cV ?kV ?aR ?lR ?cR ?kR ?aY ?lY ?cY ?kY ?aF ?lF ?cF ?kF ?agC ?lgC ?cgC ?kgC ?agI ?lgI ?cgI ?kgI ?agR ?lgR ?cgR ?kgR ?agY ?lgY ?cgY ?kgY ?agO ?lgO ?cgO ?kgO ?agA ?lgA ?cgA ?kgA ?agW ?lgW ?cgW ?kgW ?agN ?lgN ?cgN ?kgN ?agE ?lgE ?cgE ?kgE ?agX ?lgX ?cgX ?kgX ?agQ ?lgQ ?cgQ ?kgQ ?agM ?lgM ?cgM ?kgM ?aL ?lL ?cL ?kL ?n_isinstance ?n_bool ?n_int ?n_str ?n_list ?n_tuple ?n_dict ?n_len ?n_set ?n_range ?n_enumerate ?n_zip ?n_max ?n_ValueError ?n_lcm ?eS ?e0 ?e1 ?e2 ?e3 ?e4 ?e5 ?e6 ?e7 ?e8 ?e9 ?e10 ?e11 ?e12 ?e13 ?e14 ?x7 ?xk7 ?xb7 ?xt7 ?yg7 ?yk7 ?yd7 ?ya7 ?ym7 ?ze7 ?zv7 ?z7_0 ?z7_1 ?z7_2 ?z7_3 ?z7_4 ?z7_5 ?z7_6 ?z7_7 ?z7_8 ?z7_9 ?z7_10 ?z7_11 ?z7_12 ?z7_13 ?z7_14 ?x8 ?xk8 ?xb8 ?xt8 ?yg8 ?yk8 ?yd8 ?ya8 ?ym8 ?ze8 ?zv8 ?z8_0 ?z8_1 ?z8_2 ?z8_3 ?z8_4 ?z8_5 ?z8_6 ?z8_7 ?z8_8 ?z8_9 ?z8_10 ?z8_11 ?z8_12 ?z8_13 ?z8_14 ?x2 ?xk2 ?xb2 ?xt2 ?yg2 ?yk2 ?yd2 ?ya2 ?ym2 ?ze2 ?zv2 ?z2_0 ?z2_1 ?z2_2 ?z2_3 ?z2_4 ?z2_5 ?z2_6 ?z2_7 ?z2_8 ?z2_9 ?z2_10 ?z2_11 ?z2_12 ?z2_13 ?z2_14 ?y_n ?y_t ?hcode ?htab ?hnone
    (case aW => k_is)
    (case lW => k_is)
    (case cW => k_is)
    (case kW => k_is)
    (case aC => k_is)
    (case lC => k_is)
    (case cC => k_is)
    (case kC => k_is)
    (case aB => k_is)
    (case lB => k_is)
    (case cB => k_is)
    (case kB => k_is)
    (case aOO => k_is)
    (case lOO => k_is)
    (case cOO => k_is)
    (case kOO => k_is)
    (case aE => k_is)
    (case lE => k_is)
    (case cE => k_is)
    (case kE => k_is)
    (case aI => k_is)
    (case lI => k_is)
    (case cI => k_is)
    (case kI => k_is)
    (case aH => k_is)
    (case lH => k_is)
    (case cH => k_is)
    (case kH => k_is)
    (case aV => k_is)
    (case lV => k_is)
    (case cV => k_is)
    (case kV => k_is)
    (case aR => k_is)
    (case lR => k_is)
    (case cR => k_is)
    (case kR => k_is)
    (case aY => k_is)
    (case lY => k_is)
    (case cY => k_is)
    (case kY => k_is)
    (case aF => k_is)
    (case lF => k_is)
    (case cF => k_is)
    (case kF => k_is)
    (case agC => k_is)
    (case lgC => k_is)
    (case cgC => k_is)
    (case kgC => k_is)
    (case agI => k_is)
    (case lgI => k_is)
    (case cgI => k_is)
    (case kgI => k_is)
    (case agR => k_is)
    (case lgR => k_is)
    (case cgR => k_is)
    (case kgR => k_is)
    (case agY => k_is)
    (case lgY => k_is)
    (case cgY => k_is)
    (case kgY => k_is)
    (case agO => k_is)
    (case lgO => k_is)
    (case cgO => k_is)
    (case kgO => k_is)
    (case agA => k_is)
    (case lgA => k_is)
    (case cgA => k_is)
    (case kgA => k_is)
    (case agW => k_is)
    (case lgW => k_is)
    (case cgW => k_is)
    (case kgW => k_is)
    (case agN => k_is)
    (case lgN => k_is)
    (case cgN => k_is)
    (case kgN => k_is)
    (case agE => k_is)
    (case lgE => k_is)
    (case cgE => k_is)
    (case kgE => k_is)
    (case agX => k_is)
    (case lgX => k_is)
    (case cgX => k_is)
    (case kgX => k_is)
    (case agQ => k_is)
    (case lgQ => k_is)
    (case cgQ => k_is)
    (case kgQ => k_is)
    (case agM => k_is)
    (case lgM => k_is)
    (case cgM => k_is)
    (case kgM => k_is)
    (case aL => k_is)
    (case lL => k_is)
    (case cL => k_is)
    (case kL => k_is)
    (case n_isinstance => k_is)
    (case n_bool => k_is)
    (case n_int => k_is)
    (case n_str => k_is)
    (case n_list => k_is)
    (case n_tuple => k_is)
    (case n_dict => k_is)
    (case n_len => k_is)
    (case n_set => k_is)
    (case n_range => k_is)
    (case n_enumerate => k_is)
    (case n_zip => k_is)
    (case n_max => k_is)
    (case n_ValueError => k_is)
    (case n_lcm => k_is)
    (case eS => k_is)
    (case e0 => k_is)
    (case e1 => k_is)
    (case e2 => k_is)
    (case e3 => k_is)
    (case e4 => k_is)
    (case e5 => k_is)
    (case e6 => k_is)
    (case e7 => k_is)
    (case e8 => k_is)
    (case e9 => k_is)
    (case e10 => k_is)
    (case e11 => k_is)
    (case e12 => k_is)
    (case e13 => k_is)
    (case e14 => k_is)
    (case x7 => first | k_exc | k_is)
    (case xk7 => k_is)
    (case xb7 => k_is)
    (case xt7 => k_is)
    (case yg7 => k_is)
    (case yk7 => k_is)
    (case yd7 => k_is)
    (case ya7 => k_is)
    (case ym7 => k_is)
    (case ze7 => kernel_rfl)
    (case zv7 => kernel_rfl)
    (case z7_0 => kernel_rfl)
    (case z7_1 => kernel_rfl)
    (case z7_2 => kernel_rfl)
    (case z7_3 => kernel_rfl)
    (case z7_4 => kernel_rfl)
    (case z7_5 => kernel_rfl)
    (case z7_6 => kernel_rfl)
    (case z7_7 => kernel_rfl)
    (case z7_8 => kernel_rfl)
    (case z7_9 => kernel_rfl)
    (case z7_10 => kernel_rfl)
    (case z7_11 => kernel_rfl)
    (case z7_12 => kernel_rfl)
    (case z7_13 => kernel_rfl)
    (case z7_14 => kernel_rfl)
    (case x8 => first | k_exc | k_is)
    (case xk8 => k_is)
    (case xb8 => k_is)
    (case xt8 => k_is)
    (case yg8 => k_is)
    (case yk8 => k_is)
    (case yd8 => k_is)
    (case ya8 => k_is)
    (case ym8 => k_is)
    (case ze8 => kernel_rfl)
    (case zv8 => kernel_rfl)
    (case z8_0 => kernel_rfl)
    (case z8_1 => kernel_rfl)
    (case z8_2 => kernel_rfl)
    (case z8_3 => kernel_rfl)
    (case z8_4 => kernel_rfl)
    (case z8_5 => kernel_rfl)
    (case z8_6 => kernel_rfl)
    (case z8_7 => kernel_rfl)
    (case z8_8 => kernel_rfl)
    (case z8_9 => kernel_rfl)
    (case z8_10 => kernel_rfl)
    (case z8_11 => kernel_rfl)
    (case z8_12 => kernel_rfl)
    (case z8_13 => kernel_rfl)
    (case z8_14 => kernel_rfl)
    (case x2 => first | k_exc | k_is)
    (case xk2 => k_is)
    (case xb2 => k_is)
    (case xt2 => k_is)
    (case yg2 => k_is)
    (case yk2 => k_is)
    (case yd2 => k_is)
    (case ya2 => k_is)
    (case ym2 => k_is)
    (case ze2 => kernel_rfl)
    (case zv2 => kernel_rfl)
    (case z2_0 => kernel_rfl)
    (case z2_1 => kernel_rfl)
    (case z2_2 => kernel_rfl)
    (case z2_3 => kernel_rfl)
    (case z2_4 => kernel_rfl)
    (case z2_5 => kernel_rfl)
    (case z2_6 => kernel_rfl)
    (case z2_7 => kernel_rfl)
    (case z2_8 => kernel_rfl)
    (case z2_9 => kernel_rfl)
    (case z2_10 => kernel_rfl)
    (case z2_11 => kernel_rfl)
    (case z2_12 => kernel_rfl)
    (case z2_13 => kernel_rfl)
    (case z2_14 => kernel_rfl)
    (case y_n => k_is)
    (case y_t => k_is)
    (case hcode => rfl)
    (case htab => kernel_rfl)
    (case hnone => kernel_rfl)

