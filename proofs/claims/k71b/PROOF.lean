import PyProof.Rows.All
import Wide.All
import OpenK.AllK
import Wide.FinOn
import HandS.ForExc
import HandS.ForMost
import HandS.Evl
import HandS.TryMany
import HandS.Style
import HandS.Codes
import HandS.ExcOwn
import HandS.Nested
import HandS.EndTab
import HandS.TupMul
import HandS.IsInst
import HandS.Wide
import HandS.Gcd
import HandS.TupAny
import HandS.Deep
import HandS.Text
import HandS.Steps
import KE.KDictZip
import HandS.Dict
import HandS.More
import KE.DatumOrd
import KE.GoesEnumKw
import KE.GoesNew
import KE.GoesEnum
import HandS.FStr
import HandS.Conv
import HandS.Iter
import HandS.CallLocal
import HandS.ExcInit
import HandS.ExcInitHot
import HandS.ExcField
import HandS.RaiseFrom
import HandS.SuiteRaise
import HandS.Zip
import HandS.Strs
import HandS.DictComp
import HandS.ExcCtx
import HandS.HotCalls
import HandS.ExcIs
import HandS.SetFor
import Wide.Once
import HandS.Head3
import HandS.HeadHook4
import HandS.HeadWalk
import PySem.Challenge.RW_coastersafe_k71_plays_written_and_read
section
set_option Elab.async false
set_option linter.all false
set_option maxRecDepth 100000
/-! ## what the facts of the text speak of: constants, functions -/
namespace Ci
open PySem PySem.Spec PyProof.Rows L2
inductive Cn where
  | non | bl (b : Bool) | int (n : Int) | str (s : String)
def Cn.v : Cn → V
  | .non => .non
  | .bl b => .bl b
  | .int n => .int n
  | .str s => .str s
abbrev Kc := List (Str × Cn)
/-- what is known of a function of the text -/
structure FnL (K : PySem.W.Frag) (nm qn : Str) (st : Stmt) (f : Addr) : Prop where
  ex : ∃ (od an : Option Addr) (sl : Array (Option Value)) (oc kV dc pm cd ct : Value), K.lookup f = some ⟨oc, od, .func (PySem.W.fnOf nm qn (defArgs st) (defBody st) (defScope st) .none kV dc pm an cd ct), sl⟩ ∧ PySem.W.codeIn K cd qn = true
  kp : PySem.W.keepIn K (.ref f) = true
end Ci
end

section
set_option Elab.async false
set_option linter.all false
set_option maxRecDepth 100000
set_option maxHeartbeats 2000000
/-! ## a lambda with parameters and captured names: made, called in another def's frame -/
namespace LamP
open PySem PySem.Spec PyProof.Rows L2 LamX NdefX
/-- the object at f is the lambda F of the body b -/
def LamAt (f : Addr) (F : NF) (b : Expr) (h : Heap) : Prop := ∃ pm ctv : Value, h.get? f = some (PySem.W.kla_obj F.name F.qual F.params b F.scope F.cl pm F.c ctv)
/-- what the lambda promises: sp ws, ws what its captured cells hold at the call -/
structure LOk (P : Program) (w : World) (K : PySem.W.Frag) (mg : Str → Option Value) (base : Heap) (CX : CXT) (k : Nat) (f : Addr) (F : NF) (b : Expr) (ps fr : List Str) (sp : List (Option V) → Sp) : Prop where
  len : ∀ ws vs H Q E, sp ws vs H Q E → vs.length = ps.length
  run : ∀ (A : Around) (outer : List Env) (s : Shared) (H : Hp) (us : List Value) (vs : List V) (ws : List (Option V)) (Q : VK) (E : XK), Room k A → Env0 P w K mg base A outer s H → LamAt f F b s.heap → H F.c = some (CodeO F.c F.qual) →
    CellsAt F.cl fr ws s.heap H → Vals vs us → sp ws vs H Q E → codeAny (model P w) A (.call (.ref f) ⟨us, []⟩) (CR CX outer P w H s Q E) s
section
variable {CX : CXT} {P : Program} {w : World} {K : PySem.W.Frag} {mg : Str → Option Value} {base : Heap} {N ps fr : List Str} {F : NF} {f : Addr} {b : Expr} {k j : Nat} {sp : List (Option V) → Sp}
theorem lok_of (S : NScope N ps fr F.scope) (hb : ∀ (pm ctv : Value) (us : List Value), us.length = ps.length → bindArgs (PySem.W.kla_fn F.name F.qual F.params b F.scope F.cl pm (.ref F.c) ctv) ⟨us, []⟩ = pure (ps.zip us)) (len : ∀ ws vs H Q E, sp ws vs H Q E → vs.length = ps.length)
    (hbody : ∀ (A : Around) (outer : List Env) (s : Shared) (H : Hp) (vs : List V) (ws : List (Option V)) (Q : VK) (E : XK), Room k (A.deeper (envF F f s.heap.objs.size)) → ws.length = fr.length → sp ws vs H Q E →
      ∃ t, PE (ncx CX P w K mg base N F f A outer s H E) b t ∧ t (startF N vs ws) H Q) :
    LOk P w K mg base CX (k + 1) f F b ps fr sp := by
  refine ⟨len, fun A outer s H us vs ws Q E hr e0 hf hc C r hsp => ?_⟩
  have hl := len _ _ _ _ _ hsp
  have lim : s.heap.NoLimit := e0.mod.nolimit.keeps fun b o e => (e0.bs b o e).1
  obtain ⟨pm, ctv, ho⟩ := hf
  refine PySem.W.kla_callFunE hr.depth ho rfl S.co S.gen rfl (codeO_at e0.hok hc) ?_
  rw [hb pm ctv us (by rw [← r.length]; exact hl)]
  refine wpAny_pure (wpAny_newFunctionEnv S.nocell (fun ⟨n, _⟩ hy => S.par n (List.of_mem_zip hy).1) (fun h₁ hns hsb => ⟨lim.fresh _ hsb, ?_⟩) S.kind)
  show codeAny _ _ (.expr b (envF F f s.heap.objs.size)) _ _
  have kp : ∀ b o, s.heap.get? b = some o → h₁.get? b = some o := fun b o e => hsb.extBut b o (Nat.ne_of_lt (Heap.lt_size e)) (Heap.get?_push_of_some _ e)
  obtain ⟨t, ht, hq⟩ := hbody A outer s H vs ws Q E (hr.deeper _) C.len hsp
  have I : Inv (ncx CX P w K mg base N F f A outer s H E) [] (startF N vs ws) H { s with heap := h₁, toks := s.toks + (ps.zip us).length } := inv_startN S hr.hd e0 hl r C hns kp
  refine PySem.W.kla_codeExpr (wpAny_mono (ht.run [] _ (startF N vs ws) H _ I hq) (fun v s' hs => ?_) fun e s' hs => hs)
  obtain ⟨v', H', J, rv, q⟩ := hs
  exact ⟨v', H', J.os, J.bare, J.base, J.hok, rv, q⟩
end
/-! ### called in the frame of a def that got it -/
/-- what is known of the lambda where a def is entered that got it -/
structure LamIn (f : Addr) (F : NF) (b : Expr) (fr : List Str) (ws : List (Option V)) (h : Heap) (H : Hp) (outer : List Env) : Prop where
  at_ : LamAt f F b h
  free : H f = none
  nofr : f ∉ frs outer
  cells : CellsAt F.cl fr ws h H
section
variable {X : Cx} {pins : List (Addr × Obj)} {σ : L2.St} {H : Hp} {s : Shared} {F : NF} {f : Addr} {b : Expr} {ps fr : List Str} {ws : List (Option V)}
theorem LamIn.lam (L : LamIn f F b fr ws X.s_0.heap X.H_0 X.outer) (hx : X.ex = []) (I : Inv X pins σ H s) : LamAt f F b s.heap := by
  obtain ⟨pm, ctv, e⟩ := L.at_
  exact ⟨pm, ctv, I.base.keep f _ e L.free L.nofr (by rw [hx]; exact List.not_mem_nil)⟩
theorem LamIn.later (L : LamIn f F b fr ws X.s_0.heap X.H_0 X.outer) (hx : X.ex = []) (I : Inv X pins σ H s) : CellsAt F.cl fr ws s.heap H := by
  have C := L.cells
  have kp : ∀ y c, F.cl.lookup y = some c → ∀ v, X.s_0.heap.IsCell c v → s.heap.IsCell c v := fun y c e v ⟨o, ho, hd⟩ => by
    obtain ⟨sl, q⟩ := I.base.any ho (C.all y c e).1 (by rw [hx]; exact List.not_mem_nil)
    exact ⟨_, q, hd⟩
  refine ⟨C.len, fun y c e => ?_, C.inj, fun i y e => ?_⟩
  · obtain ⟨n, v, z⟩ := C.all y c e
    refine ⟨?_, v, kp y c e v z⟩
    obtain ⟨o, ho, _⟩ := z
    exact I.base.free c o ho n (by rw [hx]; exact List.not_mem_nil)
  · obtain ⟨c, hc, hv⟩ := C.has i y e
    refine ⟨c, hc, fun v ev => ?_⟩
    obtain ⟨u, r, z⟩ := hv v ev
    exact ⟨u, r, kp y c hc _ z⟩
theorem lam_fnAt (h : LamAt f F b s.heap) : PySem.W.FnAt f s.heap := by
  obtain ⟨pm, ctv, e⟩ := h
  exact ⟨_, _, _, _, e⟩
end
section
variable {X : Cx} {CX : CXT} {F : NF} {f : Addr} {b : Expr} {ps fr : List Str} {ws : List (Option V)} {i j k : Nat} {x : Str} {sp : List (Option V) → Sp} {E : XK} {t : TA} {e : Expr} {es : List Expr} {p pos : Pos}
end
/-! ### made -/
/-- all but the table stays -/
def ExB (P : Addr) (H H' : Hp) : Prop := ∀ b o, b ≠ P → H b = some o → H' b = some o
theorem TabS.kept {H H' : Hp} {P P' : Addr} {q : Str} (t : TabS H P' q) (e : ExB P H H') (n : P' ≠ P) {qs : Array Value} (hP : H P = some (.tbl qs)) : TabS H' P' q := by
  obtain ⟨ps, h1, h2, h3⟩ := t
  refine ⟨ps, e _ _ n h1, h2, fun pos cv hc => ?_⟩
  obtain ⟨c, e1, e2⟩ := h3 pos cv hc
  refine ⟨c, e1, e _ _ (fun z => ?_) e2⟩
  rw [z, hP] at e2
  exact codeO_ne _ (Option.some.inj e2).symm
section
variable {X : Cx} {pins : List (Addr × Obj)} {σ : L2.St} {H : Hp} {s : Shared}
theorem lam_make {c P : Addr} {params : Arguments} {body : Expr} {scope : Scope} {pos : Pos} {E : Value → Shared → Prop} {Q : Value → Shared → Prop} (I : Inv X pins σ H s) (TB : TabB X.base X.mg c P) (hcode : X.env.code = .ref c)
    (hT : TabS H P (X.env.qual ++ "<lambda>")) (hdef : defaultsOf params X.env = ([], [])) (hfree : ∀ y ∈ scope.names, y.2 = .free → ∃ c, X.env.cells.lookup y.1 = some c)
    (h : ∀ (f c' : Addr) (H1 : Hp) (s' : Shared), Inv X pins σ H1 s' → ExB P H H1 → TabS H1 P (X.env.qual ++ "<lambda>") →
      LamAt f ⟨"<lambda>", X.env.qual ++ "<lambda>", params, [], scope, cloFrom X.env.cells scope.names [], c'⟩ body s'.heap → H1 f = none → f ∉ frs X.stack → H1 c' = some (CodeO c' (X.env.qual ++ "<lambda>")) → Q (.ref f) s') :
    wpAny (model X.prog X.w) X.A (eval (.Lambda params body scope pos) X.env) Q E s := by
  obtain ⟨ps, hP, ht, ha⟩ := hT
  have hok : s.heap.get? P = some { cls := .none, data := .fields ps } := I.hok P _ hP
  have far : ∀ f, s.heap.objs.size ≤ f → f ∉ frs X.stack := fun f hf m => by
    rcases List.mem_cons.mp (I.stkSub _ m) with e | e
    · exact Nat.not_le_of_lt I.lt (e ▸ hf)
    · exact I.nofs hf e
  refine PySem.W.kla_eval hdef ?_
  cases hit : codeAmong pos ps.toList with
  | some cv =>
    obtain ⟨c', rfl, hco⟩ := ha pos cv hit
    refine PySem.W.kla_makeFunctionHit (mg := X.mg) (c := c) (P := P) (ps := ps) (closure_ok hfree) I.ok.glob (I.mod.glob.keeps I.bk) hcode (TB.code.keeps I.bk) hok ht hit (TB.bm.keeps I.bk) fun ctv h' tk hx hsz => ?_
    exact h _ c' H _ (I.kept fun b o e => Heap.get?_push_of_some _ (hx b o e)) (fun _ _ _ e => e) ⟨ps, hP, ht, ha⟩ ⟨_, _, Heap.get?_push_size _ rfl⟩ (I.hok.fresh hsz) (far _ hsz) hco
  | none =>
    refine PySem.W.kla_makeFunction (mg := X.mg) (c := c) (P := P) (ps := ps) (closure_ok hfree) I.ok.glob (I.mod.glob.keeps I.bk) hcode (TB.code.keeps I.bk) hok ht hit TB.gP (TB.bm.keeps I.bk) fun c' ctv h' tk hx hge hlt hrec htb => ?_
    obtain ⟨c2, oc, vs, t, e2, hoc, hd, hv⟩ := hrec
    cases e2
    have hsz : s.heap.objs.size ≤ h'.objs.size := Nat.le_trans hge (Nat.le_of_lt hlt)
    have fresh := I.hok.fresh hge
    have cP : c' ≠ P := fun z => by rw [z, hP] at fresh; cases fresh
    have eL : (ps ++ #[rawInt pos.line, rawInt pos.col, .ref c']).toList = ps.toList ++ [rawInt pos.line, rawInt pos.col, .ref c'] := by simp
    have J := inv_table (t' := tk) (q := X.env.qual ++ "<lambda>") (more := #[rawInt pos.line, rawInt pos.col, .ref c']) (h' := h'.push (PySem.W.kla_obj "<lambda>" (X.env.qual ++ "<lambda>") params body scope (cloFrom X.env.cells scope.names []) ((X.mg "__name__").getD .none) c' ctv)) I hP
      (fun b o hb e => Heap.get?_push_of_some _ (hx b o hb e)) (Heap.get?_push_of_some _ htb) hge ⟨oc, vs, t, Heap.get?_push_of_some _ hoc, hd, hv⟩
    have ex : ExB P H (upd (upd H P (.tbl (ps ++ #[rawInt pos.line, rawInt pos.col, .ref c']))) c' (CodeO c' (X.env.qual ++ "<lambda>"))) := fun b o n e => by
      rw [upd_ne (ne_of_none e fresh), upd_ne n]
      exact e
    have nt : ∀ {b : Addr} {q : Str}, H b = some (CodeO b q) → b ≠ P := fun {b q} e z => by
      rw [z, hP] at e
      exact codeO_ne _ (Option.some.inj e).symm
    refine h h'.objs.size c' _ _ J ex ⟨_, by rw [upd_ne cP.symm, upd_same], by rw [eL]; exact PySem.TriplesOk_snoc _ _ _ _ ht, fun p' cv hcv => ?_⟩ ⟨_, _, Heap.get?_push_size _ rfl⟩ ?_ (far _ hsz) upd_same
    · rw [eL] at hcv
      rcases among_app _ ht hcv with z | z
      · obtain ⟨c0, e1, e2⟩ := ha p' cv z
        exact ⟨c0, e1, ex _ _ (nt e2) e2⟩
      · exact ⟨c', z, upd_same⟩
    · rw [upd_ne (Nat.ne_of_gt hlt), upd_ne (Nat.ne_of_gt (Nat.lt_of_lt_of_le (Heap.lt_size hok) hsz))]
      exact I.hok.fresh hsz
end
end LamP
end

section
set_option Elab.async false
set_option linter.all false
set_option maxRecDepth 100000
set_option maxHeartbeats 2000000
/-! ## data, what is ours, slots -/
namespace Ci
open PySem PySem.Spec PyProof.Rows L2 Evl

abbrev SOk (s : Str) : Prop := PyData.canLay0 (.str s) = true

inductive D where
  | non | bl (b : Bool) | int (i : Int) | str (s : Str) | tup (ds : List D) | lst (ds : List D) | ins (c : Nat) (fs : List (Str × D)) | scr (ns : List Int)
  | dk (kvs : List (Key × D)) | dt (kvs : List (List Key × D)) | rng (lo hi : Int) | fnc (j : Nat) | tupN (ds : List D)
  deriving Inhabited
/-- the written part, and where its classes, errors, tables stand -/
structure Gm where
  K : PySem.W.Frag
  cm : Nat → Addr
  ca : Nat → Addr
  kt : Nat → Addr
  ft : Nat → Addr := fun _ => 0
  T : List (Addr × Str) := []

mutual
inductive Rep (G : Gm) (B : Hp) : V → D → Prop
  | non : Rep G B .non .non
  | bl (b : Bool) : Rep G B (.bl b) (.bl b)
  | int (i : Int) : Rep G B (.int i) (.int i)
  | str (s : Str) : SOk s → Rep G B (.str s) (.str s)
  | tup {a : Addr} {vs : List V} {ds : List D} : SqT G.K B a vs → Reps G B vs ds → Rep G B (.ref a) (.tup ds)
  | lst {a : Addr} {vs : List V} {ds : List D} : B a = some (.lst vs) → Reps G B vs ds → Rep G B (.ref a) (.lst ds)
  | ins {a dx : Addr} {c : Nat} {fv : List (Str × V)} {fd : List (Str × D)} : B a = some (.ins (G.cm c) dx fv) → RepF G B fv fd → Rep G B (.ref a) (.ins c fd)
  | scr {a : Addr} {ns : List Int} : SqL G.K B a (ns.map V.int) → Rep G B (.ref a) (.scr ns)
  | rng {a : Addr} {lo hi : Int} : B a = some (.rng lo hi) → Rep G B (.ref a) (.rng lo hi)
  | dk {a : Addr} {kv : List (Key × V)} {kd : List (Key × D)} : B a = some (.dK kv) → RepK G B kv kd → Rep G B (.ref a) (.dk kd)
  | dt {a : Addr} {kv : List (List Key × V)} {kd : List (List Key × D)} : B a = some (.dT kv) → RepT G B kv kd → Rep G B (.ref a) (.dt kd)
  | fnc {j : Nat} : Rep G B (.ref (G.ft j)) (.fnc j)
  | tupN {a : Addr} {o : Obj} {vs : List V} {ds : List D} : B a = some (.frz o (.tup vs)) → o.dict = none → Reps G B vs ds → Rep G B (.ref a) (.tupN ds)
inductive Reps (G : Gm) (B : Hp) : List V → List D → Prop
  | nil : Reps G B [] []
  | cons {v : V} {vs : List V} {d : D} {ds : List D} : Rep G B v d → Reps G B vs ds → Reps G B (v :: vs) (d :: ds)
inductive RepF (G : Gm) (B : Hp) : List (Str × V) → List (Str × D) → Prop
  | nil : RepF G B [] []
  | cons {f : Str} {v : V} {d : D} {fv : List (Str × V)} {fd : List (Str × D)} : Rep G B v d → RepF G B fv fd → RepF G B ((f, v) :: fv) ((f, d) :: fd)
inductive RepK (G : Gm) (B : Hp) : List (Key × V) → List (Key × D) → Prop
  | nil : RepK G B [] []
  | cons {f : Key} {v : V} {d : D} {fv : List (Key × V)} {fd : List (Key × D)} : Rep G B v d → RepK G B fv fd → RepK G B ((f, v) :: fv) ((f, d) :: fd)
inductive RepT (G : Gm) (B : Hp) : List (List Key × V) → List (List Key × D) → Prop
  | nil : RepT G B [] []
  | cons {f : List Key} {v : V} {d : D} {fv : List (List Key × V)} {fd : List (List Key × D)} : Rep G B v d → RepT G B fv fd → RepT G B ((f, v) :: fv) ((f, d) :: fd)
end

section
variable {G : Gm} {B B' H H' : Hp}
mutual
theorem Rep.mono (e : Ex B B') {v : V} {d : D} : Rep G B v d → Rep G B' v d
  | .non => .non
  | .bl b => .bl b
  | .int i => .int i
  | .str s h => .str s h
  | .tup h r => .tup (ex_t e h) (Reps.mono e r)
  | .lst h r => .lst (e _ _ h) (Reps.mono e r)
  | .ins h r => .ins (e _ _ h) (RepF.mono e r)
  | .scr h => .scr (ex_l e h)
  | .rng h => .rng (e _ _ h)
  | .dk h r => .dk (e _ _ h) (RepK.mono e r)
  | .dt h r => .dt (e _ _ h) (RepT.mono e r)
  | .fnc => .fnc
  | .tupN h n r => .tupN (e _ _ h) n (Reps.mono e r)
theorem Reps.mono (e : Ex B B') {vs : List V} {ds : List D} : Reps G B vs ds → Reps G B' vs ds
  | .nil => .nil
  | .cons h r => .cons (Rep.mono e h) (Reps.mono e r)
theorem RepF.mono (e : Ex B B') {vs : List (Str × V)} {ds : List (Str × D)} : RepF G B vs ds → RepF G B' vs ds
  | .nil => .nil
  | .cons h r => .cons (Rep.mono e h) (RepF.mono e r)
theorem RepK.mono (e : Ex B B') {vs : List (Key × V)} {ds : List (Key × D)} : RepK G B vs ds → RepK G B' vs ds
  | .nil => .nil
  | .cons h r => .cons (Rep.mono e h) (RepK.mono e r)
theorem RepT.mono (e : Ex B B') {vs : List (List Key × V)} {ds : List (List Key × D)} : RepT G B vs ds → RepT G B' vs ds
  | .nil => .nil
  | .cons h r => .cons (Rep.mono e h) (RepT.mono e r)
end
theorem Reps.len {vs : List V} {ds : List D} : Reps G B vs ds → vs.length = ds.length
  | .nil => rfl
  | .cons _ r => congrArg Nat.succ (Reps.len r)
theorem RepK.len {vs : List (Key × V)} {ds : List (Key × D)} : RepK G B vs ds → vs.length = ds.length
  | .nil => rfl
  | .cons _ r => congrArg Nat.succ (RepK.len r)
theorem RepT.len {vs : List (List Key × V)} {ds : List (List Key × D)} : RepT G B vs ds → vs.length = ds.length
  | .nil => rfl
  | .cons _ r => congrArg Nat.succ (RepT.len r)
theorem Reps.app {vs ws : List V} {ds es : List D} : Reps G B vs ds → Reps G B ws es → Reps G B (vs ++ ws) (ds ++ es)
  | .nil, s => s
  | .cons h r, s => .cons h (Reps.app r s)
theorem Reps.get {vs : List V} {ds : List D} {i : Nat} {d : D} : Reps G B vs ds → ds[i]? = some d → ∃ v, vs[i]? = some v ∧ Rep G B v d
  | .nil, h => by simp at h
  | .cons h r, e => by
    cases i with
    | zero =>
      have e' := Option.some.inj e
      subst e'
      exact ⟨_, rfl, h⟩
    | succ i => exact Reps.get (i := i) r e
theorem Reps.drop {vs : List V} {ds : List D} : ∀ (n : Nat), Reps G B vs ds → Reps G B (vs.drop n) (ds.drop n)
  | 0, r => r
  | n + 1, .nil => .nil
  | n + 1, .cons _ r => Reps.drop n r
theorem Reps.take {vs : List V} {ds : List D} : ∀ (n : Nat), Reps G B vs ds → Reps G B (vs.take n) (ds.take n)
  | 0, r => .nil
  | n + 1, .nil => .nil
  | n + 1, .cons h r => .cons h (Reps.take n r)
theorem Reps.set {vs : List V} {ds : List D} {v : V} {d : D} (q : Rep G B v d) : ∀ (n : Nat), Reps G B vs ds → Reps G B (vs.set n v) (ds.set n d)
  | _, .nil => .nil
  | 0, .cons _ r => .cons q r
  | n + 1, .cons h r => .cons h (Reps.set q n r)
theorem Reps.rev {vs : List V} {ds : List D} : Reps G B vs ds → Reps G B vs.reverse ds.reverse
  | .nil => .nil
  | .cons h r => by
    rw [List.reverse_cons, List.reverse_cons]
    exact (Reps.rev r).app (.cons h .nil)
theorem Reps.ints {vs : List V} {ns : List Int} (h : Reps G B vs (ns.map D.int)) : vs = ns.map V.int := by
  induction ns generalizing vs with
  | nil => cases h; rfl
  | cons n r ih =>
    cases h with
    | cons h1 h2 =>
      cases h1
      rw [ih h2]
      rfl
theorem Reps.bools {vs : List V} {ns : List Bool} (h : Reps G B vs (ns.map D.bl)) : vs = ns.map V.bl := by
  induction ns generalizing vs with
  | nil => cases h; rfl
  | cons n r ih =>
    cases h with
    | cons h1 h2 =>
      cases h1
      rw [ih h2]
      rfl
theorem Reps.strs {vs : List V} {ns : List Str} (h : Reps G B vs (ns.map D.str)) : vs = ns.map V.str := by
  induction ns generalizing vs with
  | nil => cases h; rfl
  | cons n r ih =>
    cases h with
    | cons h1 h2 =>
      cases h1
      rw [ih h2]
      rfl
theorem Reps.of_ints : ∀ ns : List Int, Reps G B (ns.map V.int) (ns.map D.int)
  | [] => .nil
  | n :: r => .cons (.int n) (Reps.of_ints r)
theorem RepF.look {f : Str} {d : D} {fv : List (Str × V)} {fd : List (Str × D)} : RepF G B fv fd → fd.lookup f = some d → ∃ v, fv.lookup f = some v ∧ Rep G B v d
  | .nil, h => by simp [List.lookup] at h
  | .cons (f := g) (v := v) (fv := fv') h r, e => by
    cases c : (f == g) with
    | true =>
      rw [List.lookup_cons, c] at e
      have e' := Option.some.inj e
      subst e'
      exact ⟨v, by rw [List.lookup_cons, c], h⟩
    | false =>
      rw [List.lookup_cons, c] at e
      obtain ⟨v', h1, h2⟩ := RepF.look r e
      exact ⟨v', by rw [List.lookup_cons, c]; exact h1, h2⟩
theorem RepF.lookN {f : Str} {fv : List (Str × V)} {fd : List (Str × D)} : RepF G B fv fd → fd.lookup f = none → fv.lookup f = none
  | .nil, h => rfl
  | .cons (f := g) (fv := fv') h r, e => by
    cases c : (f == g) with
    | true =>
      rw [List.lookup_cons, c] at e
      cases e
    | false =>
      rw [List.lookup_cons, c] at e
      rw [List.lookup_cons, c]
      exact RepF.lookN r e
end

/-! ### how the heap goes on: B what stands for good, H all -/
theorem none_of_ex {B H : Hp} (e : Ex B H) {p : Addr} (h : H p = none) : B p = none := by
  cases q : B p with
  | none => rfl
  | some o => rw [e p o q] at h; cases h
/-- no table -/
def notTb : HO → Bool
  | .tbl _ => false
  | _ => true
/-- all but tables of code objects stays, those stay tables -/
structure ExT (G : Gm) (H H' : Hp) : Prop where
  k : ∀ a o, H a = some o → notTb o = true → H' a = some o
  n : ∀ a, H' a = none → H a = none
  t : ∀ p ∈ G.T, LamX.TabS H p.1 p.2 → LamX.TabS H' p.1 p.2
theorem ExT.of {G : Gm} {H H' : Hp} (e : Ex H H') : ExT G H H' := ⟨fun a o h _ => e a o h, fun _ h => none_of_ex e h, fun _ _ t => t.ext fun b o h => e b o h⟩
theorem ExT.refl {G : Gm} (H : Hp) : ExT G H H := .of (Ex.refl H)
theorem ExT.trans {G : Gm} {H H1 H2 : Hp} (a : ExT G H H1) (b : ExT G H1 H2) : ExT G H H2 := ⟨fun x o h p => b.k x o (a.k x o h p) p, fun x h => a.n x (b.n x h), fun p m t => b.t p m (a.t p m t)⟩
theorem ExT.has {G : Gm} {H H' : Hp} (e : ExT G H H') {a : Addr} {o : HO} (h : H a = some o) : ∃ o', H' a = some o' := by
  cases q : H' a with
  | none => rw [e.n a q] at h; cases h
  | some o' => exact ⟨o', rfl⟩
structure Go (G : Gm) (B H B' H' : Hp) : Prop where
  bb : Ex B B'
  bh : Ex B' H'
  hx : ExT G H H'
  fr : ∀ a o, H a = some o → B a = none → B' a = none
theorem Go.hh {G : Gm} {B H B' H' : Hp} (g : Go G B H B' H') (a : Addr) (o : HO) (h : H a = some o) (p : notTb o = true := by rfl) : H' a = some o := g.hx.k a o h p
section
variable {G : Gm} {B H B1 H1 B2 H2 : Hp}
theorem Go.refl (h : Ex B H) : Go G B H B H := ⟨Ex.refl B, h, ExT.refl H, fun _ _ _ h => h⟩
theorem Go.trans (a : Go G B H B1 H1) (b : Go G B1 H1 B2 H2) : Go G B H B2 H2 :=
  ⟨a.bb.trans b.bb, b.bh, a.hx.trans b.hx, fun x o h1 h2 => (a.hx.has h1).elim fun o' h' => b.fr x o' h' (a.fr x o h1 h2)⟩
theorem Ex.upd2 {p : Addr} {o : HO} (e : Ex B H) : Ex (upd B p o) (upd H p o) := fun a u h => by
  by_cases c : a = p
  · subst c
    rw [upd_same] at h ⊢
    exact h
  · rw [upd_ne c] at h ⊢
    exact e a u h
theorem Go.new (e : Ex B H) {p : Addr} {o : HO} (h : H p = none) : Go G B H (upd B p o) (upd H p o) :=
  ⟨Ex.new (none_of_ex e h), Ex.upd2 e, .of (Ex.new h), fun a u h1 h2 => by rw [upd_ne (ne_of_none h1 h)]; exact h2⟩
theorem Go.newO (e : Ex B H) {p : Addr} {o : HO} (h : H p = none) : Go G B H B (upd H p o) :=
  ⟨Ex.refl B, fun a u q => by rw [upd_ne (ne_of_none (e a u q) h)]; exact e a u q, .of (Ex.new h), fun _ _ _ h2 => h2⟩
theorem upd_ex {H0 H : Hp} {l : Addr} {o : HO} (e : Ex H0 H) (h : H0 l = none) : Ex H0 (upd H l o) := fun a u q => by
  rw [upd_ne (ne_of_none q h)]
  exact e a u q
/-- no table, no code object -/
def plainO : HO → Bool
  | .tbl _ => false
  | .ext _ => false
  | _ => true
theorem tabS_upd {H : Hp} {l P : Addr} {q : Str} {o o1 : HO} (t : LamX.TabS H P q) (hl : H l = some o1) (p : plainO o1 = true) : LamX.TabS (upd H l o) P q := by
  obtain ⟨ps, h1, h2, h3⟩ := t
  have n1 : P ≠ l := fun z => by
    rw [z, hl] at h1
    cases h1
    cases p
  refine ⟨ps, by rw [upd_ne n1]; exact h1, h2, fun pos cv hc => ?_⟩
  obtain ⟨c, e1, e2⟩ := h3 pos cv hc
  have n2 : c ≠ l := fun z => by
    rw [z, hl] at e2
    rw [Option.some.inj e2] at p
    cases p
  exact ⟨c, e1, by rw [upd_ne n2]; exact e2⟩
theorem updT {G : Gm} {H0 H : Hp} {l : Addr} {o o1 : HO} (e : ExT G H0 H) (h : H0 l = none) (hl : H l = some o1) (p : plainO o1 = true := by rfl) : ExT G H0 (upd H l o) :=
  ⟨fun a u q n => by
    rw [upd_ne (ne_of_none q h)]
    exact e.k a u q n, fun a q => by
    by_cases c : a = l
    · rw [c]; exact h
    · rw [upd_ne c] at q
      exact e.n a q, fun q m t => tabS_upd (e.t q m t) hl p⟩
theorem upd_ex2 {B H : Hp} {l : Addr} {o : HO} (e : Ex B H) (h : H l = some o) : Ex (upd B l o) H := fun a u q => by
  by_cases c : a = l
  · subst c
    rw [upd_same] at q
    rw [h]
    exact q
  · rw [upd_ne c] at q
    exact e a u q
end

/-! ### what is ours -/
/-- an attribute of an object of ours, a slot: data, or a list, a dict of ours -/
inductive FV where
  | d (x : D) | lst (ds : List D) | dk (kvs : List (Key × D)) | dt (kvs : List (List Key × D))
  deriving Inhabited
def FV.dat : FV → D
  | .d x => x
  | .lst ds => .lst ds
  | .dk k => .dk k
  | .dt k => .dt k
def fsD (fs : List (Str × FV)) : List (Str × D) := fs.map fun p => (p.1, p.2.dat)
inductive SV where
  | fv (x : FV)
  | obj (sf : Bool) (c : Nat) (fs : List (Str × FV))
  | brw (ds : List D)
  | nst (xs ys : List D)
  | dob (fs : List (Str × FV))
  | lam (f c : Addr) (q : Str) (ws : List V) (cs : List D)
  | tok (x : D)
  deriving Inhabited
abbrev SV.d (x : D) : SV := .fv (.d x)
abbrev En := List (Option SV)
/-- the content of an object of ours -/
inductive Ho (G : Gm) (B : Hp) : HO → FV → Prop
  | lst {vs : List V} {ds : List D} : Reps G B vs ds → Ho G B (.lst vs) (.lst ds)
  | dk {kv : List (Key × V)} {kd : List (Key × D)} : RepK G B kv kd → Ho G B (.dK kv) (.dk kd)
  | dt {kv : List (List Key × V)} {kd : List (List Key × D)} : RepT G B kv kd → Ho G B (.dT kv) (.dt kd)
inductive FvOk (G : Gm) (H0 B H : Hp) : V → FV → List Addr → Prop
  | d {v : V} {x : D} : Rep G B v x → FvOk G H0 B H v (.d x) []
  | own {a : Addr} {o : HO} {x : FV} : H0 a = none → B a = none → H a = some o → Ho G B o x → FvOk G H0 B H (.ref a) x [a]
inductive FsOk (G : Gm) (H0 B H : Hp) : List (Str × V) → List (Str × FV) → List Addr → Prop
  | nil : FsOk G H0 B H [] [] []
  | cons {f : Str} {v : V} {x : FV} {fv : List (Str × V)} {fs : List (Str × FV)} {as bs : List Addr} : FvOk G H0 B H v x as → FsOk G H0 B H fv fs bs → FsOk G H0 B H ((f, v) :: fv) ((f, x) :: fs) (as ++ bs)
inductive SlotOk (G : Gm) (pn : Addr) (H0 B H : Hp) : V → SV → List Addr → Prop
  | fv {v : V} {x : FV} {as : List Addr} : FvOk G H0 B H v x as → SlotOk G pn H0 B H v (.fv x) as
  | obj {sf : Bool} {l dx : Addr} {c : Nat} {fv : List (Str × V)} {fs : List (Str × FV)} {as : List Addr} : (sf = true → l = pn) → H0 l = none → B l = none → H l = some (.ins (G.cm c) dx fv) → FsOk G H0 B H fv fs as → (l :: as).Nodup → SlotOk G pn H0 B H (.ref l) (.obj sf c fs) (l :: as)
  | brw {l : Addr} {vs : List V} {ds : List D} : H0 l = some (.lst vs) → Reps G B vs ds → SlotOk G pn H0 B H (.ref l) (.brw ds) []
  | nst {l p q : Addr} {us ws : List V} {xs ys : List D} : (∀ a, a ∈ [l, p, q] → H0 a = none ∧ B a = none) → H l = some (.lst [.ref p, .ref q]) → H p = some (.lst us) → Reps G B us xs → H q = some (.lst ws) → Reps G B ws ys → [l, p, q].Nodup → SlotOk G pn H0 B H (.ref l) (.nst xs ys) [l, p, q]
  | dob {l : Addr} {fv : List (Str × V)} {fs : List (Str × FV)} {as : List Addr} : H0 l = none → B l = none → H l = some (.dK (fv.map fun p => (.inr p.1, p.2))) → FsOk G H0 B H fv fs as → (l :: as).Nodup → SlotOk G pn H0 B H (.ref l) (.dob fs) (l :: as)
  | lam {f c : Addr} {q : Str} {ws : List V} {cs : List D} : H c = some (LamX.CodeO c q) → Reps G B ws cs → SlotOk G pn H0 B H (.ref f) (.lam f c q ws cs) []
  | tok {v : V} {x : D} : Rep G B v x → (∀ p ∈ G.T, H0 p.1 = none) → SlotOk G pn H0 B H v (.tok x) []
/-- the tables of code objects stand, and nothing of them is for good -/
def TbOk (G : Gm) (B H : Hp) : Prop := ∀ p ∈ G.T, B p.1 = none ∧ LamX.TabS H p.1 p.2
structure Slots' (G : Gm) (pn : Addr) (H0 B H : Hp) (σ : L2.St) (ρ : En) (ow : Nat → List Addr) : Prop where
  len : σ.length = ρ.length
  ex0 : ExT G H0 H
  ex : Ex B H
  ok : ∀ (i : Nat) (s : SV), ρ[i]? = some (some s) → ∃ v, σ[i]? = some (some v) ∧ SlotOk G pn H0 B H v s (ow i)
  ap : ∀ (i j : Nat) (si sj : SV) (a : Addr), ρ[i]? = some (some si) → ρ[j]? = some (some sj) → a ∈ ow i → a ∈ ow j → i = j
  tb : TbOk G B H
def Slots (G : Gm) (pn : Addr) (H0 B H : Hp) (σ : L2.St) (ρ : En) : Prop := ∃ ow, Slots' G pn H0 B H σ ρ ow
section
variable {G : Gm} {pn : Addr} {H0 B H B1 H1 : Hp} {σ : L2.St} {ρ : En} {ow : Nat → List Addr}
theorem nst_mem {l p q : Addr} {R : Addr → Prop} : (∀ a, a ∈ [l, p, q] → R a) ↔ R l ∧ R p ∧ R q := by
  constructor
  · exact fun h => ⟨h _ (by simp), h _ (by simp), h _ (by simp)⟩
  · rintro ⟨h1, h2, h3⟩ a m
    rcases List.mem_cons.mp m with rfl | m
    · exact h1
    · rcases List.mem_cons.mp m with rfl | m
      · exact h2
      · rw [List.mem_singleton.mp m]; exact h3
theorem nst_l {l p q : Addr} : l ∈ [l, p, q] := List.mem_cons_self
theorem nst_p {l p q : Addr} : p ∈ [l, p, q] := List.mem_cons_of_mem _ List.mem_cons_self
theorem nst_q {l p q : Addr} : q ∈ [l, p, q] := List.mem_cons_of_mem _ (List.mem_cons_of_mem _ List.mem_cons_self)
theorem Ho.mono (e : Ex B B1) {o : HO} {x : FV} : Ho G B o x → Ho G B1 o x
  | .lst r => .lst (r.mono e)
  | .dk r => .dk (r.mono e)
  | .dt r => .dt (r.mono e)
theorem Ho.rep {a : Addr} {o : HO} {x : FV} (hb : B a = some o) : Ho G B o x → Rep G B (.ref a) x.dat
  | .lst r => .lst hb r
  | .dk r => .dk hb r
  | .dt r => .dt hb r
theorem Ho.notTb {o : HO} {x : FV} (h : Ho G B o x) : notTb o = true := by cases h <;> rfl
theorem FvOk.go (g : Go G B H B1 H1) {v : V} {x : FV} {as : List Addr} : FvOk G H0 B H v x as → FvOk G H0 B1 H1 v x as
  | .d r => .d (r.mono g.bb)
  | .own h0 hb hl r => .own h0 (g.fr _ _ hl hb) (g.hh _ _ hl r.notTb) (r.mono g.bb)
theorem FsOk.go (g : Go G B H B1 H1) : ∀ {fv : List (Str × V)} {fs : List (Str × FV)} {as : List Addr}, FsOk G H0 B H fv fs as → FsOk G H0 B1 H1 fv fs as
  | _, _, _, .nil => .nil
  | _, _, _, .cons h r => .cons (h.go g) (FsOk.go g r)
theorem SlotOk.go (g : Go G B H B1 H1) {v : V} {s : SV} {as : List Addr} : SlotOk G pn H0 B H v s as → SlotOk G pn H0 B1 H1 v s as
  | .fv h => .fv (h.go g)
  | .obj z h0 hb hl r n => .obj z h0 (g.fr _ _ hl hb) (g.hh _ _ hl) (r.go g) n
  | .brw h0 r => .brw h0 (r.mono g.bb)
  | .nst h0 hl hp rp hq rq n => .nst (nst_mem.mpr ⟨⟨(h0 _ nst_l).1, g.fr _ _ hl (h0 _ nst_l).2⟩, ⟨(h0 _ nst_p).1, g.fr _ _ hp (h0 _ nst_p).2⟩, (h0 _ nst_q).1, g.fr _ _ hq (h0 _ nst_q).2⟩) (g.hh _ _ hl) (g.hh _ _ hp) (rp.mono g.bb) (g.hh _ _ hq) (rq.mono g.bb) n
  | .dob h0 hb hl r n => .dob h0 (g.fr _ _ hl hb) (g.hh _ _ hl) (r.go g) n
  | .lam h r => .lam (g.hh _ _ h) (r.mono g.bb)
  | .tok r h => .tok (r.mono g.bb) h
/-- the addresses of what is ours -/
theorem FvOk.addr {v : V} {x : FV} {as : List Addr} {a : Addr} (h : FvOk G H0 B H v x as) (m : a ∈ as) : H0 a = none ∧ B a = none ∧ ∃ o, H a = some o := by
  cases h with
  | d r => cases m
  | own h0 hb hl r =>
    rw [List.mem_singleton.mp m]
    exact ⟨h0, hb, _, hl⟩
theorem FsOk.addr {a : Addr} : ∀ {fv : List (Str × V)} {fs : List (Str × FV)} {as : List Addr}, FsOk G H0 B H fv fs as → a ∈ as → H0 a = none ∧ B a = none ∧ ∃ o, H a = some o
  | _, _, _, .cons h r, m => (List.mem_append.mp m).elim (fun m => h.addr m) fun m => FsOk.addr r m
theorem SlotOk.addr {v : V} {s : SV} {as : List Addr} {a : Addr} (h : SlotOk G pn H0 B H v s as) (m : a ∈ as) : H0 a = none ∧ B a = none ∧ ∃ o, H a = some o := by
  cases h with
  | fv h => exact h.addr m
  | obj z h0 hb hl r n =>
    rcases List.mem_cons.mp m with w | w
    · rw [w]
      exact ⟨h0, hb, _, hl⟩
    · exact r.addr w
  | brw h0 r => cases m
  | nst h0 hl hp rp hq rq n =>
    exact nst_mem (R := fun a => H0 a = none ∧ B a = none ∧ ∃ o, H a = some o) |>.mpr ⟨⟨(h0 _ nst_l).1, (h0 _ nst_l).2, _, hl⟩, ⟨(h0 _ nst_p).1, (h0 _ nst_p).2, _, hp⟩, (h0 _ nst_q).1, (h0 _ nst_q).2, _, hq⟩ a m
  | dob h0 hb hl r n =>
    rcases List.mem_cons.mp m with w | w
    · rw [w]
      exact ⟨h0, hb, _, hl⟩
    · exact r.addr w
  | lam _ _ => cases m
  | tok _ _ => cases m
theorem FsOk.len : ∀ {fv : List (Str × V)} {fs : List (Str × FV)} {as : List Addr}, FsOk G H0 B H fv fs as → fv.length = fs.length
  | _, _, _, .nil => rfl
  | _, _, _, .cons _ r => congrArg Nat.succ (FsOk.len r)
theorem FsOk.look {f : Str} {x : FV} : ∀ {fv : List (Str × V)} {fs : List (Str × FV)} {as : List Addr}, FsOk G H0 B H fv fs as → fs.lookup f = some x → ∃ v bs, fv.lookup f = some v ∧ FvOk G H0 B H v x bs ∧ ∀ b, b ∈ bs → b ∈ as
  | _, _, _, .nil, h => by simp [List.lookup] at h
  | _, _, _, .cons (f := g) (v := v) (as := bs) h r, e => by
    cases c : (f == g) with
    | true =>
      rw [List.lookup_cons, c] at e
      have e' := Option.some.inj e
      subst e'
      exact ⟨v, bs, by rw [List.lookup_cons, c], h, fun b m => List.mem_append_left _ m⟩
    | false =>
      rw [List.lookup_cons, c] at e
      obtain ⟨v', bs, h1, h2, h3⟩ := FsOk.look r e
      exact ⟨v', bs, by rw [List.lookup_cons, c]; exact h1, h2, fun b m => List.mem_append_right _ (h3 b m)⟩
theorem FsOk.lookN {f : Str} : ∀ {fv : List (Str × V)} {fs : List (Str × FV)} {as : List Addr}, FsOk G H0 B H fv fs as → fs.lookup f = none → fv.lookup f = none
  | _, _, _, .nil, h => rfl
  | _, _, _, .cons (f := g) h r, e => by
    cases c : (f == g) with
    | true =>
      rw [List.lookup_cons, c] at e
      cases e
    | false =>
      rw [List.lookup_cons, c] at e
      rw [List.lookup_cons, c]
      exact FsOk.lookN r e
def off (H : Hp) (as : List Addr) : Hp := fun b => if b ∈ as then none else H b
theorem off_in {H : Hp} {as : List Addr} {b : Addr} (h : b ∈ as) : off H as b = none := if_pos h
theorem off_out {H : Hp} {as : List Addr} {b : Addr} (h : ¬ b ∈ as) : off H as b = H b := if_neg h
theorem off_exH {H : Hp} {as : List Addr} : Ex (off H as) H := fun b o h => by
  by_cases c : b ∈ as
  · rw [off_in c] at h; cases h
  · rw [off_out c] at h; exact h
theorem offT {G : Gm} {H : Hp} {as : List Addr} : ExT G (off H as) H := .of off_exH
theorem tabS_off {H : Hp} {as : List Addr} {P : Addr} {q : Str} (t : LamX.TabS H P q) (n : ∀ a, a ∈ as → ∀ o, H a = some o → plainO o = true) : LamX.TabS (off H as) P q := by
  obtain ⟨ps, h1, h2, h3⟩ := t
  have nn : ∀ b o, H b = some o → plainO o = false → off H as b = some o := fun b o e z => by
    rw [off_out]
    · exact e
    · intro m
      rw [n b m o e] at z
      cases z
  refine ⟨ps, nn _ _ h1 rfl, h2, fun pos cv hc => ?_⟩
  obtain ⟨c, e1, e2⟩ := h3 pos cv hc
  exact ⟨c, e1, nn _ _ e2 rfl⟩
/-- behind a part that keeps all but as -/
theorem ExT.offT {G : Gm} {H0 H1 H2 : Hp} {as : List Addr} (e : ExT G H0 H1) (z : ExT G (off H1 as) H2) (n : ∀ a o, H0 a = some o → ¬ a ∈ as) (pl : ∀ a, a ∈ as → ∀ o, H1 a = some o → plainO o = true) : ExT G H0 H2 :=
  ⟨fun a o q p => z.k a o (by rw [off_out (n a o q)]; exact e.k a o q p) p, fun a q => by
    cases h : H0 a with
    | none => rfl
    | some o =>
      have w := z.n a q
      rw [off_out (n a o h)] at w
      rw [e.n a w] at h
      exact absurd h (by simp), fun q m t => z.t q m (tabS_off (e.t q m t) pl)⟩
/-- what else changes: at addresses in as only -/
structure Off (G : Gm) (as : List Addr) (B H B1 H1 : Hp) : Prop where
  bb : Ex B B1
  kb : ∀ b o, H b = some o → ¬ b ∈ as → B b = none → B1 b = none
  hx : ExT G (off H as) H1
theorem Off.kh {G : Gm} {as : List Addr} (z : Off G as B H B1 H1) (b : Addr) (o : HO) (h : H b = some o) (n : ¬ b ∈ as) (p : notTb o = true := by rfl) : H1 b = some o := z.hx.k b o (by rw [off_out n]; exact h) p
theorem FvOk.off {cs : List Addr} (z : Off G cs B H B1 H1) {v : V} {x : FV} {as : List Addr} (h : FvOk G H0 B H v x as) (n : ∀ a, a ∈ as → ¬ a ∈ cs) : FvOk G H0 B1 H1 v x as := by
  cases h with
  | d r => exact .d (r.mono z.bb)
  | own h0 hb hl r =>
    have nn := n _ (List.mem_singleton.mpr rfl)
    exact .own h0 (z.kb _ _ hl nn hb) (z.kh _ _ hl nn r.notTb) (r.mono z.bb)
theorem FsOk.off {cs : List Addr} (z : Off G cs B H B1 H1) : ∀ {fv : List (Str × V)} {fs : List (Str × FV)} {as : List Addr}, FsOk G H0 B H fv fs as → (∀ a, a ∈ as → ¬ a ∈ cs) → FsOk G H0 B1 H1 fv fs as
  | _, _, _, .nil, _ => .nil
  | _, _, _, .cons h r, n => .cons (h.off z fun a m => n a (List.mem_append_left _ m)) (FsOk.off z r fun a m => n a (List.mem_append_right _ m))
theorem SlotOk.off {cs : List Addr} (z : Off G cs B H B1 H1) {v : V} {s : SV} {as : List Addr} (h : SlotOk G pn H0 B H v s as) (n : ∀ a, a ∈ as → ¬ a ∈ cs) (pl : ∀ a, a ∈ cs → ∀ o, H a = some o → plainO o = true) : SlotOk G pn H0 B1 H1 v s as := by
  cases h with
  | fv h => exact .fv (h.off z n)
  | obj zs h0 hb hl r nd =>
    have nn := n _ List.mem_cons_self
    exact .obj zs h0 (z.kb _ _ hl nn hb) (z.kh _ _ hl nn) (r.off z fun a m => n a (List.mem_cons_of_mem _ m)) nd
  | brw h0 r => exact .brw h0 (r.mono z.bb)
  | nst h0 hl hp rp hq rq nd =>
    obtain ⟨n1, n2, n3⟩ := nst_mem.mp n
    exact .nst (nst_mem.mpr ⟨⟨(h0 _ nst_l).1, z.kb _ _ hl n1 (h0 _ nst_l).2⟩, ⟨(h0 _ nst_p).1, z.kb _ _ hp n2 (h0 _ nst_p).2⟩, (h0 _ nst_q).1, z.kb _ _ hq n3 (h0 _ nst_q).2⟩) (z.kh _ _ hl n1) (z.kh _ _ hp n2) (rp.mono z.bb) (z.kh _ _ hq n3) (rq.mono z.bb) nd
  | dob h0 hb hl r nd =>
    have nn := n _ List.mem_cons_self
    exact .dob h0 (z.kb _ _ hl nn hb) (z.kh _ _ hl nn) (r.off z fun a m => n a (List.mem_cons_of_mem _ m)) nd
  | lam h r => exact .lam (z.kh _ _ h (fun m => by have := pl _ m _ h; cases this)) (r.mono z.bb)
  | tok r h => exact .tok (r.mono z.bb) h
/-- another entry -/
theorem FvOk.base {H0' : Hp} {v : V} {x : FV} {as : List Addr} (h : FvOk G H0 B H v x as) (n : ∀ a, a ∈ as → H0' a = none) : FvOk G H0' B H v x as := by
  cases h with
  | d r => exact .d r
  | own h0 hb hl r => exact .own (n _ (List.mem_singleton.mpr rfl)) hb hl r
theorem FsOk.base {H0' : Hp} : ∀ {fv : List (Str × V)} {fs : List (Str × FV)} {as : List Addr}, FsOk G H0 B H fv fs as → (∀ a, a ∈ as → H0' a = none) → FsOk G H0' B H fv fs as
  | _, _, _, .nil, _ => .nil
  | _, _, _, .cons h r, n => .cons (h.base fun a m => n a (List.mem_append_left _ m)) (FsOk.base r fun a m => n a (List.mem_append_right _ m))
def SV.isBrw : SV → Bool
  | .brw _ => true
  | .obj sf _ _ => sf
  | .lam .. => true
  | .tok _ => true
  | _ => false
theorem SlotOk.base {H0' : Hp} {v : V} {s : SV} {as : List Addr} (h : SlotOk G pn H0 B H v s as) (nb : s.isBrw = false) (n : ∀ a, a ∈ as → H0' a = none) : SlotOk G pn H0' B H v s as := by
  cases h with
  | fv h => exact .fv (h.base n)
  | obj zs h0 hb hl r nd => exact .obj zs (n _ List.mem_cons_self) hb hl (r.base fun a m => n a (List.mem_cons_of_mem _ m)) nd
  | brw h0 r => cases nb
  | nst h0 hl hp rp hq rq nd => exact .nst (fun a m => ⟨n a m, (h0 a m).2⟩) hl hp rp hq rq nd
  | dob h0 hb hl r nd => exact .dob (n _ List.mem_cons_self) hb hl (r.base fun a m => n a (List.mem_cons_of_mem _ m)) nd
  | lam _ _ => cases nb
  | tok _ _ => cases nb
/-- all of it stands for good -/
theorem FvOk.freeze {v : V} {x : FV} {as : List Addr} (h : FvOk G H0 B H v x as) (e : Ex B H) : ∃ B1, Ex B B1 ∧ Ex B1 H ∧ Rep G B1 v x.dat ∧ ∀ b, ¬ b ∈ as → B b = none → B1 b = none := by
  cases h with
  | d r => exact ⟨B, Ex.refl B, e, r, fun _ _ h => h⟩
  | @own a o x h0 hb hl r =>
    refine ⟨upd B a o, Ex.new hb, upd_ex2 e hl, (r.mono (Ex.new hb)).rep upd_same, fun b nb hn => ?_⟩
    rw [upd_ne fun z => nb (List.mem_singleton.mpr z)]
    exact hn
theorem FsOk.freeze : ∀ {fv : List (Str × V)} {fs : List (Str × FV)} {as : List Addr}, FsOk G H0 B H fv fs as → as.Nodup → Ex B H → ∃ B1, Ex B B1 ∧ Ex B1 H ∧ RepF G B1 fv (fsD fs) ∧ ∀ b, ¬ b ∈ as → B b = none → B1 b = none
  | _, _, _, .nil, _, e => ⟨B, Ex.refl B, e, .nil, fun _ _ h => h⟩
  | _, _, _, .cons (f := f) (x := x) (as := as) (bs := bs) h r, n, e => by
    obtain ⟨n1, n2, n3⟩ := List.nodup_append.mp n
    obtain ⟨B1, a1, a2, a3, a4⟩ := FsOk.freeze r n2 e
    have z : Off G bs B H B1 H := ⟨a1, fun b o _ nb hb => a4 b nb hb, Ci.offT⟩
    obtain ⟨B2, c1, c2, c3, c4⟩ := (h.off z fun a m m2 => n3 a m a m2 rfl).freeze a2
    exact ⟨B2, a1.trans c1, c2, .cons c3 (a3.mono c1), fun b nb hb => c4 b (fun m => nb (List.mem_append_left _ m)) (a4 b (fun m => nb (List.mem_append_right _ m)) hb)⟩
def dobD (fs : List (Str × FV)) : List (Key × D) := (fsD fs).map fun p => (.inr p.1, p.2)
theorem RepF.toK : ∀ {fv : List (Str × V)} {fd : List (Str × D)}, RepF G B fv fd → RepK G B (fv.map fun p => (.inr p.1, p.2)) (fd.map fun p => (.inr p.1, p.2))
  | _, _, .nil => .nil
  | _, _, .cons r t => .cons r (RepF.toK t)
def SV.dat : SV → D
  | .fv x => x.dat
  | .obj _ c fs => .ins c (fsD fs)
  | .brw ds => .lst ds
  | .nst xs ys => .lst [.lst xs, .lst ys]
  | .dob fs => .dk (dobD fs)
  | .lam .. => .non
  | .tok x => x
theorem SlotOk.freeze {v : V} {s : SV} {as : List Addr} (h : SlotOk G pn H0 B H v s as) (nb : s.isBrw = false) (e : Ex B H) : ∃ B1, Ex B B1 ∧ Ex B1 H ∧ Rep G B1 v s.dat ∧ ∀ b, ¬ b ∈ as → B b = none → B1 b = none := by
  cases h with
  | fv h => exact h.freeze e
  | @obj sf l dx c fv fs as zs h0 hb hl r nd =>
    obtain ⟨n1, n2⟩ := List.nodup_cons.mp nd
    obtain ⟨B1, a1, a2, a3, a4⟩ := r.freeze n2 e
    have hb1 := a4 l n1 hb
    refine ⟨upd B1 l _, a1.trans (Ex.new hb1), upd_ex2 a2 hl, .ins upd_same (a3.mono (Ex.new hb1)), fun b m hb => ?_⟩
    rw [upd_ne fun z => m (by rw [z]; exact List.mem_cons_self)]
    exact a4 b (fun z => m (List.mem_cons_of_mem _ z)) hb
  | brw h0 r => cases nb
  | @nst l p q us ws xs ys h0 hl hp rp hq rq nd =>
    obtain ⟨⟨_, b1⟩, ⟨_, b2⟩, _, b3⟩ := nst_mem.mp h0
    obtain ⟨n1, nd⟩ := List.nodup_cons.mp nd
    obtain ⟨n2, _⟩ := List.nodup_cons.mp nd
    have lp : l ≠ p := fun z => n1 (z ▸ List.mem_cons_self)
    have lq : l ≠ q := fun z => n1 (z ▸ List.mem_cons_of_mem _ List.mem_cons_self)
    have pq : p ≠ q := fun z => n2 (z ▸ List.mem_cons_self)
    have e1 : Ex B (upd B p (.lst us)) := Ex.new b2
    have c3 : upd B p (.lst us) q = none := by rw [upd_ne pq.symm]; exact b3
    have e2 : Ex (upd B p (.lst us)) (upd (upd B p (.lst us)) q (.lst ws)) := Ex.new c3
    have c1 : upd (upd B p (.lst us)) q (.lst ws) l = none := by rw [upd_ne lq, upd_ne lp]; exact b1
    have e3 : Ex (upd (upd B p (.lst us)) q (.lst ws)) (upd (upd (upd B p (.lst us)) q (.lst ws)) l (.lst [.ref p, .ref q])) := Ex.new c1
    refine ⟨_, (e1.trans e2).trans e3, upd_ex2 (upd_ex2 (upd_ex2 e hp) hq) hl, .lst upd_same (.cons (.lst (by rw [upd_ne lp.symm, upd_ne pq, upd_same]) (rp.mono ((e1.trans e2).trans e3))) (.cons (.lst (by rw [upd_ne lq.symm, upd_same]) (rq.mono ((e1.trans e2).trans e3))) .nil)), fun b m hb => ?_⟩
    have m1 : b ≠ l := fun z => m (z ▸ nst_l)
    have m2 : b ≠ p := fun z => m (z ▸ nst_p)
    have m3 : b ≠ q := fun z => m (z ▸ nst_q)
    rw [upd_ne m1, upd_ne m3, upd_ne m2]
    exact hb
  | @dob l fv fs as h0 hb hl r nd =>
    obtain ⟨n1, n2⟩ := List.nodup_cons.mp nd
    obtain ⟨B1, a1, a2, a3, a4⟩ := r.freeze n2 e
    have hb1 := a4 l n1 hb
    refine ⟨upd B1 l _, a1.trans (Ex.new hb1), upd_ex2 a2 hl, .dk upd_same (RepF.toK (a3.mono (Ex.new hb1))), fun b m hb => ?_⟩
    rw [upd_ne fun z => m (by rw [z]; exact List.mem_cons_self)]
    exact a4 b (fun z => m (List.mem_cons_of_mem _ z)) hb
  | lam _ _ => cases nb
  | tok _ _ => cases nb

/-- what is no self's -/
theorem SlotOk.pin {pm : Addr} {v : V} {s : SV} {as : List Addr} (h : SlotOk G pn H0 B H v s as) (nb : s.isBrw = false) : SlotOk G pm H0 B H v s as := by
  cases h with
  | fv h => exact .fv h
  | obj zs h0 hb hl r nd => exact .obj (fun z => by rw [z] at nb; cases nb) h0 hb hl r nd
  | brw h0 r => cases nb
  | nst h0 hl hp rp hq rq nd => exact .nst h0 hl hp rp hq rq nd
  | dob h0 hb hl r nd => exact .dob h0 hb hl r nd
  | lam _ _ => cases nb
  | tok _ _ => cases nb
theorem TbOk.go (t : TbOk G B H) (g : Go G B H B1 H1) : TbOk G B1 H1 := fun p m => by
  obtain ⟨n, ps, h1, h2, h3⟩ := t p m
  exact ⟨g.fr _ _ h1 n, g.hx.t _ m ⟨ps, h1, h2, h3⟩⟩
theorem TbOk.ex (t : TbOk G B H) (e : Ex H H1) : TbOk G B H1 := fun p m => ⟨(t p m).1, (t p m).2.ext fun b o h => e b o h⟩
theorem Ho.plain {o : HO} {x : FV} (h : Ho G B o x) : plainO o = true := by cases h <;> rfl
theorem FvOk.plain {v : V} {x : FV} {as : List Addr} {a : Addr} {o : HO} (h : FvOk G H0 B H v x as) (m : a ∈ as) (e : H a = some o) : plainO o = true := by
  cases h with
  | d r => cases m
  | own h0 hb hl r =>
    rw [List.mem_singleton.mp m, hl] at e
    cases e
    exact r.plain
theorem FsOk.plain {a : Addr} {o : HO} (e : H a = some o) : ∀ {fv : List (Str × V)} {fs : List (Str × FV)} {as : List Addr}, FsOk G H0 B H fv fs as → a ∈ as → plainO o = true
  | _, _, _, .cons h r, m => (List.mem_append.mp m).elim (fun m => h.plain m e) fun m => FsOk.plain e r m
theorem SlotOk.plain {v : V} {s : SV} {as : List Addr} {a : Addr} {o : HO} (h : SlotOk G pn H0 B H v s as) (m : a ∈ as) (e : H a = some o) : plainO o = true := by
  cases h with
  | fv h => exact h.plain m e
  | obj z h0 hb hl r n =>
    rcases List.mem_cons.mp m with w | w
    · rw [w, hl] at e
      cases e
      rfl
    · exact FsOk.plain e r w
  | brw h0 r => cases m
  | nst h0 hl hp rp hq rq n =>
    rcases List.mem_cons.mp m with w | m
    · rw [w, hl] at e
      cases e
      rfl
    rcases List.mem_cons.mp m with w | m
    · rw [w, hp] at e
      cases e
      rfl
    · rw [List.mem_singleton.mp m, hq] at e
      cases e
      rfl
  | dob h0 hb hl r n =>
    rcases List.mem_cons.mp m with w | w
    · rw [w, hl] at e
      cases e
      rfl
    · exact FsOk.plain e r w
  | lam _ _ => cases m
  | tok _ _ => cases m
theorem plain_notTb {o : HO} (h : plainO o = true) : notTb o = true := by cases o <;> first | rfl | cases h
theorem SlotOk.notTb {v : V} {s : SV} {as : List Addr} {a : Addr} {o : HO} (h : SlotOk G pn H0 B H v s as) (m : a ∈ as) (e : H a = some o) : notTb o = true := plain_notTb (h.plain m e)
theorem TbOk.off {cs : List Addr} (t : TbOk G B H) (z : Off G cs B H B1 H1) (n : ∀ a, a ∈ cs → ∀ o, H a = some o → plainO o = true) : TbOk G B1 H1 := fun p m => by
  obtain ⟨hb, ps, h1, h2, h3⟩ := t p m
  have np : ¬ p.1 ∈ cs := fun q => by
    have := n _ q _ h1
    cases this
  exact ⟨z.kb _ _ h1 np hb, z.hx.t _ m (tabS_off ⟨ps, h1, h2, h3⟩ n)⟩
theorem Slots'.go (S : Slots' G pn H0 B H σ ρ ow) (g : Go G B H B1 H1) : Slots' G pn H0 B1 H1 σ ρ ow :=
  ⟨S.len, S.ex0.trans g.hx, g.bh, fun i s h => by
    obtain ⟨v, h1, h2⟩ := S.ok i s h
    exact ⟨v, h1, h2.go g⟩, S.ap, S.tb.go g⟩
theorem Slots.go (S : Slots G pn H0 B H σ ρ) (g : Go G B H B1 H1) : Slots G pn H0 B1 H1 σ ρ := ⟨_, S.choose_spec.go g⟩
theorem Slots.ex (S : Slots G pn H0 B H σ ρ) : Ex B H := S.choose_spec.ex
theorem Slots.ex0 (S : Slots G pn H0 B H σ ρ) : ExT G H0 H := S.choose_spec.ex0
theorem Slots.tb (S : Slots G pn H0 B H σ ρ) : TbOk G B H := S.choose_spec.tb
theorem Slots.len (S : Slots G pn H0 B H σ ρ) : σ.length = ρ.length := S.choose_spec.len
/-- a value by the side of the slots -/
def SlotsV (G : Gm) (pn : Addr) (H0 B H : Hp) (σ : L2.St) (ρ : En) (v : V) (s : SV) : Prop := ∃ ow as, Slots' G pn H0 B H σ ρ ow ∧ SlotOk G pn H0 B H v s as ∧ ∀ a, a ∈ as → ∀ (j : Nat) (t : SV), ρ[j]? = some (some t) → ¬ a ∈ ow j
theorem SlotsV.s {v : V} {s : SV} (h : SlotsV G pn H0 B H σ ρ v s) : Slots G pn H0 B H σ ρ := h.elim fun ow h => h.elim fun as h => ⟨ow, h.1⟩
theorem set_look {ρ : En} {i : Nat} {s : Option SV} (j : Nat) (t : SV) (q : (ρ.set i s)[j]? = some (some t)) : (j = i ∧ s = some t ∧ i < ρ.length) ∨ (j ≠ i ∧ ρ[j]? = some (some t)) := by
  by_cases c : i = j
  · subst c
    by_cases hi : i < ρ.length
    · rw [List.getElem?_set_self hi] at q
      exact .inl ⟨rfl, Option.some.inj q, hi⟩
    · rw [List.getElem?_eq_none (by rw [List.length_set]; omega)] at q
      cases q
  · rw [List.getElem?_set_ne c] at q
    exact .inr ⟨fun z => c z.symm, q⟩
def ow1 (ow : Nat → List Addr) (i : Nat) (as : List Addr) : Nat → List Addr := fun j => if j = i then as else ow j
theorem ow1_same {i : Nat} {as : List Addr} : ow1 ow i as i = as := if_pos rfl
theorem ow1_ne {i j : Nat} {as : List Addr} (h : j ≠ i) : ow1 ow i as j = ow j := if_neg h
/-- a slot is stored anew -/
theorem SlotsV.set {v : V} {s : SV} (h : SlotsV G pn H0 B H σ ρ v s) (i : Nat) : Slots G pn H0 B H (σ.set i (some v)) (ρ.set i (some s)) := by
  obtain ⟨ow, as, S, ok, no⟩ := h
  refine ⟨ow1 ow i as, by rw [List.length_set, List.length_set]; exact S.len, S.ex0, S.ex, fun j t q => ?_, fun j k sj sk a q1 q2 m1 m2 => ?_, S.tb⟩
  · rcases set_look j t q with ⟨rfl, e, hi⟩ | ⟨c, q⟩
    · cases e
      exact ⟨v, List.getElem?_set_self (by rw [S.len]; exact hi), by rw [ow1_same]; exact ok⟩
    · obtain ⟨w, h1, h2⟩ := S.ok j t q
      exact ⟨w, by rw [List.getElem?_set_ne (fun z => c z.symm)]; exact h1, by rw [ow1_ne c]; exact h2⟩
  · rcases set_look j sj q1 with ⟨e1, e2, hi⟩ | ⟨c, p1⟩
    · rcases set_look k sk q2 with ⟨e3, e4, _⟩ | ⟨c2, p2⟩
      · rw [e1, e3]
      · rw [e1, ow1_same] at m1
        rw [ow1_ne c2] at m2
        exact absurd m2 (no a m1 k sk p2)
    · rcases set_look k sk q2 with ⟨e3, e4, hi⟩ | ⟨c2, p2⟩
      · rw [e3, ow1_same] at m2
        rw [ow1_ne c] at m1
        exact absurd m1 (no a m2 j sj p1)
      · rw [ow1_ne c] at m1
        rw [ow1_ne c2] at m2
        exact S.ap j k sj sk a p1 p2 m1 m2
theorem Slots.setD (S : Slots G pn H0 B H σ ρ) {i : Nat} {v : V} {x : D} (h : Rep G B v x) : Slots G pn H0 B H (σ.set i (some v)) (ρ.set i (some (.d x))) :=
  SlotsV.set (s := .d x) (S.elim fun ow S => ⟨ow, [], S, .fv (.d h), fun a m => nomatch m⟩) i
/-- what is new lies in no slot -/
theorem Slots'.fresh (S : Slots' G pn H0 B H σ ρ ow) {a : Addr} (h : H a = none) (j : Nat) (t : SV) (q : ρ[j]? = some (some t)) : ¬ a ∈ ow j := fun m => by
  obtain ⟨v, h1, h2⟩ := S.ok j t q
  obtain ⟨_, _, o, hl⟩ := h2.addr m
  rw [h] at hl
  cases hl
theorem SlotsV.mk {v : V} {s : SV} {as : List Addr} (S : Slots G pn H0 B H σ ρ) (g : Go G B H B1 H1) (nb : s.isBrw = false) (h : SlotOk G pn H B1 H1 v s as) : SlotsV G pn H0 B1 H1 σ ρ v s := by
  obtain ⟨ow, S⟩ := S
  refine ⟨ow, as, S.go g, h.base nb fun a m => S.ex0.n _ (h.addr m).1, fun a m j t q => S.fresh (h.addr m).1 j t q⟩
/-- what is ours through slot i changes, or stands for good: elsewhere all stands -/
theorem Slots'.others (S : Slots' G pn H0 B H σ ρ ow) {i : Nat} {s0 : SV} {s : Option SV} {as' : List Addr} {B' H' : Hp} (hi : ρ[i]? = some (some s0)) (z : Off G (ow i) B H B' H')
    (ex0 : ExT G H0 H') (ex1 : Ex B' H') (new : ∀ t, s = some t → ∃ v, σ[i]? = some (some v) ∧ SlotOk G pn H0 B' H' v t as') (sub : ∀ a, a ∈ as' → a ∈ ow i ∨ H a = none) : Slots' G pn H0 B' H' σ (ρ.set i s) (ow1 ow i as') := by
  refine ⟨by rw [List.length_set]; exact S.len, ex0, ex1, fun j t q => ?_, fun j k sj sk a q1 q2 m1 m2 => ?_, S.tb.off z fun a m o e => by
    obtain ⟨v, _, h2⟩ := S.ok i s0 hi
    exact h2.plain m e⟩
  · rcases set_look j t q with ⟨rfl, e, _⟩ | ⟨c, q⟩
    · rw [ow1_same]
      exact new t e
    · obtain ⟨w, hw, ok⟩ := S.ok j t q
      refine ⟨w, hw, ?_⟩
      rw [ow1_ne c]
      exact ok.off z (fun a m m2 => c (S.ap i j s0 t a hi q m2 m).symm) fun a m o e => by
        obtain ⟨v, _, h2⟩ := S.ok i s0 hi
        exact h2.plain m e
  · have key : ∀ (j : Nat) (t : SV), (ρ.set i s)[j]? = some (some t) → a ∈ ow1 ow i as' j → (∃ t', ρ[j]? = some (some t') ∧ a ∈ ow j) ∨ (j = i ∧ H a = none) := fun j t q m => by
      rcases set_look j t q with ⟨e1, e2, _⟩ | ⟨c, p⟩
      · rw [e1, ow1_same] at m
        rcases sub a m with m | m
        · exact .inl ⟨s0, by rw [e1]; exact hi, by rw [e1]; exact m⟩
        · exact .inr ⟨e1, m⟩
      · rw [ow1_ne c] at m
        exact .inl ⟨t, p, m⟩
    rcases key j sj q1 m1 with ⟨t1, p1, n1⟩ | ⟨e1, n1⟩
    · rcases key k sk q2 m2 with ⟨t2, p2, n2⟩ | ⟨e2, n2⟩
      · exact S.ap j k t1 t2 a p1 p2 n1 n2
      · exact absurd n1 (S.fresh n2 j t1 p1)
    · rcases key k sk q2 m2 with ⟨t2, p2, n2⟩ | ⟨e2, n2⟩
      · exact absurd n2 (S.fresh n1 k t2 p2)
      · rw [e1, e2]
theorem Off.up {a : Addr} {o : HO} {cs : List Addr} (m : a ∈ cs) : Off G cs B H B (upd H a o) := ⟨Ex.refl B, fun _ _ _ _ h => h, .of fun b u h => by
  have nb : ¬ b ∈ cs := fun z => by rw [off_in z] at h; cases h
  rw [off_out nb] at h
  rw [upd_ne fun z => nb (by rw [z]; exact m)]
  exact h⟩
/-- an object of ours at the top of a slot changes -/
theorem Slots.up (S : Slots G pn H0 B H σ ρ) {i : Nat} {x x' : FV} {a : Addr} {o o' : HO} (hi : ρ[i]? = some (some (.fv x))) (hs : σ[i]? = some (some (.ref a))) (hx : Ho G B o x) (hx' : Ho G B o' x') :
    Slots G pn H0 B (upd H a o') σ (ρ.set i (some (.fv x'))) := by
  obtain ⟨ow, S⟩ := S
  obtain ⟨v, h1, h2⟩ := S.ok i _ hi
  rw [hs] at h1
  have e := Option.some.inj (Option.some.inj h1)
  subst e
  generalize hw : ow i = cs at h2
  cases h2 with
  | fv h2 =>
    cases h2 with
    | d r => cases hx
    | own h0 hb' hl r =>
      refine ⟨_, S.others (as' := [a]) hi (hw ▸ Off.up (List.mem_singleton.mpr rfl)) (updT S.ex0 h0 hl r.plain) (upd_ex S.ex hb') (fun t e => ?_) (fun b m => .inl (hw ▸ m))⟩
      cases e
      exact ⟨_, hs, .fv (.own h0 hb' upd_same hx')⟩
/-- what a slot holds -/
theorem Slots.own (S : Slots G pn H0 B H σ ρ) {i : Nat} {x : FV} (hi : ρ[i]? = some (some (.fv x))) (nd : ∀ y, x ≠ .d y) : ∃ a o, σ[i]? = some (some (.ref a)) ∧ B a = none ∧ H a = some o ∧ Ho G B o x := by
  obtain ⟨ow, S⟩ := S
  obtain ⟨v, h1, h2⟩ := S.ok i _ hi
  generalize ow i = cs at h2
  cases h2 with
  | fv h2 =>
    cases h2 with
    | d r => exact absurd rfl (nd _)
    | own h0 hb' hl r => exact ⟨_, _, h1, hb', hl, r⟩
theorem Slots.data (S : Slots G pn H0 B H σ ρ) {i : Nat} {x : D} (hi : ρ[i]? = some (some (.d x))) : ∃ v, σ[i]? = some (some v) ∧ Rep G B v x := by
  obtain ⟨ow, S⟩ := S
  obtain ⟨v, h1, h2⟩ := S.ok i _ hi
  generalize ow i = cs at h2
  cases h2 with
  | fv h2 =>
    generalize hx : FV.d x = y at h2
    cases h2 with
    | d r =>
      cases hx
      exact ⟨v, h1, r⟩
    | own h0 hb' hl r =>
      subst hx
      cases r
theorem Slots.lent (S : Slots G pn H0 B H σ ρ) {i : Nat} {ds : List D} (hi : ρ[i]? = some (some (.brw ds))) : ∃ a vs, σ[i]? = some (some (.ref a)) ∧ H0 a = some (.lst vs) ∧ Reps G B vs ds := by
  obtain ⟨ow, S⟩ := S
  obtain ⟨v, h1, h2⟩ := S.ok i _ hi
  generalize ow i = cs at h2
  cases h2 with
  | brw h0 r => exact ⟨_, _, h1, h0, r⟩
theorem Slots.obj (S : Slots G pn H0 B H σ ρ) {i c : Nat} {sf : Bool} {fs : List (Str × FV)} (hi : ρ[i]? = some (some (.obj sf c fs))) : ∃ l dx fv ow as, (sf = true → l = pn) ∧ Slots' G pn H0 B H σ ρ ow ∧ ow i = l :: as ∧ σ[i]? = some (some (.ref l)) ∧ H0 l = none ∧ B l = none ∧ H l = some (.ins (G.cm c) dx fv) ∧ FsOk G H0 B H fv fs as ∧ (l :: as).Nodup := by
  obtain ⟨ow, S⟩ := S
  obtain ⟨v, h1, h2⟩ := S.ok i _ hi
  generalize hw : ow i = cs at h2
  cases h2 with
  | obj zs h0 hb hl r nd => exact ⟨_, _, _, ow, _, zs, S, hw, h1, h0, hb, hl, r, nd⟩
theorem Slots.nst (S : Slots G pn H0 B H σ ρ) {i : Nat} {xs ys : List D} (hi : ρ[i]? = some (some (.nst xs ys))) : ∃ l p q us ws ow, Slots' G pn H0 B H σ ρ ow ∧ ow i = [l, p, q] ∧ σ[i]? = some (some (.ref l)) ∧ (∀ a, a ∈ [l, p, q] → H0 a = none ∧ B a = none) ∧ H l = some (.lst [.ref p, .ref q]) ∧ H p = some (.lst us) ∧ Reps G B us xs ∧ H q = some (.lst ws) ∧ Reps G B ws ys ∧ [l, p, q].Nodup := by
  obtain ⟨ow, S⟩ := S
  obtain ⟨v, h1, h2⟩ := S.ok i _ hi
  generalize hw : ow i = cs at h2
  cases h2 with
  | nst h0 hl hp rp hq rq nd => exact ⟨_, _, _, _, _, ow, S, hw, h1, h0, hl, hp, rp, hq, rq, nd⟩
/-- one of two lists within a list changes -/
theorem Slots.upN (S : Slots G pn H0 B H σ ρ) {i : Nat} {xs ys ds : List D} {vs : List V} {k : Bool} (hi : ρ[i]? = some (some (.nst xs ys))) (hr : Reps G B vs ds) :
    ∃ l p q us ws, σ[i]? = some (some (.ref l)) ∧ H l = some (.lst [.ref p, .ref q]) ∧ H p = some (.lst us) ∧ H q = some (.lst ws) ∧ Slots G pn H0 B (upd H (if k then q else p) (.lst vs)) σ (ρ.set i (some (if k then .nst xs ds else .nst ds ys))) := by
  obtain ⟨l, p, q, us, ws, ow, S', e1, e2, h0, hl, hp, rp, hq, rq, nd⟩ := S.nst hi
  obtain ⟨n1, nd'⟩ := List.nodup_cons.mp nd
  obtain ⟨n2, _⟩ := List.nodup_cons.mp nd'
  have lp : l ≠ p := fun z => n1 (z ▸ List.mem_cons_self)
  have lq : l ≠ q := fun z => n1 (z ▸ List.mem_cons_of_mem _ List.mem_cons_self)
  have pq : p ≠ q := fun z => n2 (z ▸ List.mem_cons_self)
  refine ⟨l, p, q, us, ws, e2, hl, hp, hq, ?_⟩
  cases k with
  | false =>
    refine ⟨_, S'.others (as' := [l, p, q]) hi (e1 ▸ Off.up nst_p) (updT S'.ex0 (h0 _ nst_p).1 hp) (upd_ex S'.ex (h0 _ nst_p).2) (fun t e => ?_) fun b m => .inl (e1 ▸ m)⟩
    cases e
    exact ⟨_, e2, .nst h0 (by rw [if_neg (by decide), upd_ne lp]; exact hl) (by rw [if_neg (by decide)]; exact upd_same) hr (by rw [if_neg (by decide), upd_ne pq.symm]; exact hq) rq nd⟩
  | true =>
    refine ⟨_, S'.others (as' := [l, p, q]) hi (e1 ▸ Off.up nst_q) (updT S'.ex0 (h0 _ nst_q).1 hq) (upd_ex S'.ex (h0 _ nst_q).2) (fun t e => ?_) fun b m => .inl (e1 ▸ m)⟩
    cases e
    exact ⟨_, e2, .nst h0 (by rw [if_pos rfl, upd_ne lq]; exact hl) (by rw [if_pos rfl, upd_ne pq]; exact hp) rp (by rw [if_pos rfl]; exact upd_same) hr nd⟩
/-- a slot's object stands for good from now on; a slot is forgotten -/
theorem Slots.freeze (S : Slots G pn H0 B H σ ρ) {i : Nat} {s : SV} (hi : ρ[i]? = some (some s)) (nb : s.isBrw = false) : ∃ B', Ex B B' ∧ (∀ a o, H0 a = some o → B a = none → B' a = none) ∧ Slots G pn H0 B' H σ (ρ.set i (some (.d s.dat))) := by
  obtain ⟨ow, S⟩ := S
  obtain ⟨v, h1, h2⟩ := S.ok i _ hi
  obtain ⟨B1, a1, a2, a3, a4⟩ := h2.freeze nb S.ex
  refine ⟨B1, a1, fun a o q1 q2 => a4 a (fun m => ?_) q2, _, S.others (as' := []) hi ⟨a1, fun b o _ nb hb => a4 b nb hb, Ci.offT⟩ S.ex0 a2 (fun t e => ?_) fun a m => nomatch m⟩
  · have := (h2.addr m).1
    rw [q1] at this
    cases this
  · cases e
    exact ⟨v, h1, .fv (.d a3)⟩
theorem Slots.drop (S : Slots G pn H0 B H σ ρ) (i : Nat) : Slots G pn H0 B H σ (ρ.set i none) := by
  obtain ⟨ow, S⟩ := S
  refine ⟨ow, by rw [List.length_set]; exact S.len, S.ex0, S.ex, fun j t q => ?_, fun j k sj sk a q1 q2 m1 m2 => ?_, S.tb⟩
  · rcases set_look j t q with ⟨_, e, _⟩ | ⟨_, q⟩
    · cases e
    · exact S.ok j t q
  · rcases set_look j sj q1 with ⟨_, e, _⟩ | ⟨_, p1⟩
    · cases e
    · rcases set_look k sk q2 with ⟨_, e, _⟩ | ⟨_, p2⟩
      · cases e
      · exact S.ap j k sj sk a p1 p2 m1 m2
/-- a slot's own object moves out of it -/
theorem Slots.move (S : Slots G pn H0 B H σ ρ) {i : Nat} {s : SV} (hi : ρ[i]? = some (some s)) : ∃ v, σ[i]? = some (some v) ∧ SlotsV G pn H0 B H σ (ρ.set i none) v s := by
  have S2 := S.drop i
  obtain ⟨ow, S⟩ := S
  obtain ⟨v, h1, h2⟩ := S.ok i _ hi
  refine ⟨v, h1, ow, ow i, ?_, h2, fun a m j t q m2 => ?_⟩
  · refine ⟨by rw [List.length_set]; exact S.len, S.ex0, S.ex, fun j t q => ?_, fun j k sj sk a q1 q2 m1 m2 => ?_, S.tb⟩
    · rcases set_look j t q with ⟨_, e, _⟩ | ⟨_, q⟩
      · cases e
      · exact S.ok j t q
    · rcases set_look j sj q1 with ⟨_, e, _⟩ | ⟨_, p1⟩
      · cases e
      · rcases set_look k sk q2 with ⟨_, e, _⟩ | ⟨_, p2⟩
        · cases e
        · exact S.ap j k sj sk a p1 p2 m1 m2
  · rcases set_look j t q with ⟨_, e, _⟩ | ⟨c, q⟩
    · cases e
    · exact c (S.ap i j s t a hi q m m2).symm
/-! ### attributes of an object of ours -/
def putX (f : Str) (d : FV) : List (Str × FV) → List (Str × FV)
  | [] => [(f, d)]
  | (g, x) :: r => if g = f then (g, d) :: r else (g, x) :: putX f d r
theorem FsOk.put {f : Str} {v : V} {x : FV} {bs : List Addr} (h : FvOk G H0 B H v x bs) : ∀ {fv : List (Str × V)} {fs : List (Str × FV)} {as : List Addr}, FsOk G H0 B H fv fs as → as.Nodup → bs.Nodup → (∀ a, a ∈ bs → ¬ a ∈ as) →
    ∃ cs, FsOk G H0 B H (putF f v fv) (putX f x fs) cs ∧ cs.Nodup ∧ ∀ a, a ∈ cs → a ∈ as ∨ a ∈ bs
  | _, _, _, .nil, _, nb, _ => ⟨bs ++ [], .cons h .nil, by rw [List.append_nil]; exact nb, fun a m => .inr (by rw [List.append_nil] at m; exact m)⟩
  | _, _, _, .cons (f := g) (as := cs) (bs := ds) h1 r, n, nb, no => by
    obtain ⟨n1, n2, n3⟩ := List.nodup_append.mp n
    unfold putF putX
    by_cases c : g = f
    · rw [if_pos c, if_pos c]
      exact ⟨bs ++ ds, .cons h r, List.nodup_append.mpr ⟨nb, n2, fun a ha b hb e => no a ha (List.mem_append_right _ (e ▸ hb))⟩, fun a m => (List.mem_append.mp m).elim .inr fun m => .inl (List.mem_append_right _ m)⟩
    · rw [if_neg c, if_neg c]
      obtain ⟨es, e1, e2, e3⟩ := FsOk.put h r n2 nb fun a m z => no a m (List.mem_append_right _ z)
      refine ⟨cs ++ es, .cons h1 e1, List.nodup_append.mpr ⟨n1, e2, fun a ha b hb e => ?_⟩, fun a m => (List.mem_append.mp m).elim (fun m => .inl (List.mem_append_left _ m)) fun m => (e3 a m).imp (List.mem_append_right _) id⟩
      rcases e3 b hb with m | m
      · exact n3 a ha b m e
      · exact no b m (List.mem_append_left _ (e ▸ ha))
/-- an attribute that is ours changes -/
theorem FsOk.up {f : Str} {x x' : FV} {o' : HO} (hx : ∀ y, x ≠ .d y) (hx' : Ho G B o' x') : ∀ {fv : List (Str × V)} {fs : List (Str × FV)} {as : List Addr}, FsOk G H0 B H fv fs as → as.Nodup → fs.lookup f = some x →
    ∃ a o, fv.lookup f = some (.ref a) ∧ a ∈ as ∧ B a = none ∧ H a = some o ∧ Ho G B o x ∧ FsOk G H0 B (upd H a o') fv (putX f x' fs) as
  | _, _, _, .nil, _, h => by simp [List.lookup] at h
  | _, _, _, .cons (f := g) (v := v) (as := cs) (bs := ds) h r, n, e => by
    obtain ⟨n1, n2, n3⟩ := List.nodup_append.mp n
    unfold putX
    cases c : (f == g) with
    | true =>
      rw [List.lookup_cons, c] at e
      have e' := Option.some.inj e
      subst e'
      rw [if_pos (eq_of_beq c).symm]
      cases h with
      | d r' => exact absurd rfl (hx _)
      | @own a o _ h0 hb hl ho =>
        refine ⟨a, o, by rw [List.lookup_cons, c], List.mem_append_left _ (List.mem_singleton.mpr rfl), hb, hl, ho, .cons (.own h0 hb upd_same hx') (r.off (Off.up (cs := [a]) (List.mem_singleton.mpr rfl)) fun b m m2 => n3 a (List.mem_singleton.mpr rfl) b m (List.mem_singleton.mp m2).symm)⟩
    | false =>
      rw [List.lookup_cons, c] at e
      rw [if_neg fun z => by rw [z, beq_self_eq_true] at c; cases c]
      obtain ⟨a, o, k1, k2, k3, k4, k5, k6⟩ := FsOk.up hx hx' r n2 e
      exact ⟨a, o, by rw [List.lookup_cons, c]; exact k1, List.mem_append_right _ k2, k3, k4, k5, .cons (h.off (Off.up (cs := [a]) (List.mem_singleton.mpr rfl)) fun b m m2 => n3 b m a k2 (List.mem_singleton.mp m2)) k6⟩
theorem Slots.upF (S : Slots G pn H0 B H σ ρ) {i c : Nat} {sf : Bool} {fs : List (Str × FV)} {f : Str} {x x' : FV} {o' : HO} (hi : ρ[i]? = some (some (.obj sf c fs))) (hf : fs.lookup f = some x) (hx : ∀ y, x ≠ .d y) (hx' : Ho G B o' x') :
    ∃ l dx fv a o, σ[i]? = some (some (.ref l)) ∧ H l = some (.ins (G.cm c) dx fv) ∧ fv.lookup f = some (.ref a) ∧ B a = none ∧ H a = some o ∧ Ho G B o x ∧ Slots G pn H0 B (upd H a o') σ (ρ.set i (some (.obj sf c (putX f x' fs)))) := by
  obtain ⟨l, dx, fv, ow, as, zs, S', e1, e2, e3, e4, e5, e6, e7⟩ := S.obj hi
  obtain ⟨n1, n2⟩ := List.nodup_cons.mp e7
  obtain ⟨a, o, k1, k2, k3, k4, k5, k6⟩ := e6.up hx hx' n2 hf
  have nal : l ≠ a := fun z => n1 (z ▸ k2)
  refine ⟨l, dx, fv, a, o, e2, e5, k1, k3, k4, k5, _, S'.others (as' := l :: as) hi (e1 ▸ Off.up (List.mem_cons_of_mem _ k2)) (updT S'.ex0 (e6.addr k2).1 k4 k5.plain) (upd_ex S'.ex k3) (fun t e => ?_) fun b m => .inl (e1 ▸ m)⟩
  cases e
  exact ⟨_, e2, .obj zs e3 e4 (by rw [upd_ne nal]; exact e5) k6 e7⟩
/-- an attribute is stored -/
theorem SlotsV.fld {v : V} {x : FV} {i c : Nat} {sf : Bool} {fs : List (Str × FV)} (h : SlotsV G pn H0 B H σ ρ v (.fv x)) (f : Str) (hi : ρ[i]? = some (some (.obj sf c fs))) : ∃ l dx fv, σ[i]? = some (some (.ref l)) ∧ H l = some (.ins (G.cm c) dx fv) ∧ fv.length = fs.length ∧
    Slots G pn H0 B (upd H l (.ins (G.cm c) dx (putF f v fv))) σ (ρ.set i (some (.obj sf c (putX f x fs)))) := by
  obtain ⟨ow, bs, S', ok, no⟩ := h
  obtain ⟨u, h1, h2⟩ := S'.ok i _ hi
  have no1 := no
  generalize hw : ow i = cs at h2
  cases ok with
  | fv ok =>
  cases h2 with
  | @obj _ l dx _ fv _ as zs h0 hb hl r nd =>
    obtain ⟨n1, n2⟩ := List.nodup_cons.mp nd
    have nob : ∀ a, a ∈ bs → ¬ a ∈ l :: as := fun a m z => no a m i _ hi (hw ▸ z)
    have z : Off G [l] B H B (upd H l (.ins (G.cm c) dx (putF f v fv))) := Off.up (List.mem_singleton.mpr rfl)
    have nb : bs.Nodup := by
      cases ok with
      | d r => exact List.nodup_nil
      | own _ _ _ _ => exact List.nodup_cons.mpr ⟨List.not_mem_nil, List.nodup_nil⟩
    have r' := r.off z fun a m m2 => n1 (List.mem_singleton.mp m2 ▸ m)
    have ok' := ok.off z fun a m m2 => nob a m (List.mem_cons.mpr (.inl (List.mem_singleton.mp m2)))
    obtain ⟨es, k1, k2, k3⟩ := r'.put (f := f) ok' n2 nb fun a m z => nob a m (List.mem_cons_of_mem _ z)
    have nl : ¬ l ∈ es := fun m => (k3 l m).elim n1 fun m => nob l m List.mem_cons_self
    -- the slots: first those of the value's addresses are nobody's; then i takes them
    refine ⟨l, dx, fv, h1, hl, r.len, ow1 ow i (l :: es), by rw [List.length_set]; exact S'.len, updT S'.ex0 h0 hl, upd_ex S'.ex hb, fun j t q => ?_, fun j k sj sk a q1 q2 m1 m2 => ?_, S'.tb.off z fun a m o e => by
      rw [List.mem_singleton.mp m, hl] at e
      cases e
      rfl⟩
    · rcases set_look j t q with ⟨rfl, e, _⟩ | ⟨c', q⟩
      · cases e
        rw [ow1_same]
        exact ⟨_, h1, .obj zs h0 hb upd_same k1 (List.nodup_cons.mpr ⟨nl, k2⟩)⟩
      · obtain ⟨w, hw', ok2⟩ := S'.ok j t q
        refine ⟨w, hw', ?_⟩
        rw [ow1_ne c']
        exact ok2.off z (fun a m m2 => c' (S'.ap j i t _ a q hi m (hw ▸ List.mem_cons.mpr (.inl (List.mem_singleton.mp m2))))) fun a m o e => by
          rw [List.mem_singleton.mp m, hl] at e
          cases e
          rfl
    · have key : ∀ (j : Nat) (t : SV), (ρ.set i (some (.obj sf c (putX f x fs))))[j]? = some (some t) → a ∈ ow1 ow i (l :: es) j → (∃ t', ρ[j]? = some (some t') ∧ a ∈ ow j) ∨ (j = i ∧ a ∈ bs) := fun j t q m => by
        rcases set_look j t q with ⟨e1, e2, _⟩ | ⟨c', p⟩
        · rw [e1, ow1_same] at m
          rcases List.mem_cons.mp m with m | m
          · exact .inl ⟨_, by rw [e1]; exact hi, by rw [e1, hw]; exact List.mem_cons.mpr (.inl m)⟩
          · rcases k3 a m with m | m
            · exact .inl ⟨_, by rw [e1]; exact hi, by rw [e1, hw]; exact List.mem_cons_of_mem _ m⟩
            · exact .inr ⟨e1, m⟩
        · rw [ow1_ne c'] at m
          exact .inl ⟨t, p, m⟩
      rcases key j sj q1 m1 with ⟨t1, p1, n1'⟩ | ⟨e1, n1'⟩
      · rcases key k sk q2 m2 with ⟨t2, p2, n2'⟩ | ⟨e2, n2'⟩
        · exact S'.ap j k t1 t2 a p1 p2 n1' n2'
        · exact absurd n1' (no a n2' j t1 p1)
      · rcases key k sk q2 m2 with ⟨t2, p2, n2'⟩ | ⟨e2, n2'⟩
        · exact absurd n2' (no a n1' k t2 p2)
        · rw [e1, e2]
end
end Ci
end

section
set_option Elab.async false
set_option linter.all false
set_option maxRecDepth 100000
set_option maxHeartbeats 2000000
/-! ## a tuple times one is the tuple itself -/
namespace Ci
open PySem PySem.Spec PyProof.Rows L2
theorem tuple_mul1 (l : Addr) (items : Array Value) (n : Nat) (dd : Option Addr) (sl : Array (Option Value)) (u : Tok) :
    Meets (Builtin.«tuple.__mul__» ⟨[.ref l, .int 1 u], []⟩) (fun _ R s => s.heap.get? l = some { cls := .type "tuple", dict := dd, data := .seq items n, slots := sl } ∧
      R (.ok (.ret (Value.ref l))) s) :=
  .of_wp fun prog w A R s h => by
    obtain ⟨hp, g, d, tk, os⟩ := s
    obtain ⟨hl, h⟩ := h
    have f1 := AutoSeq1.idx_int
    have c0 : (decide ((1 : Int) < -(2 ^ 63)) || decide ((1 : Int) ≥ 2 ^ 63)) = false := by decide
    have c1 : (items.isEmpty || (1 : Int) == 1) = true := by rw [show ((1 : Int) == 1) = true from rfl, Bool.or_true]
    wp_walk using wpAny_loadPart' hl
    repeat (first
      | (refine wpAny_ite_false (decide_eq_false (by rw [c0]; exact Bool.false_ne_true)) ?_; wp_walk using wpAny_loadPart' hl)
      | (refine wpAny_ite_true (decide_eq_true c1) ?_; wp_walk using wpAny_loadPart' hl))
    exact ⟨_, rfl, h⟩
def rRepT1 (K : PySem.W.Frag) : R2 := fun x y H Q => ∃ l xs, x = .ref l ∧ y = .int 1 ∧ SqT K H l xs ∧ Q (.ref l) H
theorem op_repT1 {X : Cx} : OpR X (binaryOp .Mult) (rRepT1 X.K) := by
  intro pins s σ H x y v u Q I rx ry h
  obtain ⟨l, xs, rfl, rfl, hT, q⟩ := h
  cases rx
  obtain ⟨t, rfl⟩ := ry
  obtain ⟨its, r, ⟨⟨cls, dd, data, sl⟩, ho, hc, n, hd⟩, hs⟩ := I.tuple hT
  simp only at hc hd
  subst hc hd
  refine wpAny_binaryOp_repeat_ref (T := "tuple") (U := "int") (by decide) ⟨_, ho, rfl⟩ (fun s' => typeIs_int s' 1 t) noFill_tuple_mul F.fills_int_mul F.slot_int_rmul repeat_tuple F.slot_int_index.lookup
    (call_meets F.slot_int_rmul (typeIs_int s 1 t) F.entry_int_rmul (F.args_int_rmul_2 _ _) (int_rmul_tuple 1 t l its.toArray n dd sl)
      ⟨ho, rfl, ⟨_, ho, rfl⟩, call_meets F.slot_tuple_mul ⟨_, ho, rfl⟩ F.entry_tuple_mul (F.args_tuple_mul_2 _ _) (tuple_mul1 l its.toArray n dd sl t) ⟨ho, ?_⟩⟩)
  exact ⟨.ref l, H, I, rfl, q⟩
end Ci
end

section
set_option Elab.async false
set_option linter.all false
set_option maxRecDepth 100000
set_option maxHeartbeats 2000000
/-! ## values, results, operations by values -/
namespace Ci
open PySem PySem.Spec PyProof.Rows L2 Evl

/-- a value: data, an object of ours; or a look at an object of ours -/
inductive RV where
  | sv (s : SV) | vw (x : FV)
  deriving Inhabited
abbrev dv (d : D) : RV := .sv (.fv (.d d))
abbrev ov (x : FV) : RV := .sv (.fv x)
inductive R (α : Type) where
  | ok (a : α) | err (x : Nat) (f : Option (Str × D)) | bad
def R.bind {α β : Type} : R α → (α → R β) → R β
  | .ok a, k => k a
  | .err x f, _ => .err x f
  | .bad, _ => .bad
@[simp] theorem R.bind_ok {α β : Type} (a : α) (k : α → R β) : (R.ok a).bind k = k a := rfl
@[simp] theorem R.bind_err {α β : Type} (x : Nat) (f : Option (Str × D)) (k : α → R β) : (R.err x f).bind k = .err x f := rfl
@[simp] theorem R.bind_bad {α β : Type} (k : α → R β) : (R.bad).bind k = .bad := rfl
def R.ofO {α : Type} : Option α → R α
  | some a => .ok a
  | none => .bad

inductive RvOk (G : Gm) (Hi B H : Hp) : V → RV → Prop
  | sv {v : V} {s : SV} {as : List Addr} : s.isBrw = false → SlotOk G 0 Hi B H v s as → RvOk G Hi B H v (.sv s)
  | vw {a : Addr} {o : HO} {x : FV} : H a = some o → Ho G B o x → RvOk G Hi B H (.ref a) (.vw x)
def XOk (G : Gm) (E : XK) (B H : Hp) (x : Nat) : Option (Str × D) → Prop
  | none => ∀ B' H', Go G B H B' H' → E (.ref (G.ca x)) none H'
  | some (g, d) => ∀ B' H' dd v, Go G B H B' H' → H' dd = some (.xd [(g, v)]) → Rep G B' v d → E (.ref (G.ca x)) (some dd) H'
/-- what a caller wants of a result -/
def Post (G : Gm) (E : XK) {α β : Type} (rel : Hp → Hp → Hp → β → α → Prop) (B H : Hp) (r : R α) (Q : β → Hp → Prop) : Prop := match r with
  | .ok a => ∀ b B' H', Go G B H B' H' → rel H B' H' b a → Q b H'
  | .err x f => XOk G E B H x f
  | .bad => False
section
variable {G : Gm} {E : XK} {B H B1 H1 : Hp} {α β γ δ : Type} {rel : Hp → Hp → Hp → β → α → Prop} {rel' : Hp → Hp → Hp → δ → γ → Prop} {Q : β → Hp → Prop} {Q' : δ → Hp → Prop}
theorem XOk.go {x : Nat} {f : Option (Str × D)} (g : Go G B H B1 H1) (h : XOk G E B H x f) : XOk G E B1 H1 x f := by
  cases f with
  | none => exact fun B2 H2 g2 => h B2 H2 (g.trans g2)
  | some p => exact fun B2 H2 dd v g2 a r => h B2 H2 dd v (g.trans g2) a r
/-- relations that an earlier entry keeps -/
def Early (G : Gm) (rel : Hp → Hp → Hp → β → α → Prop) : Prop := ∀ Hi Hj B H b a, ExT G Hi Hj → rel Hj B H b a → rel Hi B H b a
theorem Post.go {r : R α} (e : Early G rel) (g : Go G B H B1 H1) (h : Post G E rel B H r Q) : Post G E rel B1 H1 r Q := by
  cases r with
  | ok a => exact fun b B2 H2 g2 q => h b B2 H2 (g.trans g2) (e _ _ _ _ _ _ g.hx q)
  | err x f => exact XOk.go g h
  | bad => exact h
theorem Post.bind {r : R γ} {k : γ → R α} (P : Post G E rel B H (r.bind k) Q) (hk : ∀ c, r = .ok c → Post G E rel B H (k c) Q → ∀ b B' H', Go G B H B' H' → rel' H B' H' b c → Q' b H') : Post G E rel' B H r Q' := by
  cases r with
  | ok c => exact fun b B' H' g q => hk c rfl P b B' H' g q
  | err x f => exact P
  | bad => exact P
theorem SlotOk.early {Hi Hj : Hp} {v : V} {s : SV} {as : List Addr} (nb : s.isBrw = false) (e : ExT G Hi Hj) (h : SlotOk G 0 Hj B H v s as) : SlotOk G 0 Hi B H v s as := h.base nb fun a m => e.n _ (h.addr m).1
theorem RvOk.early : Early G (RvOk G) := fun Hi Hj B H v rv e h => by
  cases h with
  | sv nb h => exact .sv nb (h.early nb e)
  | vw h1 h2 => exact .vw h1 h2
theorem RvOk.go {Hi : Hp} {v : V} {rv : RV} (g : Go G B H B1 H1) (h : RvOk G Hi B H v rv) : RvOk G Hi B1 H1 v rv := by
  cases h with
  | sv nb h => exact .sv nb (h.go g)
  | vw h1 h2 => exact .vw (g.hh _ _ h1 h2.notTb) (h2.mono g.bb)
theorem RvOk.d {Hi : Hp} {v : V} {d : D} (r : Rep G B v d) : RvOk G Hi B H v (dv d) := .sv rfl (.fv (.d r))
theorem RvOk.new {Hi : Hp} {p : Addr} {o : HO} {x : FV} (h0 : Hi p = none) (hb : B p = none) (hp : H p = some o) (r : Ho G B o x) : RvOk G Hi B H (.ref p) (ov x) := .sv rfl (.fv (.own h0 hb hp r))
/-- a new object of ours, answered -/
theorem Post.new {p : Addr} {o : HO} {x : FV} {Q : VK} (P : Post G E (RvOk G) B H (.ok (ov x)) Q) (e : Ex B H) (hp : H p = none) (r : Ho G B o x) : Q (.ref p) (upd H p o) :=
  P _ B _ (Go.newO e hp) (.new hp (none_of_ex e hp) upd_same r)
theorem Post.dat {v : V} {d : D} {Q : VK} (P : Post G E (RvOk G) B H (.ok (dv d)) Q) (e : Ex B H) (r : Rep G B v d) : Q v H := P _ B H (Go.refl e) (.d r)
theorem Post.tup {p : Addr} {vs : List V} {ds : List D} {Q : VK} (P : Post G E (RvOk G) B H (.ok (dv (.tup ds))) Q) (e : Ex B H) (hp : H p = none) (r : Reps G B vs ds) : Q (.ref p) (upd H p (.tup vs)) :=
  P _ _ _ (Go.new e hp) (.d (.tup (st_of upd_same) (r.mono (Ex.new (none_of_ex e hp)))))
/-- an own value becomes data -/
theorem RvOk.toD {Hi : Hp} {v : V} {s : SV} (h : RvOk G Hi B H v (.sv s)) (e : Ex B H) : ∃ B1, Rep G B1 v s.dat ∧ Ex B B1 ∧ Ex B1 H ∧ ∀ a o, Hi a = some o → B a = none → B1 a = none := by
  cases h with
  | sv nb h =>
    obtain ⟨B1, a1, a2, a3, a4⟩ := h.freeze nb e
    refine ⟨B1, a3, a1, a2, fun a o q1 q2 => a4 a (fun m => ?_) q2⟩
    have := (h.addr m).1
    rw [q1] at this
    cases this
end

/-! ### what is to be read -/
inductive Rdb (G : Gm) (B H : Hp) : V → D → Prop
  | rep {v : V} {d : D} : Rep G B v d → Rdb G B H v d
  | own {a : Addr} {o : HO} {x : FV} : H a = some o → Ho G B o x → Rdb G B H (.ref a) x.dat
def RV.rd : RV → R D
  | .sv (.fv x) => .ok x.dat
  | .vw x => .ok x.dat
  | _ => .bad
section
variable {G : Gm} {E : XK} {B H B1 H1 : Hp} {v : V}
theorem Rdb.go (g : Go G B H B1 H1) {d : D} : Rdb G B H v d → Rdb G B1 H1 v d
  | .rep r => .rep (r.mono g.bb)
  | .own h r => .own (g.hh _ _ h r.notTb) (r.mono g.bb)
theorem RvOk.rd {Hi : Hp} {rv : RV} {d : D} (h : RvOk G Hi B H v rv) (e : rv.rd = .ok d) : Rdb G B H v d := by
  cases h with
  | sv nb h =>
    cases h with
    | fv h =>
      cases e
      cases h with
      | d r => exact .rep r
      | own h0 hb hl r => exact .own hl r
    | obj => cases e
    | brw => cases nb
    | nst => cases e
    | dob => cases e
    | lam _ _ => cases e
    | tok _ _ => cases nb
  | vw h1 h2 =>
    cases e
    exact .own h1 h2
theorem Rdb.lst {ds : List D} (h : Rdb G B H v (.lst ds)) (e : Ex B H) : ∃ a vs, v = .ref a ∧ H a = some (.lst vs) ∧ Reps G B vs ds := by
  generalize hd : D.lst ds = d at h
  cases h with
  | rep r =>
    subst hd
    cases r with
    | lst h r => exact ⟨_, _, rfl, e _ _ h, r⟩
  | own h r =>
    cases r with
    | lst r =>
      cases hd
      exact ⟨_, _, rfl, h, r⟩
    | dk r => cases hd
    | dt r => cases hd
theorem Rdb.dk {ds : List (Key × D)} (h : Rdb G B H v (.dk ds)) (e : Ex B H) : ∃ a vs, v = .ref a ∧ H a = some (.dK vs) ∧ RepK G B vs ds := by
  generalize hd : D.dk ds = d at h
  cases h with
  | rep r =>
    subst hd
    cases r with
    | dk h r => exact ⟨_, _, rfl, e _ _ h, r⟩
  | own h r =>
    cases r with
    | lst r => cases hd
    | dk r =>
      cases hd
      exact ⟨_, _, rfl, h, r⟩
    | dt r => cases hd
theorem Rdb.dt {ds : List (List Key × D)} (h : Rdb G B H v (.dt ds)) (e : Ex B H) : ∃ a vs, v = .ref a ∧ H a = some (.dT vs) ∧ RepT G B vs ds := by
  generalize hd : D.dt ds = d at h
  cases h with
  | rep r =>
    subst hd
    cases r with
    | dt h r => exact ⟨_, _, rfl, e _ _ h, r⟩
  | own h r =>
    cases r with
    | lst r => cases hd
    | dk r => cases hd
    | dt r =>
      cases hd
      exact ⟨_, _, rfl, h, r⟩
def D.isRef : D → Bool
  | .lst _ => true
  | .dk _ => true
  | .dt _ => true
  | _ => false
theorem Rdb.plain {d : D} (h : Rdb G B H v d) (n : d.isRef = false) : Rep G B v d := by
  cases h with
  | rep r => exact r
  | own h r => cases r <;> cases n
theorem Rdb.int {i : Int} (h : Rdb G B H v (.int i)) : v = .int i := by
  cases h.plain rfl
  rfl
theorem Rdb.bl {i : Bool} (h : Rdb G B H v (.bl i)) : v = .bl i := by
  cases h.plain rfl
  rfl
theorem Rdb.non (h : Rdb G B H v .non) : v = .non := by
  cases h.plain rfl
  rfl
theorem Rdb.str {s : Str} (h : Rdb G B H v (.str s)) : v = .str s ∧ SOk s := by
  cases h.plain rfl
  exact ⟨rfl, by assumption⟩
theorem Rdb.tup {ds : List D} (h : Rdb G B H v (.tup ds)) (e : Ex B H) : ∃ a vs, v = .ref a ∧ SqT G.K H a vs ∧ Reps G B vs ds := by
  cases h.plain rfl with
  | tup h' r => exact ⟨_, _, rfl, ex_t e h', r⟩
theorem Rdb.scr {ns : List Int} (h : Rdb G B H v (.scr ns)) (e : Ex B H) : ∃ a, v = .ref a ∧ SqL G.K H a (ns.map V.int) := by
  cases h.plain rfl with
  | scr h' => exact ⟨_, rfl, ex_l e h'⟩
theorem Rdb.rng {lo hi : Int} (h : Rdb G B H v (.rng lo hi)) (e : Ex B H) : ∃ a, v = .ref a ∧ H a = some (.rng lo hi) := by
  cases h.plain rfl with
  | rng h' => exact ⟨_, rfl, e _ _ h'⟩
end

/-! ### two-place operations -/
/-- an operation r does what f says -/
def OpS (G : Gm) (r : R2) (f : D → D → R RV) : Prop := ∀ (E : XK) B H v u x y, Ex B H → Rdb G B H v x → Rdb G B H u y → ∀ Q, Post G E (RvOk G) B H (f x y) Q → r v u H Q
section
variable {G : Gm}
theorem OpS.or {r r' : R2} {f g : D → D → R RV} {h : D → D → R RV} (h1 : OpS G r f) (h2 : OpS G r' g) (e : ∀ x y, h x y = f x y ∨ h x y = g x y) : OpS G (fun x y H Q => r x y H Q ∨ r' x y H Q) h := fun E B H v u x y ex rx ry Q P => by
  rcases e x y with q | q
  · rw [q] at P
    exact .inl (h1 E B H v u x y ex rx ry Q P)
  · rw [q] at P
    exact .inr (h2 E B H v u x y ex rx ry Q P)
def intF (f : Int → Int → D) : D → D → R RV
  | .int m, .int n => .ok (dv (f m n))
  | _, _ => .bad
def intFC (C : Int → Int → Prop) [DecidableRel C] (f : Int → Int → D) : D → D → R RV
  | .int m, .int n => if C m n then .ok (dv (f m n)) else .bad
  | _, _ => .bad
theorem op_intF {g : Int → Int → V} {f : Int → Int → D} (h : ∀ B m n, Rep G B (g m n) (f m n)) : OpS G (rI0 g) (intF f) := fun E B H v u x y ex rx ry Q P => by
  cases x <;> cases y <;> first | exact P.elim | skip
  rw [rx.int, ry.int]
  exact ⟨_, _, rfl, rfl, P.dat ex (h B _ _)⟩
theorem op_intFC {C : Int → Int → Prop} [DecidableRel C] {g : Int → Int → V} {f : Int → Int → D} (h : ∀ B m n, Rep G B (g m n) (f m n)) : OpS G (rI C g) (intFC C f) := fun E B H v u x y ex rx ry Q P => by
  cases x <;> cases y <;> first | exact P.elim | skip
  rename_i m n
  unfold intFC at P
  by_cases c : C m n
  · simp only [if_pos c] at P
    rw [rx.int, ry.int]
    exact ⟨_, _, rfl, rfl, c, P.dat ex (h B _ _)⟩
  · simp only [if_neg c] at P
    exact P.elim
/-! + -/
def addF : D → D → R RV
  | .int m, .int n => .ok (dv (.int (m + n)))
  | .str s, .str t => if s.length + t.length ≤ sizeLine then .ok (dv (.str (s ++ t))) else .bad
  | .lst xs, .lst ys => if xs.length + ys.length ≤ sizeLine then .ok (ov (.lst (xs ++ ys))) else .bad
  | .tup xs, .tup ys => if xs.length + ys.length ≤ sizeLine then .ok (dv (.tup (xs ++ ys))) else .bad
  | _, _ => .bad
def rAddS : R2 := fun x y H Q => ∃ i j, x = .str i ∧ y = .str j ∧ i.length + j.length ≤ sizeLine ∧ Q (.str (i ++ j)) H
def rPlus (K : PySem.W.Frag) : R2 := fun x y H Q => rI0 (fun i j => .int (i + j)) x y H Q ∨ (rAddS x y H Q ∨ (rCat x y H Q ∨ rCatA K x y H Q))
theorem op_plusK {X : Cx} {K : PySem.W.Frag} (h : X.K = K) : OpR X (binaryOp .Add) (rPlus K) := h ▸ op_add.or (op_add_str.or (op_cat.or op_catA))
theorem sok_iff {s : Str} : SOk s ↔ ∀ c, c ∈ s.cps.toList → c < 0x110000 := by
  have e : PyData.canLay0 (.str s) = s.cps.all (· < 0x110000) := by
    unfold PyData.canLay0
    rfl
  unfold SOk
  rw [e, ← Array.all_toList, List.all_eq_true]
  constructor
  · intro h c m
    exact of_decide_eq_true (h c m)
  · intro h c m
    exact decide_eq_true (h c m)
theorem app_list (s t : Str) : (s ++ t).cps.toList = s.cps.toList ++ t.cps.toList := by
  show (s.cps ++ t.cps).toList = _
  simp
theorem SOk.app {s t : Str} (h1 : SOk s) (h2 : SOk t) : SOk (s ++ t) := sok_iff.mpr fun c m => by
  rw [app_list] at m
  exact (List.mem_append.mp m).elim (sok_iff.mp h1 c) (sok_iff.mp h2 c)
theorem opS_add : OpS G (rPlus G.K) addF := fun E B H v u x y ex rx ry Q P => by
  cases x <;> cases y <;> first | exact P.elim | skip
  · rw [rx.int, ry.int]
    exact .inl ⟨_, _, rfl, rfl, P.dat ex (.int _)⟩
  · rename_i s t
    unfold addF at P
    by_cases c : s.length + t.length ≤ sizeLine
    · simp only [if_pos c] at P
      rw [rx.str.1, ry.str.1]
      exact .inr (.inl ⟨_, _, rfl, rfl, c, P.dat ex (.str _ (rx.str.2.app ry.str.2))⟩)
    · simp only [if_neg c] at P
      exact P.elim
  · rename_i xs ys
    unfold addF at P
    by_cases c : xs.length + ys.length ≤ sizeLine
    · simp only [if_pos c] at P
      obtain ⟨a, vs, rfl, e1, r1⟩ := rx.tup ex
      obtain ⟨b, us, rfl, e2, r2⟩ := ry.tup ex
      refine .inr (.inr (.inr ⟨a, b, vs, us, rfl, rfl, e1, e2, by rw [r1.len, r2.len]; exact c, fun z => ?_, fun z z2 => ?_, fun z z2 p hp => P.tup ex hp (r1.app r2)⟩))
      · subst z
        cases r1
        exact P.dat ex (ry.plain rfl)
      · subst z2
        cases r2
        rw [List.append_nil] at P
        exact P.dat ex (rx.plain rfl)
    · simp only [if_neg c] at P
      exact P.elim
  · rename_i xs ys
    unfold addF at P
    by_cases c : xs.length + ys.length ≤ sizeLine
    · simp only [if_pos c] at P
      obtain ⟨a, vs, rfl, e1, r1⟩ := rx.lst ex
      obtain ⟨b, us, rfl, e2, r2⟩ := ry.lst ex
      exact .inr (.inr (.inl ⟨a, b, vs, us, rfl, rfl, e1, e2, by rw [r1.len, r2.len]; exact c, fun p hp => P.new ex hp (.lst (r1.app r2))⟩))
    · simp only [if_neg c] at P
      exact P.elim
/-! * -/
instance : DecidableRel CMul := fun m n => by unfold CMul; exact inferInstance
instance : DecidableRel CMulW := fun m n => by unfold CMulW; exact inferInstance
instance : DecidableRel CDivW := fun m n => by unfold CDivW; exact inferInstance
instance : DecidableRel CPow := fun m n => by unfold CPow; exact inferInstance
/-- a text times a number -/
def rRepS : R2 := fun x y H Q => ∃ s n, x = .str s ∧ y = .int n ∧ PySem.MulOk s n ∧ Q (.str (Txt.mul s n)) H
theorem op_repS {X : Cx} : OpR X (binaryOp .Mult) rRepS := by
  intro pins s σ H x y v u Q I rx ry h
  obtain ⟨i, j, rfl, rfl, hz, q⟩ := h
  obtain ⟨t, rfl⟩ := rx
  obtain ⟨t', rfl⟩ := ry
  exact PySem.SB.mul hz fun t' k => ⟨.str (Txt.mul i j), H, I.tok _, ⟨_, rfl⟩, q⟩
theorem fold_cat {α : Type} (x : Array α) : ∀ (n : Nat) (a : Array α), ((List.replicate n x).foldl (· ++ ·) a).toList = a.toList ++ (List.replicate n x.toList).flatten
  | 0, a => by simp
  | n + 1, a => by
    rw [List.replicate_succ, List.foldl_cons, fold_cat x n (a ++ x), List.replicate_succ, List.flatten_cons, Array.toList_append, List.append_assoc]
theorem mul_sok {s : Str} {n : Int} (h : SOk s) (hn : 2 ≤ n) : SOk (Txt.mul s n) := by
  unfold Txt.mul
  rw [if_neg (by omega)]
  split
  · exact h
  · refine sok_iff.mpr fun c m => ?_
    rw [show (⟨(List.replicate n.toNat s.cps).foldl (· ++ ·) #[]⟩ : Str).cps.toList = _ from fold_cat s.cps n.toNat #[]] at m
    rw [List.nil_append, List.mem_flatten] at m
    obtain ⟨l, ml, mc⟩ := m
    rw [(List.mem_replicate.mp ml).2] at mc
    exact sok_iff.mp h c mc
theorem mul_okS {s : Str} {n : Int} (h : 2 ≤ n ∧ n ≤ 1000 ∧ s.length ≤ 1000) : PySem.MulOk s n := by
  obtain ⟨h1, h2, h3⟩ := h
  refine ⟨?_, fun _ _ => ?_, fun _ _ => ?_⟩
  · rw [Bool.or_eq_false_iff, decide_eq_false_iff_not, decide_eq_false_iff_not]
    omega
  · have : (9223372036854775 : Int) ≤ (2 ^ 63 - 1) / n := by
      rw [Int.le_ediv_iff_mul_le (by omega)]
      have := Int.mul_le_mul_of_nonneg_left h2 (show (0 : Int) ≤ 9223372036854775 by decide)
      omega
    omega
  · unfold PySem.Builtin.Str.tooLong
    have : s.length * n.toNat ≤ 1000 * 1000 := Nat.mul_le_mul h3 (by omega)
    exact decide_eq_false (by rw [sizeLine_eq]; omega)
def rTimes (K : PySem.W.Frag) : R2 := fun x y H Q => rI CMul (fun i j => .int (i * j)) x y H Q ∨ (rI CMulW (fun i j => .int (i * j)) x y H Q ∨ (rRep x y H Q ∨ (rRepT K x y H Q ∨ (rRepT1 K x y H Q ∨ rRepS x y H Q))))
theorem op_timesK {X : Cx} {K : PySem.W.Frag} (h : X.K = K) : OpR X (binaryOp .Mult) (rTimes K) := h ▸ op_mul.or (op_mulW.or (op_rep.or (op_repT.or (op_repT1.or op_repS))))
def MulOk (m n : Int) : Prop := CMul m n ∨ CMulW m n
instance (m n : Int) : Decidable (MulOk m n) := by unfold MulOk; exact inferInstance
theorem mulR {m n : Int} (h1 : -(2 ^ 64) < n) (h2 : n < 2 ^ 64) : MulOk m n := .inl (.inr ⟨h1, h2⟩)
theorem mulL {m n : Int} (h1 : -(2 ^ 64) < m) (h2 : m < 2 ^ 64) : MulOk m n := .inl (.inl ⟨h1, h2⟩)
def mulF : D → D → R RV
  | .int m, .int n => if MulOk m n then .ok (dv (.int (m * n))) else .bad
  | .str s, .int n => if 2 ≤ n ∧ n ≤ 1000 ∧ s.length ≤ 1000 then .ok (dv (.str (Txt.mul s n))) else .bad
  | .lst xs, .int n => if n < 2 ^ 63 ∧ -(2 ^ 63) ≤ n ∧ xs.length * n.toNat ≤ sizeLine then .ok (ov (.lst (List.replicate n.toNat xs).flatten)) else .bad
  | .tup xs, .int n => if n = 1 then .ok (dv (.tup xs)) else if 2 ≤ n ∧ n ≤ 1000 ∧ xs.length ≤ 1000 ∧ xs ≠ [] then .ok (dv (.tup (List.replicate n.toNat xs).flatten)) else .bad
  | _, _ => .bad
theorem repl_reps {B : Hp} {vs : List V} {ds : List D} (r : Reps G B vs ds) : ∀ n : Nat, Reps G B (List.replicate n vs).flatten (List.replicate n ds).flatten
  | 0 => .nil
  | n + 1 => by
    rw [List.replicate_succ, List.replicate_succ, List.flatten_cons, List.flatten_cons]
    exact r.app (repl_reps r n)
theorem opS_mul : OpS G (rTimes G.K) mulF := fun E B H v u x y ex rx ry Q P => by
  cases x <;> cases y <;> first | exact P.elim | skip
  · rename_i m n
    unfold mulF at P
    by_cases c : MulOk m n
    · simp only [if_pos c] at P
      rw [rx.int, ry.int]
      rcases c with c | c
      · exact .inl ⟨_, _, rfl, rfl, c, P.dat ex (.int _)⟩
      · exact .inr (.inl ⟨_, _, rfl, rfl, c, P.dat ex (.int _)⟩)
    · simp only [if_neg c] at P
      exact P.elim
  · rename_i s n
    unfold mulF at P
    by_cases c : 2 ≤ n ∧ n ≤ 1000 ∧ s.length ≤ 1000
    · simp only [if_pos c] at P
      rw [rx.str.1, ry.int]
      exact .inr (.inr (.inr (.inr (.inr ⟨_, _, rfl, rfl, mul_okS c, P.dat ex (.str _ (mul_sok rx.str.2 c.1))⟩))))
    · simp only [if_neg c] at P
      exact P.elim
  · rename_i xs n
    unfold mulF at P
    by_cases c0 : n = 1
    · subst c0
      simp only [if_true] at P
      obtain ⟨a, vs, rfl, e1, r1⟩ := rx.tup ex
      rw [ry.int]
      exact .inr (.inr (.inr (.inr (.inl ⟨a, vs, rfl, rfl, e1, P.dat ex (rx.plain rfl)⟩))))
    simp only [if_neg c0] at P
    by_cases c : 2 ≤ n ∧ n ≤ 1000 ∧ xs.length ≤ 1000 ∧ xs ≠ []
    · simp only [if_pos c] at P
      obtain ⟨a, vs, rfl, e1, r1⟩ := rx.tup ex
      rw [ry.int]
      obtain ⟨c1, c2, c3, c4⟩ := c
      exact .inr (.inr (.inr (.inl ⟨a, n, vs, rfl, rfl, e1, fun z => c4 (by subst z; cases r1; rfl), c1, c2, by rw [r1.len]; exact c3, fun p hp => P.tup ex hp (repl_reps r1 _)⟩)))
    · simp only [if_neg c] at P
      exact P.elim
  · rename_i xs n
    unfold mulF at P
    by_cases c : n < 2 ^ 63 ∧ -(2 ^ 63) ≤ n ∧ xs.length * n.toNat ≤ sizeLine
    · simp only [if_pos c] at P
      obtain ⟨a, vs, rfl, e1, r1⟩ := rx.lst ex
      rw [ry.int]
      obtain ⟨c1, c2, c3⟩ := c
      exact .inr (.inr (.inl ⟨a, n, vs, rfl, rfl, e1, c2, c1, by rw [r1.len]; exact c3, fun p hp => P.new ex hp (.lst (repl_reps r1 _))⟩))
    · simp only [if_neg c] at P
      exact P.elim
/-! == -/
mutual
def toP : D → PyData
  | .non => .none
  | .bl b => .bool b
  | .int i => .int i
  | .str s => .str s
  | .tup ds => .tuple (toPs ds)
  | .lst ds => .list (toPs ds)
  | _ => .none
def toPs : List D → List PyData
  | [] => []
  | d :: ds => toP d :: toPs ds
end
mutual
def pure : D → Bool
  | .ins _ _ => false
  | .scr _ => false
  | .dk _ => false
  | .dt _ => false
  | .rng _ _ => false
  | .fnc _ => false
  | .tupN _ => false
  | .tup ds => pures ds
  | .lst ds => pures ds
  | _ => true
def pures : List D → Bool
  | [] => true
  | d :: ds => pure d && pures ds
end
mutual
theorem Rep.dp {B H : Hp} (e : Ex B H) {v : V} : ∀ {d : D}, pure d = true → Rep G B v d → Dp G.K H v (toP d) ∧ (toP d).canLay0 = true
  | .non, _, .non => ⟨.non, rfl⟩
  | .bl b, _, .bl _ => ⟨.bl b, rfl⟩
  | .int i, _, .int _ => ⟨.int i, rfl⟩
  | .str s, _, .str _ h => ⟨.str s, h⟩
  | .tup ds, n, .tup h r => ⟨.tup (ex_t e h) (Reps.dp e (by unfold pure at n; exact n) r).1, (Reps.dp e (by unfold pure at n; exact n) r).2⟩
  | .lst ds, n, .lst h r => ⟨.lst (sq_of (e _ _ h)) (Reps.dp e (by unfold pure at n; exact n) r).1, (Reps.dp e (by unfold pure at n; exact n) r).2⟩
  | .ins C fs, n, _ => by unfold pure at n; cases n
  | .scr ns, n, _ => by unfold pure at n; cases n
  | .dk ns, n, _ => by unfold pure at n; cases n
  | .dt ns, n, _ => by unfold pure at n; cases n
  | .rng _ _, n, _ => by unfold pure at n; cases n
  | .fnc _, n, _ => by unfold pure at n; cases n
  | .tupN _, n, _ => by unfold pure at n; cases n
theorem Reps.dp {B H : Hp} (e : Ex B H) {vs : List V} : ∀ {ds : List D}, pures ds = true → Reps G B vs ds → DpAll G.K H vs (toPs ds) ∧ PyData.canLayAll0 (toPs ds) = true
  | [], _, .nil => ⟨.nil, rfl⟩
  | d :: ds, n, .cons h r => by
    unfold pures at n
    rw [Bool.and_eq_true] at n
    refine ⟨.cons (Rep.dp e n.1 h).1 (Reps.dp e n.2 r).1, ?_⟩
    show ((toP d).canLay0 && PyData.canLayAll0 (toPs ds)) = true
    rw [(Rep.dp e n.1 h).2, (Reps.dp e n.2 r).2]
    rfl
end
theorem Rdb.dp {B H : Hp} (e : Ex B H) {v : V} {d : D} (n : pure d = true) (h : Rdb G B H v d) : Dp G.K H v (toP d) ∧ (toP d).canLay0 = true := by
  cases d with
  | lst ds =>
    obtain ⟨a, vs, rfl, h1, r⟩ := h.lst e
    have := r.dp e (by unfold pure at n; exact n)
    exact ⟨.lst (sq_of h1) this.1, this.2⟩
  | dk _ => cases n
  | dt _ => cases n
  | _ => exact (h.plain rfl).dp e n
mutual
/-- how deep -/
def D.dep : D → Nat
  | .tup ds => depL ds + 1
  | .lst ds => depL ds + 1
  | _ => 0
def depL : List D → Nat
  | [] => 0
  | d :: ds => max d.dep (depL ds)
end
mutual
theorem dep_le : ∀ d : D, (toP d).depth ≤ d.dep + 1
  | .non => Nat.le_of_ble_eq_true rfl
  | .bl b => Nat.le_of_ble_eq_true rfl
  | .int i => Nat.le_of_ble_eq_true rfl
  | .str s => Nat.le_of_ble_eq_true rfl
  | .tup ds => by
    have := depL_le ds
    show PyData.depth (.tuple (toPs ds)) ≤ depL ds + 1 + 1
    unfold PyData.depth
    omega
  | .lst ds => by
    have := depL_le ds
    show PyData.depth (.list (toPs ds)) ≤ depL ds + 1 + 1
    unfold PyData.depth
    omega
  | .ins _ _ => Nat.le_of_ble_eq_true rfl
  | .scr _ => Nat.le_of_ble_eq_true rfl
  | .dk _ => Nat.le_of_ble_eq_true rfl
  | .dt _ => Nat.le_of_ble_eq_true rfl
  | .rng _ _ => Nat.le_of_ble_eq_true rfl
  | .fnc _ => Nat.le_of_ble_eq_true rfl
  | .tupN _ => Nat.le_of_ble_eq_true rfl
theorem depL_le : ∀ ds : List D, PyData.depthAll (toPs ds) ≤ depL ds + 1
  | [] => Nat.le_of_ble_eq_true rfl
  | d :: ds => by
    have h1 := dep_le d
    have h2 := depL_le ds
    show PyData.depthAll (toP d :: toPs ds) ≤ max d.dep (depL ds) + 1
    unfold PyData.depthAll
    omega
end
def eqOk (d : D) : Bool := pure d && decide (d.dep ≤ 60)
theorem shaped_of {d : D} (h : eqOk d = true) (c : (toP d).canLay0 = true) : SeqAt.shaped (toP d) = true := by
  unfold eqOk at h
  rw [Bool.and_eq_true] at h
  have h2 := of_decide_eq_true h.2
  have h3 := dep_le d
  unfold SeqAt.shaped
  rw [c, Bool.true_and]
  exact decide_eq_true (by omega)
def eqv (x y : D) : Bool := PyData.eqv (toP x) (toP y)
def eqF (neg : Bool) (x y : D) : R RV := if eqOk x && eqOk y then .ok (dv (.bl (if neg then !eqv x y else eqv x y))) else .bad
theorem op_eqDK {X : Cx} {K : PySem.W.Frag} (h : X.K = K) (hu : X.A.units + 64 < cLine) : OpR X (compareOp .Eq) (rEqD K) := h ▸ op_eqD hu
theorem op_neDK {X : Cx} {K : PySem.W.Frag} (h : X.K = K) (hu : X.A.units + 64 < cLine) : OpR X (compareOp .NotEq) (rNeD K) := h ▸ op_neD hu
theorem opS_eq : OpS G (rEqD G.K) (eqF false) := fun E B H v u x y ex rx ry Q P => by
  unfold eqF at P
  by_cases c : (eqOk x && eqOk y) = true
  · rw [if_pos c] at P
    rw [Bool.and_eq_true] at c
    have p1 : pure x = true := by have := c.1; unfold eqOk at this; rw [Bool.and_eq_true] at this; exact this.1
    have p2 : pure y = true := by have := c.2; unfold eqOk at this; rw [Bool.and_eq_true] at this; exact this.1
    have d1 := rx.dp ex p1
    have d2 := ry.dp ex p2
    exact ⟨_, _, d1.1, d2.1, shaped_of c.1 d1.2, shaped_of c.2 d2.2, P.dat ex (.bl _)⟩
  · rw [if_neg c] at P
    exact P.elim
theorem opS_ne : OpS G (rNeD G.K) (eqF true) := fun E B H v u x y ex rx ry Q P => by
  unfold eqF at P
  by_cases c : (eqOk x && eqOk y) = true
  · rw [if_pos c] at P
    rw [Bool.and_eq_true] at c
    have p1 : pure x = true := by have := c.1; unfold eqOk at this; rw [Bool.and_eq_true] at this; exact this.1
    have p2 : pure y = true := by have := c.2; unfold eqOk at this; rw [Bool.and_eq_true] at this; exact this.1
    have d1 := rx.dp ex p1
    have d2 := ry.dp ex p2
    exact ⟨_, _, d1.1, d2.1, shaped_of c.1 d1.2, shaped_of c.2 d2.2, P.dat ex (.bl _)⟩
  · rw [if_neg c] at P
    exact P.elim
/-! is None -/
def rIsN : R2 := fun x y H Q => y = .non ∧ Q (.bl (decide (x = .non))) H
def rNotN : R2 := fun x y H Q => y = .non ∧ Q (.bl (!decide (x = .non))) H
theorem op_isN1 {X : Cx} : OpR X (compareOp .Is) rIsN := op_isN
theorem op_notN1 {X : Cx} : OpR X (compareOp .IsNot) rNotN := op_notN
def D.isNon : D → Bool
  | .non => true
  | _ => false
theorem Rdb.isNon {B H : Hp} {v : V} {d : D} (h : Rdb G B H v d) : decide (v = .non) = d.isNon := by
  cases h with
  | rep h => cases h <;> first | rfl | exact decide_eq_false (by intro h; cases h)
  | own h r => cases r <;> exact decide_eq_false (by intro h; cases h)
def isF (neg : Bool) : D → D → R RV
  | x, .non => .ok (dv (.bl (if neg then !x.isNon else x.isNon)))
  | _, _ => .bad
theorem opS_is : OpS G rIsN (isF false) := fun E B H v u x y ex rx ry Q P => by
  cases y <;> first | exact P.elim | skip
  refine ⟨ry.non, ?_⟩
  rw [rx.isNon]
  exact P.dat ex (.bl _)
theorem opS_isnot : OpS G rNotN (isF true) := fun E B H v u x y ex rx ry Q P => by
  cases y <;> first | exact P.elim | skip
  refine ⟨ry.non, ?_⟩
  rw [rx.isNon]
  exact P.dat ex (.bl _)
def isBF (neg : Bool) : D → D → R RV
  | .bl a, .bl b => .ok (dv (.bl (if neg then !decide (a = b) else decide (a = b))))
  | _, _ => .bad
theorem opS_isB : OpS G rIsB (isBF false) := fun E B H v u x y ex rx ry Q P => by
  cases x <;> first | exact P.elim | skip
  cases y <;> first | exact P.elim | skip
  exact ⟨_, _, rx.bl, ry.bl, P.dat ex (.bl _)⟩
theorem opS_notB : OpS G rNotB (isBF true) := fun E B H v u x y ex rx ry Q P => by
  cases x <;> first | exact P.elim | skip
  cases y <;> first | exact P.elim | skip
  exact ⟨_, _, rx.bl, ry.bl, P.dat ex (.bl _)⟩
def rInT (K : PySem.W.Frag) : R2 := fun x y H Q => ∃ d ds, Dp K H x d ∧ Dp K H y (.tuple ds) ∧ SeqAt.shaped d = true ∧ SeqAt.shaped (.tuple ds) = true ∧ Q (.bl (ds.any fun z => PyData.eqv z d)) H
def rNotInT (K : PySem.W.Frag) : R2 := fun x y H Q => ∃ d ds, Dp K H x d ∧ Dp K H y (.tuple ds) ∧ SeqAt.shaped d = true ∧ SeqAt.shaped (.tuple ds) = true ∧ Q (.bl (!ds.any fun z => PyData.eqv z d)) H
theorem op_inT {X : Cx} (hu : X.A.units + 65 < cLine) : OpR X (compareOp .In) (rInT X.K) := by
  intro pins s σ H x y v u Q I rx ry h
  obtain ⟨d, ds, hd, he, sd, se, q⟩ := h
  obtain ⟨as, r1⟩ := Dp.reads I d x v hd rx
  obtain ⟨bs, r2⟩ := Dp.reads I (.tuple ds) y u he ry
  exact SeqAt.in_tuple_reads r2 r1 (SeqAt.canLay_of_shaped se) (SeqAt.canLay_of_shaped sd) (room_in_shaped sd hu) ⟨.bl _, H, I, rfl, q⟩
theorem op_notInT {X : Cx} (hu : X.A.units + 65 < cLine) : OpR X (compareOp .NotIn) (rNotInT X.K) := by
  intro pins s σ H x y v u Q I rx ry h
  obtain ⟨d, ds, hd, he, sd, se, q⟩ := h
  obtain ⟨as, r1⟩ := Dp.reads I d x v hd rx
  obtain ⟨bs, r2⟩ := Dp.reads I (.tuple ds) y u he ry
  exact SeqAt.notIn_tuple_reads r2 r1 (SeqAt.canLay_of_shaped se) (SeqAt.canLay_of_shaped sd) (room_in_shaped sd hu) ⟨.bl _, H, I, rfl, q⟩
def rInA (K : PySem.W.Frag) : R2 := fun x y H Q => rInS x y H Q ∨ (rInT K x y H Q ∨ rInD K x y H Q)
def rNotInA (K : PySem.W.Frag) : R2 := fun x y H Q => rNotInS x y H Q ∨ (rNotInT K x y H Q ∨ rNotInD K x y H Q)
theorem op_inK {X : Cx} {K : PySem.W.Frag} (h : X.K = K) (hu : X.A.units + 65 < cLine) : OpR X (compareOp .In) (rInA K) := h ▸ op_inS.or ((op_inT hu).or (op_inD hu))
theorem op_notInK {X : Cx} {K : PySem.W.Frag} (h : X.K = K) (hu : X.A.units + 65 < cLine) : OpR X (compareOp .NotIn) (rNotInA K) := h ▸ op_notInS.or ((op_notInT hu).or (op_notInD hu))
def inTup (x : D) (ds : List D) : R Bool := if eqOk x && eqOk (.tup ds) then .ok (ds.any fun z => eqv z x) else .bad
def inLst (x : D) (ds : List D) : R Bool := if eqOk x && eqOk (.lst ds) then .ok (ds.any fun z => eqv z x) else .bad
def inF (neg : Bool) (x y : D) : R RV := (match x, y with
  | .str s, .str t => match s.cps.toList with
    | [c] => R.ok (decide (c ∈ t.cps.toList))
    | _ => .bad
  | x, .tup ds => inTup x ds
  | x, .lst ds => inLst x ds
  | _, _ => .bad).bind fun b => .ok (dv (.bl (if neg then !b else b)))
theorem any_toPs (p : PyData → Bool) : ∀ ds : List D, (toPs ds).any p = ds.any fun z => p (toP z)
  | [] => rfl
  | d :: ds => by
    show (p (toP d) || (toPs ds).any p) = _
    rw [any_toPs p ds]
    rfl
theorem opS_in' {r1 r2 r3 : R2} (neg : Bool) (h1 : r1 = (fun x y H Q => ∃ (c : Nat) (z : Str), x = .str ⟨#[c]⟩ ∧ y = .str z ∧ Q (.bl (if neg then !decide (c ∈ z.cps.toList) else decide (c ∈ z.cps.toList))) H)) (h2 : r2 = fun x y H Q => ∃ d ds, Dp G.K H x d ∧ Dp G.K H y (.tuple ds) ∧ SeqAt.shaped d = true ∧ SeqAt.shaped (.tuple ds) = true ∧ Q (.bl (if neg then !(ds.any fun z => PyData.eqv z d) else ds.any fun z => PyData.eqv z d)) H)
    (h3 : r3 = fun x y H Q => ∃ d ds, Dp G.K H x d ∧ Dp G.K H y (.list ds) ∧ SeqAt.shaped d = true ∧ SeqAt.shaped (.list ds) = true ∧ Q (.bl (if neg then !(ds.any fun z => PyData.eqv z d) else ds.any fun z => PyData.eqv z d)) H) :
    OpS G (fun x y H Q => r1 x y H Q ∨ (r2 x y H Q ∨ r3 x y H Q)) (inF neg) := fun E B H v u x y ex rx ry Q P => by
  subst h1 h2 h3
  unfold inF at P
  cases y with
  | str t =>
    cases x with
    | str s =>
      simp only at P
      split at P
      · rename_i c e
        refine .inl ⟨c, t, ?_, ry.str.1, P.dat ex (.bl _)⟩
        rw [rx.str.1]
        congr 1
        have : s.cps = #[c] := by
          rw [← Array.toList_inj, e]
        cases s
        cases this
        rfl
      · exact P.elim
    | _ => exact P.elim
  | tup ds =>
    have P' : Post G E (RvOk G) B H ((inTup x ds).bind fun b => .ok (dv (.bl (if neg then !b else b)))) Q := by cases x <;> exact P
    unfold inTup at P'
    by_cases c : (eqOk x && eqOk (.tup ds)) = true
    · rw [if_pos c] at P'
      rw [Bool.and_eq_true] at c
      have p1 : pure x = true := by have := c.1; unfold eqOk at this; rw [Bool.and_eq_true] at this; exact this.1
      have p2 : pure (.tup ds) = true := by have := c.2; unfold eqOk at this; rw [Bool.and_eq_true] at this; exact this.1
      have d1 := rx.dp ex p1
      have d2 := ry.dp ex p2
      refine .inr (.inl ⟨_, toPs ds, d1.1, d2.1, shaped_of c.1 d1.2, shaped_of c.2 d2.2, ?_⟩)
      rw [any_toPs]
      exact P'.dat ex (.bl _)
    · rw [if_neg c] at P'
      exact P'.elim
  | lst ds =>
    have P' : Post G E (RvOk G) B H ((inLst x ds).bind fun b => .ok (dv (.bl (if neg then !b else b)))) Q := by cases x <;> exact P
    unfold inLst at P'
    by_cases c : (eqOk x && eqOk (.lst ds)) = true
    · rw [if_pos c] at P'
      rw [Bool.and_eq_true] at c
      have p1 : pure x = true := by have := c.1; unfold eqOk at this; rw [Bool.and_eq_true] at this; exact this.1
      have p2 : pure (.lst ds) = true := by have := c.2; unfold eqOk at this; rw [Bool.and_eq_true] at this; exact this.1
      have d1 := rx.dp ex p1
      have d2 := ry.dp ex p2
      refine .inr (.inr ⟨_, toPs ds, d1.1, d2.1, shaped_of c.1 d1.2, shaped_of c.2 d2.2, ?_⟩)
      rw [any_toPs]
      exact P'.dat ex (.bl _)
    · rw [if_neg c] at P'
      exact P'.elim
  | _ => cases x <;> exact P.elim
theorem opS_in : OpS G (rInA G.K) (inF false) := opS_in' false rfl rfl rfl
theorem opS_notin : OpS G (rNotInA G.K) (inF true) := opS_in' true rfl rfl rfl
/-! subscripts -/
def ixF : D → D → R RV
  | .lst ds, .int n => (R.ofO (atI ds n)).bind fun d => .ok (dv d)
  | .tup ds, .int n => (R.ofO (atI ds n)).bind fun d => .ok (dv d)
  | .scr ns, .int n => (R.ofO (atI ns n)).bind fun d => .ok (dv (.int d))
  | .str s, .int n => if s.length ≤ sizeLine then (R.ofO (atI s.cps.toList n)).bind fun c => .ok (dv (.str ⟨#[c]⟩)) else .bad
  | _, _ => .bad
theorem ix_seqK {X : Cx} {K : PySem.W.Frag} (h : X.K = K) : IxR X (rIx K) := h ▸ ix_seq
theorem Reps.atI {B : Hp} {vs : List V} {ds : List D} {n : Int} {d : D} (r : Reps G B vs ds) (h : L2.atI ds n = some d) : ∃ v, L2.atI vs n = some v ∧ Rep G B v d := by
  unfold L2.atI at h ⊢
  rw [r.len]
  cases e : ixN ds.length n with
  | none => rw [e] at h; cases h
  | some j =>
    rw [e] at h
    exact r.get h
theorem SOk.one {c : Nat} (h : c < 0x110000) : SOk ⟨#[c]⟩ := sok_iff.mpr fun k m => by
  have : k = c := by simpa using m
  rw [this]
  exact h
theorem opS_ix : OpS G (rIx G.K) ixF := fun E B H v u x y ex rx ry Q P => by
  cases y with
  | int n =>
    have hu := ry.int
    subst hu
    cases x with
    | lst ds =>
      simp only [ixF] at P
      cases e : atI ds n with
      | none => rw [e] at P; exact P.elim
      | some d =>
        rw [e] at P
        obtain ⟨a, vs, rfl, e1, r⟩ := rx.lst ex
        obtain ⟨w, k1, k2⟩ := r.atI e
        exact .inl ⟨a, vs, n, w, rfl, rfl, sq_of e1, k1, Post.dat P ex k2⟩
    | tup ds =>
      simp only [ixF] at P
      cases e : atI ds n with
      | none => rw [e] at P; exact P.elim
      | some d =>
        rw [e] at P
        obtain ⟨a, vs, rfl, e1, r⟩ := rx.tup ex
        obtain ⟨w, k1, k2⟩ := r.atI e
        exact .inr (.inl ⟨a, vs, n, w, rfl, rfl, e1, k1, Post.dat P ex k2⟩)
    | scr ns =>
      simp only [ixF] at P
      cases e : atI ns n with
      | none => rw [e] at P; exact P.elim
      | some d =>
        rw [e] at P
        obtain ⟨a, rfl, e1⟩ := rx.scr ex
        have e' : atI (ns.map D.int) n = some (.int d) := by
          unfold atI at e ⊢
          rw [List.length_map]
          cases z : ixN ns.length n with
          | none => rw [z] at e; cases e
          | some j =>
            rw [z] at e
            have e2 : ns[j]? = some d := e
            show (ns.map D.int)[j]? = some (.int d)
            rw [List.getElem?_map, e2]
            rfl
        obtain ⟨w, k1, k2⟩ := (Reps.of_ints (G := G) (B := B) ns).atI e'
        exact .inl ⟨a, _, n, w, rfl, rfl, e1, k1, Post.dat P ex k2⟩
    | str s =>
      simp only [ixF] at P
      by_cases c : s.length ≤ sizeLine
      · rw [if_pos c] at P
        cases e : atI s.cps.toList n with
        | none => rw [e] at P; exact P.elim
        | some k =>
          rw [e] at P
          obtain ⟨rfl, hs⟩ := rx.str
          refine .inr (.inr ⟨s, n, k, rfl, rfl, c, e, Post.dat P ex (.str _ (SOk.one (sok_iff.mp hs k ?_)))⟩)
          unfold atI at e
          cases z : ixN s.cps.toList.length n with
          | none => rw [z] at e; cases e
          | some j =>
            rw [z] at e
            exact List.mem_of_getElem? e
      · rw [if_neg c] at P
        exact P.elim
    | _ => exact P.elim
  | _ => cases x <;> exact P.elim
/-! slices -/
def cutD (xs : List D) (lo hi : Option Int) : List D := (xs.drop (HT.sIx xs.length 0 lo)).take (HT.sIx xs.length xs.length hi - HT.sIx xs.length 0 lo)
theorem cut_reps {B : Hp} {vs : List V} {ds : List D} (r : Reps G B vs ds) (lo hi : Option Int) : Reps G B (cutV vs lo hi) (cutD ds lo hi) := by
  unfold cutV cutD
  rw [r.len]
  exact (r.drop _).take _
theorem cut_all {ds : List D} {lo hi : Option Int} (h : HT.sIx ds.length 0 lo = 0 ∧ HT.sIx ds.length ds.length hi = ds.length) : cutD ds lo hi = ds := by
  unfold cutD
  rw [h.1, h.2, Nat.sub_zero, List.drop_zero, List.take_length]
def slF : D → Option Int → Option Int → R RV
  | .lst ds, lo, hi => .ok (ov (.lst (cutD ds lo hi)))
  | .tup ds, lo, hi => .ok (dv (.tup (cutD ds lo hi)))
  | .str s, lo, hi => if s.length ≤ sizeLine then .ok (dv (.str (cutS s lo hi))) else .bad
  | _, _, _ => .bad
def rSl (K : PySem.W.Frag) : V → Option Int → Option Int → Hp → VK → Prop := fun x lo hi H Q => rSlL K x lo hi H Q ∨ (rSlA K x lo hi H Q ∨ rSlS x lo hi H Q)
theorem sl_anyK {X : Cx} {K : PySem.W.Frag} (h : X.K = K) : SlR X (rSl K) := h ▸ sl_list.or (sl_tupA.or sl_str)
theorem SOk.cut {s : Str} (h : SOk s) (lo hi : Option Int) : SOk (cutS s lo hi) := sok_iff.mpr fun c m => by
  unfold cutS at m
  have m' : c ∈ (s.cps.toList.drop (HT.sIx s.length 0 lo)).take (HT.sIx s.length s.length hi - HT.sIx s.length 0 lo) := by simpa using m
  exact sok_iff.mp h c (List.mem_of_mem_drop (List.mem_of_mem_take m'))
theorem slS {E : XK} {B H : Hp} {v : V} {x : D} {lo hi : Option Int} {Q : VK} (ex : Ex B H) (rx : Rdb G B H v x) (P : Post G E (RvOk G) B H (slF x lo hi) Q) : rSl G.K v lo hi H Q := by
  cases x with
  | lst ds =>
    obtain ⟨a, vs, rfl, e1, r⟩ := rx.lst ex
    exact .inl ⟨a, vs, rfl, sq_of e1, fun p hp => Post.new P ex hp (.lst (cut_reps r lo hi))⟩
  | tup ds =>
    obtain ⟨a, vs, rfl, e1, r⟩ := rx.tup ex
    refine .inr (.inl ⟨a, vs, rfl, e1, fun z => ?_, fun z p hp => Post.tup P ex hp (cut_reps r lo hi)⟩)
    rw [r.len] at z
    have P' : Post G E (RvOk G) B H (.ok (dv (.tup (cutD ds lo hi)))) Q := P
    rw [cut_all z] at P'
    exact P'.dat ex (rx.plain rfl)
  | str s =>
    unfold slF at P
    by_cases c : s.length ≤ sizeLine
    · simp only [if_pos c] at P
      obtain ⟨rfl, hs⟩ := rx.str
      exact .inr (.inr ⟨s, rfl, c, P.dat ex (.str _ (hs.cut lo hi))⟩)
    · simp only [if_neg c] at P
      exact P.elim
  | _ => exact P.elim
/-! truth -/
def truD : D → R Bool
  | .non => .ok false
  | .bl b => .ok b
  | .int n => .ok (n != 0)
  | .str s => if s.length ≤ sizeLine then .ok ((s.length : Int) != 0) else .bad
  | .tup ds => .ok (!ds.isEmpty)
  | .lst ds => .ok (!ds.isEmpty)
  | .dk ds => .ok (!ds.isEmpty)
  | _ => .bad
def tTru (K : PySem.W.Frag) (ta : TE) : TT := fun σ H Q => ta σ H fun x H' => ∃ k, TruV K x H' k ∧ Q k H'
theorem pt_tru {X : Cx} {e : Expr} {ta : TE} (ha : PE X e ta) (he : ∀ whole, isTrue e X.env whole = (do let v ← whole; standAt e.pos; holding [v] (truthy v)) := by intro _; rfl) : PT X e (tTru X.K ta) := pt_truth ha he
theorem pt_truK {X : Cx} {K : PySem.W.Frag} {a : Expr} {ta : TE} (h : X.K = K) (ha : PE X a ta) (he : ∀ whole, isTrue a X.env whole = (do let v ← whole; standAt a.pos; holding [v] (truthy v)) := by intro _; rfl) : PT X a (tTru K ta) := h ▸ pt_tru ha he
theorem isEmpty_len {α β : Type} {xs : List α} {ys : List β} (h : xs.length = ys.length) : (!xs.isEmpty) = !ys.isEmpty := by
  cases xs <;> cases ys <;> first | rfl | (cases h)
theorem truS {B H : Hp} {v : V} {x : D} {k : Bool} (ex : Ex B H) (rx : Rdb G B H v x) (h : truD x = .ok k) : TruV G.K v H k := by
  cases x with
  | non => rw [rx.non]; cases h; rfl
  | bl b => rw [rx.bl]; cases h; rfl
  | int n => rw [rx.int]; cases h; rfl
  | str s =>
    rw [rx.str.1]
    unfold truD at h
    by_cases c : s.length ≤ sizeLine
    · simp only [if_pos c] at h
      cases h
      exact ⟨c, rfl⟩
    · simp only [if_neg c] at h
      cases h
  | tup ds =>
    obtain ⟨a, vs, rfl, e1, r⟩ := rx.tup ex
    cases h
    exact .inr (.inl ⟨vs, e1, isEmpty_len r.len.symm⟩)
  | lst ds =>
    obtain ⟨a, vs, rfl, e1, r⟩ := rx.lst ex
    cases h
    exact .inl ⟨vs, sq_of e1, isEmpty_len r.len.symm⟩
  | dk ds =>
    obtain ⟨a, vs, rfl, e1, r⟩ := rx.dk ex
    cases h
    exact .inr (.inr ⟨vs, e1, isEmpty_len r.len.symm⟩)
  | _ => cases h
end
end Ci
end

section
set_option Elab.async false
set_option linter.all false
set_option maxRecDepth 100000
set_option maxHeartbeats 2000000
/-! ## list(zip(a, b)): the pairs stay, so the zip sees that the tuple it gave is still out -/
namespace Ci
open PySem PySem.Spec PyProof.Rows L2 Evl
/-- a zip of two lists, k pairs given; the list that is filled is at S -/
structure Zst (h : Heap) (z TI TO i1 i2 a b S : Addr) (xs ys : Array Value) (k : Nat) : Prop where
  ti : IsPair h TI (.ref i1) (.ref i2)
  it1 : h.IsListIter i1 a k
  it2 : h.IsListIter i2 b k
  ls1 : h.IsList a xs
  ls2 : h.IsList b ys
  own : (IsZip h z TI TO .none ∧ ∃ x y, IsPair h TO x y) ∨ ∃ T f oT, IsZipHeld h z TI TO T f ∧ h.get? T = some oT ∧ T ≠ z ∧ T ≠ i1 ∧ T ≠ i2 ∧ T ≠ S
theorem lst_stay {h h' : Heap} {a : Addr} {xs : Array Value} (L : h.IsList a xs) (k : ∀ o, h.get? a = some o → h'.get? a = some o) : h'.IsList a xs := ⟨L.choose, k _ L.choose_spec.1, L.choose_spec.2⟩
section
variable {prog : Program} {w : World} {A : Around} {E : Value → Shared → Prop} {s : Shared} {z TI TO i1 i2 a b S : Addr} {xs ys : Array Value} {n : Nat}
theorem Zst.next {x y : Value} {Q : Option Value → Shared → Prop} (Z : Zst s.heap z TI TO i1 i2 a b S xs ys n) (D : ZipApart z TI TO i1 i2 a b) (hS : S < s.heap.objs.size) (hx : xs[n]? = some x) (hy : ys[n]? = some y)
    (fin : ∀ h', Zst h' z TI TO i1 i2 a b S xs ys (n + 1) → IsPair h' s.heap.objs.size x y → h'.objs.size = s.heap.objs.size + 1 → (∀ c o, c ≠ z → c ≠ TO → c ≠ i1 → c ≠ i2 → s.heap.get? c = some o → h'.get? c = some o) → Q (some (.ref s.heap.objs.size)) { s with heap := h' }) :
    wpAny (model prog w) A (pyNext (.ref z)) Q E s := by
  have q1 : i1 < s.heap.objs.size := Heap.lt_size Z.it1.choose_spec.1
  have q2 : i2 < s.heap.objs.size := Heap.lt_size Z.it2.choose_spec.1
  rcases Z.own with ⟨e, u, v, p⟩ | ⟨T, f, oT, e, g, n1, n2, n3, n4⟩
  · have q3 : z < s.heap.objs.size := Heap.lt_size e
    refine wpAny_pyNext_zip_item D e Z.ti p Z.it1 Z.it2 Z.ls1 Z.ls2 hx hy fun h' e' _ j1 j2 t sz kp => fin h' ⟨kp _ _ D.TIz D.TITO D.TIi1 D.TIi2 Z.ti, j1, j2, lst_stay Z.ls1 fun o => kp _ o D.l1z D.l1TO D.l1i1 D.l1i2, lst_stay Z.ls2 fun o => kp _ o D.l2z D.l2TO D.l2i1 D.l2i2, .inr ⟨_, false, _, e', t, ?_, ?_, ?_, ?_⟩⟩ t sz kp
    · exact Nat.ne_of_gt q3
    · exact Nat.ne_of_gt q1
    · exact Nat.ne_of_gt q2
    · exact Nat.ne_of_gt hS
  · exact wpAny_pyNext_zip_item_held D e g Z.ti Z.it1 Z.it2 Z.ls1 Z.ls2 hx hy fun h' e' j1 j2 t sz kp => fin h' ⟨kp _ _ D.TIz D.TIi1 D.TIi2 Z.ti, j1, j2, lst_stay Z.ls1 fun o => kp _ o D.l1z D.l1i1 D.l1i2, lst_stay Z.ls2 fun o => kp _ o D.l2z D.l2i1 D.l2i2, .inr ⟨T, true, oT, e', kp _ _ n1 n2 n3 g, n1, n2, n3, n4⟩⟩ t sz fun c o c1 _ c3 c4 => kp c o c1 c3 c4
theorem Zst.last {Q : Option Value → Shared → Prop} (Z : Zst s.heap z TI TO i1 i2 a b S xs ys n) (hh : A.handled = none) (D : ZipApart z TI TO i1 i2 a b) (hx : xs[n]? = none)
    (fin : ∀ h', (∀ c o, c ≠ z → c ≠ TO → c ≠ i1 → c ≠ i2 → s.heap.get? c = some o → h'.get? c = some o) → Q none { s with heap := h' }) : wpAny (model prog w) A (pyNext (.ref z)) Q E s := by
  rcases Z.own with ⟨e, u, v, p⟩ | ⟨T, f, oT, e, g, _⟩
  · exact wpAny_pyNext_zip_end hh D e Z.ti p Z.it1 Z.it2 Z.ls1 Z.ls2 (.inl hx) fin
  · exact wpAny_pyNext_zip_end_held hh D e g Z.ti Z.it1 Z.it2 Z.ls1 Z.ls2 (.inl hx) fun h' kp => fin h' fun c o c1 _ c3 c4 => kp c o c1 c3 c4
/-- the tuples so far: above lo, one above the other, and what they hold -/
structure Zout (xs ys : Array Value) (lo : Addr) (h : Heap) (ts : List Addr) : Prop where
  up : ts.Pairwise (· < ·)
  lo : ∀ t ∈ ts, lo < t
  it : ∀ (j : Nat) (t : Addr), ts[j]? = some t → ∃ x y, xs[j]? = some x ∧ ys[j]? = some y ∧ IsPair h t x y
theorem Zout.there {lo : Addr} {h : Heap} {ts : List Addr} (O : Zout xs ys lo h ts) {t : Addr} (m : t ∈ ts) : t < h.objs.size := by
  obtain ⟨j, e⟩ := List.mem_iff_getElem?.mp m
  obtain ⟨_, _, _, _, p⟩ := O.it j t e
  exact Heap.lt_size p
theorem Zout.nil {lo : Addr} {h : Heap} : Zout xs ys lo h [] where
  up := List.Pairwise.nil
  lo := fun t m => absurd m List.not_mem_nil
  it := fun j t e => by cases e
/-- one tuple more, laid above all that is there -/
theorem Zout.more {lo : Addr} {h h' : Heap} {ts : List Addr} {x y : Value} (O : Zout xs ys lo h ts) (hl : lo < h.objs.size) (k : ∀ t ∈ ts, ∀ o, h.get? t = some o → h'.get? t = some o) (hx : xs[ts.length]? = some x) (hy : ys[ts.length]? = some y) (p : IsPair h' h.objs.size x y) : Zout xs ys lo h' (ts ++ [h.objs.size]) where
  up := List.pairwise_append.mpr ⟨O.up, List.pairwise_singleton _ _, fun t m u hu => by
    cases List.mem_singleton.mp hu
    exact O.there m⟩
  lo := fun t m => by
    cases List.mem_append.mp m with
    | inl m => exact O.lo t m
    | inr m => cases List.mem_singleton.mp m; exact hl
  it := fun j t e => by
    by_cases c : j < ts.length
    · rw [List.getElem?_append_left c] at e
      obtain ⟨u, v, e1, e2, e3⟩ := O.it j t e
      exact ⟨u, v, e1, e2, k t (List.mem_of_getElem? e) _ e3⟩
    · rw [List.getElem?_append_right (by omega)] at e
      by_cases d : j = ts.length
      · subst d
        rw [Nat.sub_self] at e
        cases (show some h.objs.size = some t from e)
        exact ⟨x, y, hx, hy, p⟩
      · rw [List.getElem?_eq_none (by rw [List.length_singleton]; omega)] at e
        cases e
end
/-- what list(zip(a, b)) leaves: the list at p, the pairs at ts -/
def Zlaid (H H' : Hp) (p : Addr) (ts : List Addr) (xs ys : List V) : Prop :=
  (∀ c o, H c = some o → H' c = some o) ∧ H p = none ∧ (∀ t ∈ ts, H t = none) ∧ p ∉ ts ∧ H' p = some (.lst (ts.map V.ref)) ∧ ts.length = xs.length ∧
    ∀ (j : Nat) (t : Addr), ts[j]? = some t → ∃ x y, xs[j]? = some x ∧ ys[j]? = some y ∧ H' t = some (.tup [x, y])
def rLzip (K : PySem.W.Frag) : List V → Hp → VK → Prop := fun vs H Q => ∃ (a b : Addr) (xs ys : List V), vs = [.ref a, .ref b] ∧ SqL K H a xs ∧ SqL K H b ys ∧ xs.length = ys.length ∧ xs.length ≤ sizeLine ∧ ∀ H' p ts, Zlaid H H' p ts xs ys → Q (.ref p) H'
end Ci
end

section
set_option Elab.async false
set_option linter.all false
set_option maxRecDepth 100000
set_option maxHeartbeats 2000000
/-! ## ranges as values -/
namespace Ci
open PySem PySem.Spec PyProof.Rows L2 Evl
def rRg1 : List V → Hp → VK → Prop := fun vs H Q => ∃ j, vs = [V.int j] ∧ ∀ p, H p = none → Q (.ref p) (upd H p (.rng 0 j))
def iRngV (te : TE) : TI := fun σ H R => te σ H fun x H1 => ∃ a lo hi, x = .ref a ∧ H1 a = some (.rng lo hi) ∧ (-(2 ^ 62) ≤ lo ∧ lo < 2 ^ 62 ∧ -(2 ^ 62) ≤ hi ∧ hi < 2 ^ 62) ∧ R (Itr lo (hi - lo).toNat) H1
end Ci
end

section
set_option Elab.async false
set_option linter.all false
set_option maxRecDepth 100000
set_option maxHeartbeats 2000000
/-! ## built-in calls by values -/
namespace Ci
open PySem PySem.Spec PyProof.Rows L2 Evl

inductive Rdbs (G : Gm) (B H : Hp) : List V → List D → Prop
  | nil : Rdbs G B H [] []
  | cons {v : V} {d : D} {vs : List V} {ds : List D} : Rdb G B H v d → Rdbs G B H vs ds → Rdbs G B H (v :: vs) (d :: ds)
def CaS (G : Gm) (r : List V → Hp → VK → Prop) (f : List D → R RV) : Prop := ∀ (E : XK) B H vs xs, Ex B H → Rdbs G B H vs xs → ∀ Q, Post G E (RvOk G) B H (f xs) Q → r vs H Q
section
variable {G : Gm} {B H B1 H1 : Hp}
theorem Rdbs.go (g : Go G B H B1 H1) {vs : List V} {ds : List D} : Rdbs G B H vs ds → Rdbs G B1 H1 vs ds
  | .nil => .nil
  | .cons h r => .cons (h.go g) (Rdbs.go g r)
theorem Rdbs.one {vs : List V} {d : D} (h : Rdbs G B H vs [d]) : ∃ v, vs = [v] ∧ Rdb G B H v d := by
  cases h with
  | cons h r => cases r; exact ⟨_, rfl, h⟩
theorem Rdbs.two {vs : List V} {d e : D} (h : Rdbs G B H vs [d, e]) : ∃ v u, vs = [v, u] ∧ Rdb G B H v d ∧ Rdb G B H u e := by
  cases h with
  | cons h r =>
    obtain ⟨u, e, h2⟩ := r.one
    exact ⟨_, u, by rw [e], h, h2⟩
/-! len -/
def rLenX (K : PySem.W.Frag) : List V → Hp → VK → Prop := fun xs H Q => (∃ x n, xs = [x] ∧ LenV K x H n ∧ Q (.int n) H) ∨ ∃ a kvs, xs = [.ref a] ∧ H a = some (.dK kvs) ∧ Q (.int (kvs.length : Int)) H
theorem CallR.or' {X : Cx} {f : Value} {r r' : List V → Hp → VK → Prop} (h : CallR X f r) (h' : CallR X f r') : CallR X f (fun x H Q => r x H Q ∨ r' x H Q) := fun pins s σ H xs us Q I rv q => q.elim (h pins s σ H xs us Q I rv) (h' pins s σ H xs us Q I rv)
theorem call_lenK {X : Cx} {K : PySem.W.Frag} (h : X.K = K) : CallR X (.builtin "len") (rLenX K) := h ▸ CallR.or' call_len call_lenD
def lenD : D → R Int
  | .lst ds => .ok ds.length
  | .tup ds => .ok ds.length
  | .scr ns => .ok ns.length
  | .str s => if s.length ≤ sizeLine then .ok s.length else .bad
  | .dk ds => .ok ds.length
  | _ => .bad
def lenF : List D → R RV
  | [x] => (lenD x).bind fun n => .ok (dv (.int n))
  | _ => .bad
theorem caS_len : CaS G (rLenX G.K) lenF := fun E B H vs xs ex rs Q P => by
  rcases xs with _ | ⟨x, _ | ⟨y, r⟩⟩ <;> first | exact P.elim | skip
  obtain ⟨v, rfl, rx⟩ := rs.one
  cases x with
  | lst ds =>
    obtain ⟨a, us, rfl, e1, r⟩ := rx.lst ex
    exact .inl ⟨_, _, rfl, .inl ⟨us, sq_of e1, rfl⟩, by rw [r.len]; exact Post.dat P ex (.int _)⟩
  | tup ds =>
    obtain ⟨a, us, rfl, e1, r⟩ := rx.tup ex
    exact .inl ⟨_, _, rfl, .inr ⟨us, e1, rfl⟩, by rw [r.len]; exact Post.dat P ex (.int _)⟩
  | scr ns =>
    obtain ⟨a, rfl, e1⟩ := rx.scr ex
    exact .inl ⟨_, _, rfl, .inl ⟨_, e1, rfl⟩, by rw [List.length_map]; exact Post.dat P ex (.int _)⟩
  | str s =>
    unfold lenF lenD at P
    by_cases c : s.length ≤ sizeLine
    · simp only [if_pos c] at P
      rw [rx.str.1]
      exact .inl ⟨_, s.length, rfl, ⟨c, rfl⟩, Post.dat P ex (.int _)⟩
    · simp only [if_neg c] at P
      exact P.elim
  | dk ds =>
    obtain ⟨a, us, rfl, e1, r⟩ := rx.dk ex
    exact .inr ⟨a, us, rfl, e1, by rw [r.len]; exact Post.dat P ex (.int _)⟩
  | _ => exact P.elim
/-! abs, int, bool, str -/
def absF : List D → R RV
  | [.int n] => .ok (dv (.int (if n < 0 then -n else n)))
  | _ => .bad
theorem caS_abs : CaS G (fun xs H Q => ∃ i, xs = [.int i] ∧ Q (.int (if i < 0 then -i else i)) H) absF := fun E B H vs xs ex rs Q P => by
  unfold absF at P
  split at P <;> first | exact P.elim | skip
  obtain ⟨v, rfl, rx⟩ := rs.one
  rw [rx.int]
  exact ⟨_, rfl, Post.dat P ex (.int _)⟩
def rInt : List V → Hp → VK → Prop := fun xs H Q => ((∃ i, xs = [.int i] ∧ Q (.int i) H) ∨ ∃ k, xs = [.bl k] ∧ Q (.int (if k then 1 else 0)) H) ∨ ∃ (a : Str) (n : Int), xs = [.str a] ∧ PySem.intText? a = some n ∧ a.length ≤ 640 ∧ Q (.int n) H
theorem call_intK {X : Cx} : CallR X (.type "int") rInt := CallR.or' call_int1 call_int_str
def intD : D → R Int
  | .int n => .ok n
  | .bl k => .ok (if k then 1 else 0)
  | .str a => if a.length ≤ 640 then .ofO (PySem.intText? a) else .bad
  | _ => .bad
def intF1 : List D → R RV
  | [x] => (intD x).bind fun n => .ok (dv (.int n))
  | _ => .bad
theorem caS_int : CaS G rInt intF1 := fun E B H vs xs ex rs Q P => by
  rcases xs with _ | ⟨x, _ | ⟨y, r⟩⟩ <;> first | exact P.elim | skip
  obtain ⟨v, rfl, rx⟩ := rs.one
  cases x with
  | int n =>
    rw [rx.int]
    exact .inl (.inl ⟨_, rfl, Post.dat P ex (.int _)⟩)
  | bl k =>
    rw [rx.bl]
    exact .inl (.inr ⟨_, rfl, Post.dat P ex (.int _)⟩)
  | str a =>
    unfold intF1 intD at P
    by_cases c : a.length ≤ 640
    · simp only [if_pos c] at P
      cases e : PySem.intText? a with
      | none => rw [e] at P; exact P.elim
      | some n =>
        rw [e] at P
        rw [rx.str.1]
        exact .inr ⟨a, n, rfl, e, c, Post.dat P ex (.int _)⟩
    · simp only [if_neg c] at P
      exact P.elim
  | _ => exact P.elim
def boolF : List D → R RV
  | [.int n] => .ok (dv (.bl (n != 0)))
  | [.bl k] => .ok (dv (.bl k))
  | _ => .bad
theorem caS_bool : CaS G (fun xs H Q => (∃ i, xs = [.int i] ∧ Q (.bl (i != 0)) H) ∨ ∃ k, xs = [.bl k] ∧ Q (.bl k) H) boolF := fun E B H vs xs ex rs Q P => by
  unfold boolF at P
  split at P <;> first | exact P.elim | skip
  · obtain ⟨v, rfl, rx⟩ := rs.one
    rw [rx.int]
    exact .inl ⟨_, rfl, Post.dat P ex (.bl _)⟩
  · obtain ⟨v, rfl, rx⟩ := rs.one
    rw [rx.bl]
    exact .inr ⟨_, rfl, Post.dat P ex (.bl _)⟩
def strI (n : Int) : Str := (toString n : String)
theorem sok_lit (s : String) : SOk (s : Str) := sok_iff.mpr fun c m => by
  rw [Str.ofString_eq_toList] at m
  have m' : c ∈ s.toList.map Char.toNat := by simpa using m
  obtain ⟨k, _, rfl⟩ := List.mem_map.mp m'
  have := k.valid
  show k.val.toNat < 0x110000
  rcases this with h | h
  · have : k.val.toNat < 0xd800 := h
    omega
  · exact h.2
def strF : List D → R RV
  | [.int n] => if n.natAbs.log2 < 1920 then .ok (dv (.str (strI n))) else .bad
  | _ => .bad
theorem caS_str : CaS G (fun xs H Q => ∃ i : Int, xs = [.int i] ∧ i.natAbs.log2 < 1920 ∧ Q (.str (toString i)) H) strF := fun E B H vs xs ex rs Q P => by
  unfold strF at P
  split at P <;> first | exact P.elim | skip
  rename_i n
  by_cases c : n.natAbs.log2 < 1920
  · rw [if_pos c] at P
    obtain ⟨v, rfl, rx⟩ := rs.one
    rw [rx.int]
    exact ⟨_, rfl, c, Post.dat P ex (.str _ (sok_lit _))⟩
  · rw [if_neg c] at P
    exact P.elim
/-! list, tuple -/
def rListOf (K : PySem.W.Frag) : List V → Hp → VK → Prop := fun xs H Q => ∃ p ys, xs = [.ref p] ∧ (SqL K H p ys ∨ SqT K H p ys) ∧ ∀ l, H l = none → Q (.ref l) (upd H l (.lst ys))
theorem call_listK {X : Cx} {K : PySem.W.Frag} (h : X.K = K) : CallR X (.type "list") (rListOf K) := h ▸ call_list_of
def rTupOf (K : PySem.W.Frag) : List V → Hp → VK → Prop := fun xs H Q => ∃ p ys, xs = [.ref p] ∧ ((SqL K H p ys ∧ ∀ l, H l = none → Q (.ref l) (upd H l (.tup ys))) ∨ (SqT K H p ys ∧ Q (.ref p) H))
theorem call_tupK {X : Cx} {K : PySem.W.Frag} (h : X.K = K) : CallR X (.type "tuple") (rTupOf K) := h ▸ call_tuple_of
def listF : List D → R RV
  | [.lst ds] => .ok (ov (.lst ds))
  | [.tup ds] => .ok (ov (.lst ds))
  | _ => .bad
theorem caS_list : CaS G (rListOf G.K) listF := fun E B H vs xs ex rs Q P => by
  unfold listF at P
  split at P <;> first | exact P.elim | skip
  · obtain ⟨v, rfl, rx⟩ := rs.one
    obtain ⟨a, us, rfl, e1, r⟩ := rx.lst ex
    exact ⟨a, us, rfl, .inl (sq_of e1), fun l hl => Post.new P ex hl (.lst r)⟩
  · obtain ⟨v, rfl, rx⟩ := rs.one
    obtain ⟨a, us, rfl, e1, r⟩ := rx.tup ex
    exact ⟨a, us, rfl, .inr e1, fun l hl => Post.new P ex hl (.lst r)⟩
def tupF : List D → R RV
  | [.lst ds] => .ok (dv (.tup ds))
  | [.tup ds] => .ok (dv (.tup ds))
  | _ => .bad
theorem caS_tup : CaS G (rTupOf G.K) tupF := fun E B H vs xs ex rs Q P => by
  unfold tupF at P
  split at P <;> first | exact P.elim | skip
  · obtain ⟨v, rfl, rx⟩ := rs.one
    obtain ⟨a, us, rfl, e1, r⟩ := rx.lst ex
    exact ⟨a, us, rfl, .inl ⟨sq_of e1, fun l hl => Post.tup P ex hl r⟩⟩
  · obtain ⟨v, rfl, rx⟩ := rs.one
    obtain ⟨a, us, rfl, e1, r⟩ := rx.tup ex
    exact ⟨a, us, rfl, .inr ⟨e1, Post.dat P ex (rx.plain rfl)⟩⟩
/-! sum, all, any, max, min -/
def intsOf : List D → Option (List Int)
  | [] => some []
  | .int n :: r => (intsOf r).map (n :: ·)
  | _ => none
theorem intsOf_eq : ∀ {ds : List D} {ns : List Int}, intsOf ds = some ns → ds = ns.map D.int
  | [], ns, h => by cases h; rfl
  | d :: r, ns, h => by
    cases d <;> simp only [intsOf] at h <;> first | (cases h; done) | skip
    cases e : intsOf r with
    | none => rw [e] at h; cases h
    | some ms =>
      rw [e] at h
      cases h
      rw [intsOf_eq e]
      rfl
@[simp] theorem intsOf_map : ∀ ns : List Int, intsOf (ns.map D.int) = some ns
  | [] => rfl
  | n :: r => by
    show (intsOf (r.map D.int)).map (n :: ·) = _
    rw [intsOf_map r]
    rfl
def blsOf : List D → Option (List Bool)
  | [] => some []
  | .bl n :: r => (blsOf r).map (n :: ·)
  | _ => none
theorem blsOf_eq : ∀ {ds : List D} {ns : List Bool}, blsOf ds = some ns → ds = ns.map D.bl
  | [], ns, h => by cases h; rfl
  | d :: r, ns, h => by
    cases d <;> simp only [blsOf] at h <;> first | (cases h; done) | skip
    cases e : blsOf r with
    | none => rw [e] at h; cases h
    | some ms =>
      rw [e] at h
      cases h
      rw [blsOf_eq e]
      rfl
@[simp] theorem blsOf_map : ∀ ns : List Bool, blsOf (ns.map D.bl) = some ns
  | [] => rfl
  | n :: r => by
    show (blsOf (r.map D.bl)).map (n :: ·) = _
    rw [blsOf_map r]
    rfl
def sumF : List D → R RV
  | [.lst ds] => (R.ofO (intsOf ds)).bind fun ns => .ok (dv (.int ns.sum))
  | _ => .bad
theorem cr_allK {X : Cx} {K : PySem.W.Frag} (h : X.K = K) (hc : X.calm = true) : CallR X (.builtin "all") (rAll K) := h ▸ cr_all hc
theorem caS_sum : CaS G (rSum G.K) sumF := fun E B H vs xs ex rs Q P => by
  unfold sumF at P
  split at P <;> first | exact P.elim | skip
  obtain ⟨v, rfl, rx⟩ := rs.one
  obtain ⟨a, us, rfl, e1, r⟩ := rx.lst ex
  rename_i ds
  cases e : intsOf ds with
  | none => rw [e] at P; exact P.elim
  | some ns =>
    rw [e] at P
    rw [intsOf_eq e] at r
    exact ⟨a, ns, rfl, by rw [← r.ints]; exact sq_of e1, Post.dat P ex (.int _)⟩
def allF : List D → R RV
  | [.lst ds] => (R.ofO (blsOf ds)).bind fun ns => .ok (dv (.bl (ns.all id)))
  | _ => .bad
def anyF : List D → R RV
  | [.lst ds] => (R.ofO (blsOf ds)).bind fun ns => .ok (dv (.bl (ns.any id)))
  | _ => .bad
theorem caS_all : CaS G (rAll G.K) allF := fun E B H vs xs ex rs Q P => by
  unfold allF at P
  split at P <;> first | exact P.elim | skip
  obtain ⟨v, rfl, rx⟩ := rs.one
  obtain ⟨a, us, rfl, e1, r⟩ := rx.lst ex
  rename_i ds
  cases e : blsOf ds with
  | none => rw [e] at P; exact P.elim
  | some ns =>
    rw [e] at P
    rw [blsOf_eq e] at r
    exact ⟨a, ns, rfl, by rw [← r.bools]; exact sq_of e1, Post.dat P ex (.bl _)⟩
theorem caS_any : CaS G (rAny G.K) anyF := fun E B H vs xs ex rs Q P => by
  unfold anyF at P
  split at P <;> first | exact P.elim | skip
  obtain ⟨v, rfl, rx⟩ := rs.one
  obtain ⟨a, us, rfl, e1, r⟩ := rx.lst ex
  rename_i ds
  cases e : blsOf ds with
  | none => rw [e] at P; exact P.elim
  | some ns =>
    rw [e] at P
    rw [blsOf_eq e] at r
    exact ⟨a, ns, rfl, by rw [← r.bools]; exact sq_of e1, Post.dat P ex (.bl _)⟩
def max2F : List D → R RV
  | [.int m, .int n] => .ok (dv (.int (max m n)))
  | _ => .bad
def min2F : List D → R RV
  | [.int m, .int n] => .ok (dv (.int (min m n)))
  | _ => .bad
theorem caS_max2 : CaS G (fun xs H Q => ∃ i j, xs = [.int i, .int j] ∧ Q (.int (if j > i then j else i)) H) max2F := fun E B H vs xs ex rs Q P => by
  unfold max2F at P
  split at P <;> first | exact P.elim | skip
  rename_i m n
  obtain ⟨v, u, rfl, rx, ry⟩ := rs.two
  rw [rx.int, ry.int]
  refine ⟨_, _, rfl, ?_⟩
  have e : (if n > m then n else m) = max m n := by omega
  rw [e]
  exact Post.dat P ex (.int _)
theorem caS_min2 : CaS G (fun xs H Q => ∃ i j, xs = [.int i, .int j] ∧ Q (.int (if j < i then j else i)) H) min2F := fun E B H vs xs ex rs Q P => by
  unfold min2F at P
  split at P <;> first | exact P.elim | skip
  rename_i m n
  obtain ⟨v, u, rfl, rx, ry⟩ := rs.two
  rw [rx.int, ry.int]
  refine ⟨_, _, rfl, ?_⟩
  have e : (if n < m then n else m) = min m n := by omega
  rw [e]
  exact Post.dat P ex (.int _)
/-- of lists, tuples -/
def rMinT (K : PySem.W.Frag) : List V → Hp → VK → Prop := fun vs H Q => ∃ (a : Addr) (x : Int) (xs : List Int), vs = [V.ref a] ∧ SqT K H a ((x :: xs).map V.int) ∧ Q (.int (PySem.W.minOf x xs)) H
def rMaxT (K : PySem.W.Frag) : List V → Hp → VK → Prop := fun vs H Q => ∃ (a : Addr) (x : Int) (xs : List Int), vs = [V.ref a] ∧ SqT K H a ((x :: xs).map V.int) ∧ Q (.int (PySem.W.maxOf x xs)) H
section
variable {X : Cx} {K : PySem.W.Frag}
def rMinA (K : PySem.W.Frag) : List V → Hp → VK → Prop := fun vs H Q => rMin K vs H Q ∨ rMinT K vs H Q
def rMaxA (K : PySem.W.Frag) : List V → Hp → VK → Prop := fun vs H Q => rMax K vs H Q ∨ rMaxT K vs H Q
end
def maxL : Int → List Int → Int
  | x, [] => x
  | x, y :: r => maxL (max x y) r
def minL : Int → List Int → Int
  | x, [] => x
  | x, y :: r => minL (min x y) r
theorem maxL_ge : ∀ (x : Int) (r : List Int), x ≤ maxL x r ∧ ∀ y ∈ r, y ≤ maxL x r
  | x, [] => ⟨Int.le_refl x, fun y m => nomatch m⟩
  | x, y :: r => by
    obtain ⟨h1, h2⟩ := maxL_ge (max x y) r
    have e : maxL x (y :: r) = maxL (max x y) r := rfl
    rw [e]
    refine ⟨by omega, fun z m => ?_⟩
    rcases List.mem_cons.mp m with rfl | m
    · omega
    · exact h2 z m
theorem maxL_mem : ∀ (x : Int) (r : List Int), maxL x r ∈ x :: r
  | x, [] => List.mem_cons_self
  | x, y :: r => by
    have h := maxL_mem (max x y) r
    have e : maxL x (y :: r) = maxL (max x y) r := rfl
    rw [e]
    rcases List.mem_cons.mp h with h | h
    · rw [h]
      rcases Int.le_total x y with c | c
      · rw [Int.max_eq_right c]
        exact List.mem_cons_of_mem _ List.mem_cons_self
      · rw [Int.max_eq_left c]
        exact List.mem_cons_self
    · exact List.mem_cons_of_mem _ (List.mem_cons_of_mem _ h)
theorem minL_le : ∀ (x : Int) (r : List Int), minL x r ≤ x ∧ ∀ y ∈ r, minL x r ≤ y
  | x, [] => ⟨Int.le_refl x, fun y m => nomatch m⟩
  | x, y :: r => by
    obtain ⟨h1, h2⟩ := minL_le (min x y) r
    have e : minL x (y :: r) = minL (min x y) r := rfl
    rw [e]
    refine ⟨by omega, fun z m => ?_⟩
    rcases List.mem_cons.mp m with rfl | m
    · omega
    · exact h2 z m
theorem minL_mem : ∀ (x : Int) (r : List Int), minL x r ∈ x :: r
  | x, [] => List.mem_cons_self
  | x, y :: r => by
    have h := minL_mem (min x y) r
    have e : minL x (y :: r) = minL (min x y) r := rfl
    rw [e]
    rcases List.mem_cons.mp h with h | h
    · rw [h]
      rcases Int.le_total x y with c | c
      · rw [Int.min_eq_left c]
        exact List.mem_cons_self
      · rw [Int.min_eq_right c]
        exact List.mem_cons_of_mem _ List.mem_cons_self
    · exact List.mem_cons_of_mem _ (List.mem_cons_of_mem _ h)
theorem maxOf_eq : ∀ (x : Int) (r : List Int), PySem.W.maxOf x r = maxL x r
  | x, [] => rfl
  | x, y :: r => by
    have e : PySem.W.maxOf x (y :: r) = PySem.W.maxOf (if PySem.W.DatumOrd.lt x y then y else x) r := rfl
    rw [e, maxOf_eq]
    show _ = maxL (max x y) r
    congr 1
    show (if decide (x < y) = true then y else x) = _
    by_cases c : x < y
    · simp [c]; omega
    · simp [c]; omega
theorem minOf_eq : ∀ (x : Int) (r : List Int), PySem.W.minOf x r = minL x r
  | x, [] => rfl
  | x, y :: r => by
    have e : PySem.W.minOf x (y :: r) = PySem.W.minOf (if PySem.W.DatumOrd.lt y x then y else x) r := rfl
    rw [e, minOf_eq]
    show _ = minL (min x y) r
    congr 1
    show (if decide (y < x) = true then y else x) = _
    by_cases c : y < x
    · simp [c]; omega
    · simp [c]; omega
def maxAF : List D → R RV
  | [.lst ds] => (R.ofO (intsOf ds)).bind fun | n :: r => .ok (dv (.int (maxL n r))) | [] => .bad
  | [.tup ds] => (R.ofO (intsOf ds)).bind fun | n :: r => .ok (dv (.int (maxL n r))) | [] => .bad
  | _ => .bad
def minAF : List D → R RV
  | [.lst ds] => (R.ofO (intsOf ds)).bind fun | n :: r => .ok (dv (.int (minL n r))) | [] => .bad
  | [.tup ds] => (R.ofO (intsOf ds)).bind fun | n :: r => .ok (dv (.int (minL n r))) | [] => .bad
  | _ => .bad
theorem caS_maxA : CaS G (rMaxA G.K) maxAF := fun E B H vs xs ex rs Q P => by
  unfold maxAF at P
  split at P <;> first | exact P.elim | skip
  all_goals
    obtain ⟨v, rfl, rx⟩ := rs.one
    rename_i ds
    cases e : intsOf ds with
    | none => rw [e] at P; exact P.elim
    | some ns =>
      rw [e] at P
      cases ns with
      | nil => exact P.elim
      | cons n r =>
        first
        | (obtain ⟨a, us, rfl, e1, rr⟩ := rx.lst ex
           rw [intsOf_eq e] at rr
           refine .inl ⟨a, n :: r, rfl, by rw [← rr.ints]; exact sq_of e1, Nat.succ_pos _, fun m h1 h2 => ?_⟩
           have : m = maxL n r := by
             have h3 := h2 _ (maxL_mem n r)
             obtain ⟨h4, h5⟩ := maxL_ge n r
             rcases List.mem_cons.mp h1 with z | z
             · omega
             · have := h5 m z
               omega
           rw [this]
           exact Post.dat P ex (.int _))
        | (obtain ⟨a, us, rfl, e1, rr⟩ := rx.tup ex
           rw [intsOf_eq e] at rr
           refine .inr ⟨a, n, r, rfl, by rw [← rr.ints]; exact e1, ?_⟩
           rw [maxOf_eq]
           exact Post.dat P ex (.int _))
theorem caS_minA : CaS G (rMinA G.K) minAF := fun E B H vs xs ex rs Q P => by
  unfold minAF at P
  split at P <;> first | exact P.elim | skip
  all_goals
    obtain ⟨v, rfl, rx⟩ := rs.one
    rename_i ds
    cases e : intsOf ds with
    | none => rw [e] at P; exact P.elim
    | some ns =>
      rw [e] at P
      cases ns with
      | nil => exact P.elim
      | cons n r =>
        first
        | (obtain ⟨a, us, rfl, e1, rr⟩ := rx.lst ex
           rw [intsOf_eq e] at rr
           refine .inl ⟨a, n :: r, rfl, by rw [← rr.ints]; exact sq_of e1, Nat.succ_pos _, fun m h1 h2 => ?_⟩
           have : m = minL n r := by
             have h3 := h2 _ (minL_mem n r)
             obtain ⟨h4, h5⟩ := minL_le n r
             rcases List.mem_cons.mp h1 with z | z
             · omega
             · have := h5 m z
               omega
           rw [this]
           exact Post.dat P ex (.int _))
        | (obtain ⟨a, us, rfl, e1, rr⟩ := rx.tup ex
           rw [intsOf_eq e] at rr
           refine .inr ⟨a, n, r, rfl, by rw [← rr.ints]; exact e1, ?_⟩
           rw [minOf_eq]
           exact Post.dat P ex (.int _))
/-! isqrt -/
def rIsq : List V → Hp → VK → Prop := fun vs H Q => ∃ a : Int, vs = [.int a] ∧ 0 ≤ a ∧ a.toNat.log2 ≤ 13000 ∧ Q (.int ((Float64.isqrt a.toNat : Nat) : Int)) H
def isqF : List D → R RV
  | [.int n] => if 0 ≤ n ∧ n.toNat.log2 ≤ 13000 then .ok (dv (.int ((Float64.isqrt n.toNat : Nat) : Int))) else .bad
  | _ => .bad
theorem caS_isq : CaS G rIsq isqF := fun E B H vs xs ex rs Q P => by
  unfold isqF at P
  split at P <;> first | exact P.elim | skip
  rename_i n
  by_cases c : 0 ≤ n ∧ n.toNat.log2 ≤ 13000
  · rw [if_pos c] at P
    obtain ⟨v, rfl, rx⟩ := rs.one
    rw [rx.int]
    exact ⟨_, rfl, c.1, c.2, Post.dat P ex (.int _)⟩
  · rw [if_neg c] at P
    exact P.elim
/-! isinstance -/
def tyD : D → Option String
  | .non => some "NoneType"
  | .bl _ => some "bool"
  | .int _ => some "int"
  | .str _ => some "str"
  | .tup _ => some "tuple"
  | .lst _ => some "list"
  | .dk _ => some "dict"
  | _ => none
theorem call_isiX {X : Cx} {K : PySem.W.Frag} (h : X.K = K) : CallR X (.builtin "isinstance") (rIsi K) := h ▸ call_isi
theorem Rdb.tyx {v : V} {d : D} {t : String} (e : Ex B H) (h : Rdb G B H v d) (ht : tyD d = some t) : TyX G.K H v (.type t) := by
  cases d with
  | non => rw [h.non]; cases ht; exact .base .non
  | bl b => rw [h.bl]; cases ht; exact .base (.bl b)
  | int i => rw [h.int]; cases ht; exact .base (.int i)
  | str s => rw [h.str.1]; cases ht; exact .base (.str s)
  | lst ds =>
    obtain ⟨a, us, rfl, e1, r⟩ := h.lst e
    cases ht
    exact .base (.lst e1)
  | dk ds =>
    obtain ⟨a, us, rfl, e1, r⟩ := h.dk e
    cases ht
    exact .base (.dK e1)
  | tup ds =>
    obtain ⟨a, us, rfl, e1, r⟩ := h.tup e
    cases ht
    rcases e1 with (h | ⟨o, h⟩) | ⟨o, its, m, h1, h2, _⟩
    · exact .base (.tup h)
    · exact .fTuple h
    · exact .kTuple h1 h2
  | _ => cases ht
def isiF (T : String) (d : D) : R RV := (R.ofO (tyD d)).bind fun t => (R.ofO (kitB t T)).bind fun k => .ok (dv (.bl k))
/-! len(set(ints)), chains of three comparisons -/
def nubN (ns : List Int) : Nat := (PyProof.Rows.firstMet (fun i => ns.getD i 0) ns.length).length
def rLenSet (K : PySem.W.Frag) : List V → Hp → VK → Prop := fun vs H Q => ∃ (a : Addr) (ns : List Int), vs = [V.ref a] ∧ SqL K H a (ns.map V.int) ∧ ns.length ≤ 4000 ∧ Q (.int (nubN ns : Nat)) H
def lenSetF : List D → R RV
  | [.lst ds] => (R.ofO (intsOf ds)).bind fun ns => if ns.length ≤ 4000 then .ok (dv (.int (nubN ns : Nat))) else .bad
  | _ => .bad
theorem caS_lenset : CaS G (rLenSet G.K) lenSetF := fun E B H vs xs ex rs Q P => by
  unfold lenSetF at P
  split at P <;> first | exact P.elim | skip
  obtain ⟨v, rfl, rx⟩ := rs.one
  obtain ⟨a, us, rfl, e1, r⟩ := rx.lst ex
  rename_i ds
  cases e : intsOf ds with
  | none => rw [e] at P; exact P.elim
  | some ns =>
    rw [e] at P
    rw [intsOf_eq e] at r
    by_cases c : ns.length ≤ 4000
    · rw [R.ofO, R.bind_ok, if_pos c] at P
      exact ⟨a, ns, rfl, by rw [← r.ints]; exact sq_of e1, c, Post.dat P ex (.int _)⟩
    · rw [R.ofO, R.bind_ok, if_neg c] at P
      exact P.elim
def zipD : List D → List D → List D
  | x :: xs, y :: ys => .tup [x, y] :: zipD xs ys
  | _, _ => []
theorem zipD_len : ∀ {xs ys : List D}, xs.length = ys.length → (zipD xs ys).length = xs.length
  | [], _, _ => by unfold zipD; rfl
  | _ :: _, [], h => by cases h
  | x :: xs, y :: ys, h => congrArg Nat.succ (zipD_len (Nat.succ.inj h))
theorem zipD_at : ∀ {xs ys : List D} {j : Nat} {x y : D}, xs[j]? = some x → ys[j]? = some y → (zipD xs ys)[j]? = some (.tup [x, y])
  | [], _, _, _, _, h, _ => by cases h
  | _ :: _, [], _, _, _, _, h => by cases h
  | x :: xs, y :: ys, 0, _, _, h1, h2 => by cases h1; cases h2; rfl
  | x :: xs, y :: ys, j + 1, _, _, h1, h2 => zipD_at (xs := xs) (ys := ys) (j := j) h1 h2
theorem reps_at {B : Hp} : ∀ {vs : List V} {ds : List D} {j : Nat} {v : V}, Reps G B vs ds → vs[j]? = some v → ∃ d, ds[j]? = some d ∧ Rep G B v d
  | _, _, _, _, .nil, h => by cases h
  | _, _, 0, _, .cons r _, h => by cases h; exact ⟨_, rfl, r⟩
  | _, _, j + 1, _, .cons _ r, h => reps_at (j := j) r h
theorem reps_of {B : Hp} : ∀ {vs : List V} {ds : List D}, vs.length = ds.length → (∀ (j : Nat) (v : V), vs[j]? = some v → ∃ d, ds[j]? = some d ∧ Rep G B v d) → Reps G B vs ds
  | [], [], _, _ => .nil
  | [], _ :: _, h, _ => by cases h
  | _ :: _, [], h, _ => by cases h
  | v :: vs, d :: ds, h, k => by
    obtain ⟨d', e, r⟩ := k 0 v rfl
    cases e
    exact .cons r (reps_of (Nat.succ.inj h) fun j u hu => k (j + 1) u hu)
def lzipF : List D → R RV
  | [.lst xs, .lst ys] => if xs.length = ys.length ∧ xs.length ≤ sizeLine then .ok (ov (.lst (zipD xs ys))) else .bad
  | _ => .bad
theorem caS_lzip : CaS G (rLzip G.K) lzipF := fun E B H vs xs ex rs Q P => by
  unfold lzipF at P
  split at P <;> first | exact P.elim | skip
  rename_i ds es
  cases rs with
  | cons r1 rs =>
    cases rs with
    | cons r2 rs =>
      cases rs
      obtain ⟨a, us, rfl, a1, ru⟩ := r1.lst ex
      obtain ⟨b, ws, rfl, b1, rw_⟩ := r2.lst ex
      by_cases c : ds.length = es.length ∧ ds.length ≤ sizeLine
      · rw [if_pos c] at P
        refine ⟨a, b, us, ws, rfl, sq_of a1, sq_of b1, by rw [ru.len, rw_.len]; exact c.1, by rw [ru.len]; exact c.2, ?_⟩
        rintro H' p ts ⟨z1, z2, z3, z4, z5, z6, z7⟩
        have bb : Ex B (fun d => if d ∈ ts then H' d else B d) := fun d o e => by
          show (if d ∈ ts then H' d else B d) = some o
          rw [if_neg fun m => by have := ex d o e; rw [z3 d m] at this; cases this]
          exact e
        refine P (.ref p) (fun d => if d ∈ ts then H' d else B d) H' ⟨bb, fun d o e => ?_, .of z1, fun d o e1 e2 => ?_⟩ (.new z2 ?_ z5 (.lst ?_))
        · by_cases m : d ∈ ts
          · have e : (if d ∈ ts then H' d else B d) = some o := e
            rw [if_pos m] at e
            exact e
          · have e : (if d ∈ ts then H' d else B d) = some o := e
            rw [if_neg m] at e
            exact z1 d o (ex d o e)
        · show (if d ∈ ts then H' d else B d) = none
          rw [if_neg fun m => by rw [z3 d m] at e1; cases e1]
          exact e2
        · show (if p ∈ ts then H' p else B p) = none
          rw [if_neg z4]
          exact none_of_ex ex z2
        · refine reps_of (by rw [List.length_map, z6, zipD_len c.1]; exact ru.len) fun j v hv => ?_
          rw [List.getElem?_map] at hv
          cases ht : ts[j]? with
          | none => rw [ht] at hv; cases hv
          | some t =>
            rw [ht] at hv
            cases hv
            obtain ⟨x, y, e1, e2, e3⟩ := z7 j t ht
            obtain ⟨dx, f1, g1⟩ := reps_at ru e1
            obtain ⟨dy, f2, g2⟩ := reps_at rw_ e2
            refine ⟨_, zipD_at f1 f2, .tup (st_of (xs := [x, y]) ?_) (.cons (g1.mono bb) (.cons (g2.mono bb) .nil))⟩
            show (if t ∈ ts then H' t else B t) = _
            rw [if_pos (List.mem_of_getElem? ht)]
            exact e3
      · rw [if_neg c] at P
        exact P.elim
def rg1F : List D → R RV
  | [.int n] => .ok (dv (.rng 0 n))
  | _ => .bad
theorem caS_rg1 : CaS G rRg1 rg1F := fun E B H vs xs ex rs Q P => by
  unfold rg1F at P
  split at P <;> first | exact P.elim | skip
  rename_i n
  obtain ⟨v, rfl, rx⟩ := rs.one
  rw [rx.int]
  exact ⟨n, rfl, fun p hp => P _ _ _ (Go.new ex hp) (.d (.rng upd_same))⟩
def tChain3 (r r' r2 : R2) (ta tb tc td : TE) : TE := fun σ H Q => ta σ H fun x H1 => tb σ H1 fun y H2 => r x y H2 fun z H3 => ∃ k, z = .bl k ∧
  (if k = true then tc σ H3 fun w H4 => r' y w H4 fun z2 H5 => ∃ k2, z2 = .bl k2 ∧ (if k2 = true then td σ H5 fun u H6 => r2 w u H6 Q else Q (.bl false) H5) else Q (.bl false) H3)
/-! one table -/
inductive Cb where
  | len | abs | int | bool | str | list | tuple | sum | all | any | max2 | min2 | maxA | minA | isqrt | lenset | lzip | range1
def Cb.den (K : PySem.W.Frag) : Cb → List V → Hp → VK → Prop
  | .len => rLenX K
  | .abs => fun xs H Q => ∃ i, xs = [.int i] ∧ Q (.int (if i < 0 then -i else i)) H
  | .int => rInt
  | .bool => fun xs H Q => (∃ i, xs = [.int i] ∧ Q (.bl (i != 0)) H) ∨ ∃ k, xs = [.bl k] ∧ Q (.bl k) H
  | .str => fun xs H Q => ∃ i : Int, xs = [.int i] ∧ i.natAbs.log2 < 1920 ∧ Q (.str (toString i)) H
  | .list => rListOf K
  | .tuple => rTupOf K
  | .sum => rSum K
  | .all => rAll K
  | .any => rAny K
  | .max2 => fun xs H Q => ∃ i j, xs = [.int i, .int j] ∧ Q (.int (if j > i then j else i)) H
  | .min2 => fun xs H Q => ∃ i j, xs = [.int i, .int j] ∧ Q (.int (if j < i then j else i)) H
  | .maxA => rMaxA K
  | .minA => rMinA K
  | .isqrt => rIsq
  | .lenset => rLenSet K
  | .lzip => rLzip K
  | .range1 => rRg1
def Cb.fn : Cb → List D → R RV
  | .len => lenF
  | .abs => absF
  | .int => intF1
  | .bool => boolF
  | .str => strF
  | .list => listF
  | .tuple => tupF
  | .sum => sumF
  | .all => allF
  | .any => anyF
  | .max2 => max2F
  | .min2 => min2F
  | .maxA => maxAF
  | .minA => minAF
  | .isqrt => isqF
  | .lenset => lenSetF
  | .lzip => lzipF
  | .range1 => rg1F
theorem Cb.ok (c : Cb) : CaS G (c.den G.K) c.fn := by
  cases c
  · exact caS_len
  · exact caS_abs
  · exact caS_int
  · exact caS_bool
  · exact caS_str
  · exact caS_list
  · exact caS_tup
  · exact caS_sum
  · exact caS_all
  · exact caS_any
  · exact caS_max2
  · exact caS_min2
  · exact caS_maxA
  · exact caS_minA
  · exact caS_isq
  · exact caS_lenset
  · exact caS_lzip
  · exact caS_rg1
/-- two-place operations -/
inductive B2 where
  | add | sub | mul | div | mod | pow | shl | lt | le | gt | ge | eq | ne | is | isnot | «in» | notin | ix | isb | notb | shr | band
def B2.den (K : PySem.W.Frag) : B2 → R2
  | .add => rPlus K
  | .sub => rI0 fun i j => .int (i - j)
  | .mul => rTimes K
  | .div => rI CDivW fun i j => .int (i / j)
  | .mod => rI (fun _ j => 0 < j) fun i j => .int (i % j)
  | .pow => rI CPow fun i j => .int (i ^ j.toNat)
  | .shl => rI CPow fun i j => .int (i * 2 ^ j.toNat)
  | .lt => rI0 fun i j => .bl (decide (i < j))
  | .le => rI0 fun i j => .bl (decide (i ≤ j))
  | .gt => rI0 fun i j => .bl (decide (i > j))
  | .ge => rI0 fun i j => .bl (decide (i ≥ j))
  | .eq => rEqD K
  | .ne => rNeD K
  | .is => rIsN
  | .isnot => rNotN
  | .in => rInA K
  | .notin => rNotInA K
  | .ix => rIx K
  | .isb => rIsB
  | .notb => rNotB
  | .shr => rI (fun _ j => 0 ≤ j) fun i j => .int (i / 2 ^ j.toNat)
  | .band => rI0 fun i j => .int (Builtin.bitAnd i j)
instance decNn : DecidableRel (fun (_ j : Int) => 0 ≤ j) := fun _ j => inferInstanceAs (Decidable (0 ≤ j))
instance decPos : DecidableRel (fun (_ j : Int) => 0 < j) := fun _ j => inferInstanceAs (Decidable (0 < j))
def B2.fn : B2 → D → D → R RV
  | .add => addF
  | .sub => intF fun i j => .int (i - j)
  | .mul => mulF
  | .div => intFC CDivW fun i j => .int (i / j)
  | .mod => intFC (fun _ j => 0 < j) fun i j => .int (i % j)
  | .pow => intFC CPow fun i j => .int (i ^ j.toNat)
  | .shl => intFC CPow fun i j => .int (i * 2 ^ j.toNat)
  | .lt => intF fun i j => .bl (decide (i < j))
  | .le => intF fun i j => .bl (decide (i ≤ j))
  | .gt => intF fun i j => .bl (decide (i > j))
  | .ge => intF fun i j => .bl (decide (i ≥ j))
  | .eq => eqF false
  | .ne => eqF true
  | .is => isF false
  | .isnot => isF true
  | .in => inF false
  | .notin => inF true
  | .ix => ixF
  | .isb => isBF false
  | .notb => isBF true
  | .shr => intFC (fun _ j => 0 ≤ j) fun i j => .int (i / 2 ^ j.toNat)
  | .band => intF fun i j => .int (Builtin.bitAnd i j)
theorem B2.ok (o : B2) : OpS G (o.den G.K) o.fn := by
  cases o
  · exact opS_add
  · exact op_intF fun B m n => .int _
  · exact opS_mul
  · exact op_intFC fun B m n => .int _
  · exact op_intFC fun B m n => .int _
  · exact op_intFC fun B m n => .int _
  · exact op_intFC fun B m n => .int _
  · exact op_intF fun B m n => .bl _
  · exact op_intF fun B m n => .bl _
  · exact op_intF fun B m n => .bl _
  · exact op_intF fun B m n => .bl _
  · exact opS_eq
  · exact opS_ne
  · exact opS_is
  · exact opS_isnot
  · exact opS_in
  · exact opS_notin
  · exact opS_ix
  · exact opS_isB
  · exact opS_notB
  · exact op_intFC fun B m n => .int _
  · exact op_intF fun B m n => .int _
end
end Ci
end

section
set_option Elab.async false
set_option linter.all false
set_option maxRecDepth 100000
set_option maxHeartbeats 2000000
/-! ## enumerate of a list or a tuple, from any number on -/
namespace CiEn
open PySem PySem.Spec PyProof.Rows L2 Evl
theorem nc_enum {v : Value} : Builtin.SmallTypes.newClass "enumerate" { pos := [Value.type "enumerate", v] } = pure (Value.type "enumerate", [v]) := rfl
theorem meets_enum1 {v : Value} {o : Obj} {H : Heap → Prop} (B : Begins v o H) : Meets (Builtin.«enumerate.__new__» { pos := [Value.type "enumerate", v] }) fun x R s =>
    H s.heap ∧ R (Except.ok (Flow.ret (Value.ref (s.heap.push o).objs.size)))
      { heap := (s.heap.push o).push { cls := Value.type "enumerate", data := Data.fields #[Value.none, Value.bool false, Value.ref s.heap.objs.size, rawInt 0, Value.none, Value.none] }, gens := s.gens, drawn := s.drawn, toks := s.toks, os := s.os } := by
  intro prog w A R s h
  obtain ⟨hH, hR⟩ := h
  unfold Builtin.«enumerate.__new__»
  refine wpAny_bind ?_
  rw [nc_enum]
  refine wpAny_pure ?_
  refine wpAny_bind (m := Builtin.SmallTypes.calledThroughType (Value.type "enumerate")) ?_
  unfold Builtin.SmallTypes.calledThroughType
  refine wpAny_bind (wpAny_stack fun st _ _ _ => wpAny_pure ?_)
  dsimp only
  have spl : ∀ {c : Prop} [Decidable c] {x y : Sem PySem.Fin} {Q : PySem.Fin → Shared → Prop} {E : Value → Shared → Prop}, wpAny (model prog w) A.in1 x Q E s → wpAny (model prog w) A.in1 y Q E s → wpAny (model prog w) A.in1 (if c then x else y) Q E s := fun h1 h2 => by
    split
    · exact h1
    · exact h2
  apply spl
  all_goals
    refine wpAny_bind ?_
    refine wpAny_pure (a := (v, none)) ?_
    refine wpAny_bind (B.iter _ _ _ _ _ _ hH ?_)
    refine wpAny_bind ?_
    show wpAny _ _ (newObj (Value.type "enumerate") (Data.fields #[Value.none, Value.bool false, Value.ref s.heap.objs.size, rawInt 0, Value.none, Value.none])) _ _ _
    refine wpAny_newObj_type ?_
    exact wpAny_pure hR
theorem enum_begins1 {prog : Program} {w : World} {A : Around} {E : Value → Shared → Prop} {s : Shared} {v : Value} {o : Obj} {H : Heap → Prop} {Q : Value → Shared → Prop} (B : Begins v o H) (hH : H s.heap)
    (fin : ∀ h', IsEnum h' (s.heap.objs.size + 1) s.heap.objs.size 0 Value.none → h'.get? s.heap.objs.size = some o → h'.objs.size = s.heap.objs.size + 2 → (∀ b o, s.heap.get? b = some o → h'.get? b = some o) → Q (Value.ref (s.heap.objs.size + 1)) { s with heap := h' }) :
    wpAny (model prog w) A (call (Value.type "enumerate") [v]) Q E s := by
  refine callType_new F.called_enumerate (by decide) (F.typeCall_enumerate_1 _) (F.newCall_enumerate_1 _) (fun obj => ?a) F.entry_enumerate_new (meets_enum1 B) ⟨hH, ?_⟩
  case a => first | rfl | exact F.args_object_init _ _
  have g0 : (s.heap.push o).objs.size = s.heap.objs.size + 1 := Array.size_push ..
  have g1 : (s.heap.push o).get? s.heap.objs.size = some o := Heap.get?_push_size _ B.free
  refine ⟨⟨_, Heap.get?_push_size _ rfl, rfl⟩, ?_⟩
  rw [g0]
  refine fin _ ?_ (Heap.get?_push_of_some _ g1) ?_ fun b u e => Heap.get?_push_of_some _ (Heap.get?_push_of_some _ e)
  · have := Heap.get?_push_size (s.heap.push o) (o := { cls := Value.type "enumerate", data := Data.fields #[Value.none, Value.bool false, Value.ref s.heap.objs.size, rawInt 0, Value.none, Value.none] }) rfl
    rw [g0] at this
    exact this
  · show (Array.push _ _).size = _
    rw [Array.size_push]
    exact congrArg Nat.succ g0

end CiEn
namespace Ci
open PySem PySem.Spec PyProof.Rows L2 Evl
def ItE (S : Hp → List V → Prop) (k : Int) : It where
  go i H := ∃ xs x, S H xs ∧ xs[i]? = some x
  yld i H v H' := ∃ T x, v = .ref T ∧ H T = none ∧ H' = upd H T (.tup [.int (k + (i : Int)), x]) ∧ ∀ xs, S H xs → xs[i]? = some x
  stop i H := ∃ xs, S H xs ∧ xs.length = i
/-- a turn, however what is walked is drawn -/
theorem turn_enumG {P : Program} {w : World} {K : PySem.W.Frag} {elts : List Expr} {kk : Nat} {tpos : Pos} {S : Hp → List V → Prop} {e it a : Addr} {k : Int} {I1 : Nat → Heap → Prop} (n1 : a ≠ it) (n2 : a ≠ e) (n3 : e ≠ it)
    (hI : ∀ i h, I1 i h → ∃ o, h.get? it = some o ∧ ∀ v, o.data ≠ Data.cell v) (hK : ∀ i h h', I1 i h → (∀ o, h.get? it = some o → h'.get? it = some o) → I1 i h')
    (inj : ∀ (X : Cx) pins σ H s xs ys, X.K = K → Inv X pins σ H s → S H xs → S H ys → xs = ys)
    (dr : ∀ (X : Cx) pins σ H s xs, X.prog = P → X.w = w → X.K = K → X.calm = true → Inv X pins σ H s → S H xs → ∃ us : List Value, Vals xs us ∧ ∃ L : Heap → Prop, L s.heap ∧ Draws P w X.A.in1 it [it, a] us.length (fun i v => us.toArray[i]? = some v) fun i h => I1 i h ∧ L h) :
    Turn P w K (.Tuple elts kk tpos) (ItE S k) [e, it] e fun i h => (∃ old, IsEnum h e it (k + (i : Int)) old) ∧ I1 i h where
  mem := List.mem_cons_self
  obj := fun i h t b m => by
    rcases List.mem_cons.mp m with rfl | m
    · obtain ⟨⟨old, g⟩, _⟩ := t
      exact ⟨_, g, fun v z => by cases z⟩
    · rw [List.mem_singleton.mp m]
      exact hI i h t.2
  keep := fun i h h' t kp => by
    obtain ⟨⟨old, g⟩, t2⟩ := t
    exact ⟨⟨old, kp e List.mem_cons_self _ g⟩, hK i h h' t2 fun o => kp it (by simp) o⟩
  self := fun A i s Q E t q => by
    obtain ⟨⟨old, g⟩, _⟩ := t
    exact wpAny_pyIter_enum g q
  item := fun X hp hw hk hc i pins s σ H E I fo t go => by
    subst hp hw
    obtain ⟨xs, x, hS, hx⟩ := go
    obtain ⟨us, vals, L, hL, D⟩ := dr X pins σ H s xs rfl rfl hk hc I hS
    obtain ⟨u, hu, ru⟩ := vals.get hx
    have ne : e ∉ [it, a] := by simp [n3, Ne.symm n2]
    have G := GoesN.enumFrom (elts := elts) (x1 := kk) (pos := tpos) k D e n3 ne (by simp)
    have lt : i < us.length := (List.getElem?_eq_some_iff.mp hu).1
    obtain ⟨ge, gi⟩ := t
    refine thn (G.goes i s (fun v s2 => ∃ x' H', Inv X pins σ H' s2 ∧ RelV x' v ∧ (ItE S k).yld i H x' H' ∧ ((∃ old, IsEnum s2.heap e it (k + ((i + 1 : Nat) : Int)) old) ∧ I1 (i + 1) s2.heap) ∧ ∀ b ∈ [e, it], H' b = none) E lt ⟨ge, gi, hL⟩ ?_) ?_
    · rintro v h' tk ⟨T, t, y, rfl, sz, hy, tup⟩ ⟨ge', gi', _⟩ fr ht
      have ey : y = u := by
        rw [List.getElem?_toArray] at hy
        exact Option.some.inj (hy.symm.trans hu)
      subst ey
      have fr0 : ∀ d, s.heap.objs.size ≤ d → H d = none := fun d l => I.hok.fresh l
      have fb : ∀ b ∈ [e, it], upd H T (.tup [.int (k + (i : Int)), x]) b = none := fun b m => by
        have l : b < s.heap.objs.size := by
          rcases List.mem_cons.mp m with rfl | m
          · obtain ⟨old, g⟩ := ge
            exact Heap.lt_size g
          · rw [List.mem_singleton.mp m]
            obtain ⟨o, g, _⟩ := hI i _ gi
            exact Heap.lt_size g
        rw [upd_ne (Nat.ne_of_lt (Nat.lt_of_lt_of_le l sz))]
        exact (fo b m).1
      refine ⟨.ref T, _, I.turnedNew (ch := [e, it]) fr (fun b m => fo b m) sz ?_, rfl, ⟨T, x, rfl, fr0 T sz, rfl, fun ys hy => ?_⟩, ⟨?_, gi'⟩, fb⟩
      · obtain ⟨o, g, c, n, d⟩ := tup
        exact ⟨by show 2 ≤ sizeLine; decide, [.int (k + (i : Int)) t, y], .cons ⟨_, rfl⟩ (.cons ru .nil), ⟨o, g, c, n, d⟩⟩
      · rw [inj X pins σ H s ys xs hk I hy hS]
        exact hx
      · obtain ⟨old, g⟩ := ge'
        exact ⟨old, by rw [show k + ((i + 1 : Nat) : Int) = k + ((i : Nat) + 1 : Nat) from rfl]; exact g⟩
    · exact fun r s1 h => h
  done := fun X hp hw hk hc i pins s σ H E I fo t stop => by
    subst hp hw
    obtain ⟨xs, hS, hx⟩ := stop
    obtain ⟨us, vals, L, hL, D⟩ := dr X pins σ H s xs rfl rfl hk hc I hS
    have ne : e ∉ [it, a] := by simp [n3, Ne.symm n2]
    have G := GoesN.enumFrom (elts := elts) (x1 := kk) (pos := tpos) k D e n3 ne (by simp)
    have en : us.length = i := by rw [← vals.length]; exact hx
    subst en
    obtain ⟨ge, gi⟩ := t
    exact thn (G.stops s (fun s1 => Inv X pins σ H s1) E ⟨ge, gi, hL⟩ fun h' tk fr ht => I.turnedL (ch := [e, it]) fr fun b m => fo b m) fun r s1 h => h
theorem turn_enumL {P : Program} {w : World} {K : PySem.W.Frag} {elts : List Expr} {kk : Nat} {tpos : Pos} {e it a : Addr} {k : Int} (n1 : a ≠ it) (n2 : a ≠ e) (n3 : e ≠ it) :
    Turn P w K (.Tuple elts kk tpos) (ItE (fun H xs => SqL K H a xs) k) [e, it] e fun i h => (∃ old, IsEnum h e it (k + (i : Int)) old) ∧ h.IsListIter it a i :=
  turn_enumG n1 n2 n3 (fun i h ⟨o, g, _, d⟩ => ⟨o, g, fun v z => by rw [d] at z; cases z⟩) (fun i h h' ⟨o, g, c, d⟩ kp => ⟨o, kp o g, c, d⟩) (fun X pins σ H s xs ys hk I h1 h2 => I.list_inj (hk ▸ h1) (hk ▸ h2)) fun X pins σ H s xs hp hw hk hc I hS => by
    obtain ⟨us, vals, pl, _⟩ := I.list (X := X) (hk ▸ hS)
    subst hp hw
    exact ⟨us, vals, fun h => h.IsList a us.toArray, pl.isList, by rw [← List.size_toArray]; exact Draws.list (A := X.A.in1) (I.ok.hd hc) it a n1 us.toArray⟩
theorem turn_enumT {P : Program} {w : World} {K : PySem.W.Frag} {elts : List Expr} {kk : Nat} {tpos : Pos} {e it a : Addr} {k : Int} (n1 : a ≠ it) (n2 : a ≠ e) (n3 : e ≠ it) :
    Turn P w K (.Tuple elts kk tpos) (ItE (fun H xs => SqT K H a xs) k) [e, it] e fun i h => (∃ old, IsEnum h e it (k + (i : Int)) old) ∧ h.IsTupleIter it a i :=
  turn_enumG n1 n2 n3 (fun i h ⟨o, g, _, d⟩ => ⟨o, g, fun v z => by rw [d] at z; cases z⟩) (fun i h h' ⟨o, g, c, d⟩ kp => ⟨o, kp o g, c, d⟩) (fun X pins σ H s xs ys hk I h1 h2 => I.tuple_inj (hk ▸ h1) (hk ▸ h2)) fun X pins σ H s xs hp hw hk hc I hS => by
    obtain ⟨us, vals, pl, _⟩ := I.tuple (X := X) (hk ▸ hS)
    subst hp hw
    obtain ⟨o, g, c, n, d⟩ := pl
    exact ⟨us, vals, fun h => h.IsTuple a us.toArray, ⟨o, g, c, n, d⟩, by rw [← List.size_toArray]; exact Draws.tuple (A := X.A.in1) (I.ok.hd hc) it a n1 us.toArray⟩
def iEnumA (K : PySem.W.Frag) (ta : TA) : TI := fun σ H R => ta σ H fun vs H1 => ∃ a xs, vs = [.ref a] ∧ ((SqL K H1 a xs ∧ R (ItE (fun H xs => SqL K H a xs) 0) H1) ∨ (SqT K H1 a xs ∧ R (ItE (fun H xs => SqT K H a xs) 0) H1))
theorem pi_enumA {X : Cx} {e : Expr} {ta : TA} {p pos tpos : Pos} {elts : List Expr} {kk : Nat} (hg : Gl X "enumerate") (hm : X.mg "enumerate" = none) (ha : PA X [e] ta)
    (hs : starEach [e] X.env = (false, eval e X.env) :: starEach [] X.env := by rfl) (hpl : (backTo pos (starEach [] X.env)).any (·.1) = false := by rfl) :
    PI X (.Tuple elts kk tpos) (.Call (.Name "enumerate" p) [e] [] pos) (iEnumA X.K ta) := by
  refine ⟨fun pins s σ H R I h => Call_ (ld_blt I hg hm PyProof.Rows.boot_enumerate (PyProof.Rows.callWith_type1 (thn (ha.run pos pins s σ H _ I h) fun us s1 ⟨vs, H1, I1, r1, a, xs, ev, hx⟩ => ?_) hs hpl))⟩
  subst ev
  cases r1 with
  | cons ra r1 =>
    cases r1
    cases ra
    have N : ∀ {b : Addr}, b < s1.heap.objs.size → b ≠ s1.heap.objs.size ∧ b ≠ s1.heap.objs.size + 1 ∧ s1.heap.objs.size + 1 ≠ s1.heap.objs.size := fun {b} l => ⟨Nat.ne_of_lt l, Nat.ne_of_lt (Nat.lt_succ_of_lt l), Nat.succ_ne_self _⟩
    have F : ∀ {h' : Heap}, (∀ (b : Addr) (o : Obj), s1.heap.get? b = some o → h'.get? b = some o) → ∀ b ∈ [s1.heap.objs.size + 1, s1.heap.objs.size], FpOk X pins H1 b := fun {h'} kp b m => by
      rcases List.mem_cons.mp m with rfl | m
      · exact I1.fpOk (Nat.le_succ _) (I1.hok.fresh (Nat.le_succ _))
      · rw [List.mem_singleton.mp m]
        exact I1.fpOk (Nat.le_refl _) (I1.hok.fresh (Nat.le_refl _))
    rcases hx with ⟨hl, hR⟩ | ⟨hl, hR⟩
    · obtain ⟨us, w1, p1, _⟩ := I1.list hl
      obtain ⟨m1, m2, m3⟩ := N p1.lt
      refine CiEn.enum_begins1 (begins_list a us.toArray) p1.isList fun h' e1 e2 sz kp => wpAny_pyIter_enum e1 ?_
      exact ⟨_, _, _, _, H1, rfl, I1.kept kp, turn_enumL m1 m2 m3, ⟨⟨_, e1⟩, ⟨_, e2, rfl, rfl⟩⟩, F kp, hR⟩
    · obtain ⟨us, w1, p1, _⟩ := I1.tuple hl
      obtain ⟨o, g, c, n, d⟩ := p1
      obtain ⟨m1, m2, m3⟩ := N (Heap.lt_size g)
      refine CiEn.enum_begins1 (begins_tuple a us.toArray) ⟨o, g, c, n, d⟩ fun h' e1 e2 sz kp => wpAny_pyIter_enum e1 ?_
      exact ⟨_, _, _, _, H1, rfl, I1.kept kp, turn_enumT m1 m2 m3, ⟨⟨_, e1⟩, ⟨_, e2, rfl, rfl⟩⟩, F kp, hR⟩
/-! a number of a list, read at a place from the front -/
def rGetL (o i : V) (H : Hp) (Q : VK) : Prop := ∃ p xs k x, o = .ref p ∧ i = .int k ∧ H p = some (.lst xs) ∧ 0 ≤ k ∧ k < 2 ^ 63 ∧ xs[k.toNat]? = some x ∧ Q x H
end Ci
end

section
set_option Elab.async false
set_option linter.all false
set_option maxRecDepth 100000
set_option maxHeartbeats 2000000
/-! ## texts: split, join, startswith; what is never reached -/
namespace Ci
open PySem PySem.Spec PyProof.Rows L2 Evl
inductive Tm where
  | split | join | starts
def Tm.den (K : PySem.W.Frag) : Tm → V → List V → Hp → VK → Prop
  | .split => fun x xs H Q => ∃ a b, x = .str a ∧ xs = [.str b] ∧ (b.length == 0) = false ∧ a.length + 2 ≤ sizeLine ∧ rNewStrs (Txt.split a b) H Q
  | .join => fun x xs H Q => ∃ a p, ∃ ys : List Str, x = .str a ∧ xs = [.ref p] ∧ (SqL K H p (ys.map V.str) ∨ SqT K H p (ys.map V.str)) ∧ (ys.map (fun x => x.length)).sum + ys.length * a.length ≤ 16777216 ∧ Q (.str (Txt.join a ys)) H
  | .starts => fun x xs H Q => ∃ a b, x = .str a ∧ xs = [.str b] ∧ Q (.bl (Txt.startswith a b)) H
def strsOf : List D → Option (List Str)
  | [] => some []
  | .str s :: r => (strsOf r).map (s :: ·)
  | _ :: _ => none
theorem strsOf_eq : ∀ {ds : List D} {ys : List Str}, strsOf ds = some ys → ds = ys.map D.str
  | [], ys, h => by cases h; rfl
  | d :: r, ys, h => by
    cases d with
    | str s =>
      unfold strsOf at h
      cases e : strsOf r with
      | none => rw [e] at h; cases h
      | some zs => rw [e] at h; cases h; rw [strsOf_eq e]; rfl
    | _ => cases h
theorem strsOf_map : ∀ ys : List Str, strsOf (ys.map D.str) = some ys
  | [] => rfl
  | s :: r => by show (strsOf (r.map D.str)).map _ = _; rw [strsOf_map r]; rfl
def Tm.fn : Tm → Str → D → R RV
  | .split, a, .str b => if (b.length == 0) = false ∧ a.length + 2 ≤ sizeLine then .ok (ov (.lst ((Txt.split a b).map D.str))) else .bad
  | .join, a, .lst ds => (R.ofO (strsOf ds)).bind fun ys => if (ys.map (fun x => x.length)).sum + ys.length * a.length ≤ 16777216 then .ok (dv (.str (Txt.join a ys))) else .bad
  | .join, a, .tup ds => (R.ofO (strsOf ds)).bind fun ys => if (ys.map (fun x => x.length)).sum + ys.length * a.length ≤ 16777216 then .ok (dv (.str (Txt.join a ys))) else .bad
  | .starts, a, .str b => .ok (dv (.bl (Txt.startswith a b)))
  | _, _, _ => .bad
theorem sok_sub {s : Str} {i j : Nat} (h : SOk s) : SOk (Builtin.Str.strSub s i j) := sok_iff.mpr fun c m => by
  have m : c ∈ (s.cps.extract i j).toList := m
  rw [Array.toList_extract] at m
  exact sok_iff.mp h c (List.mem_of_mem_drop (List.mem_of_mem_take m))
theorem sok_split {a b y : Str} (h : SOk a) (m : y ∈ Txt.split a b) : SOk y := by
  unfold Txt.split at m
  split at m
  · rw [List.mem_singleton.mp m]; exact h
  · split at m
    · rw [List.mem_singleton.mp m]; exact h
    · unfold Builtin.Str.partsBetween at m
      obtain ⟨⟨i, j⟩, _, rfl⟩ := List.mem_map.mp m
      exact sok_sub h
theorem sok_join {a : Str} {ys : List Str} (h : SOk a) (hy : ∀ y ∈ ys, SOk y) : SOk (Txt.join a ys) := sok_iff.mpr fun c m => by
  have key : ∀ (l : List Str) (acc : Array Nat), (∀ y ∈ l, SOk y) → (∀ c ∈ acc.toList, c < 0x110000) → ∀ c ∈ (l.foldl (fun acc p => acc ++ a.cps ++ p.cps) acc).toList, c < 0x110000 := by
    intro l
    induction l with
    | nil => exact fun acc _ q => q
    | cons y r ih =>
      intro acc q1 q2
      refine ih _ (fun z mz => q1 z (List.mem_cons_of_mem _ mz)) fun c mc => ?_
      rw [Array.toList_append, Array.toList_append, List.mem_append, List.mem_append] at mc
      rcases mc with (mc | mc) | mc
      · exact q2 c mc
      · exact sok_iff.mp h c mc
      · exact sok_iff.mp (q1 y List.mem_cons_self) c mc
  refine key (ys.drop 1) (ys.headD Str.empty).cps (fun y my => hy y (List.mem_of_mem_drop my)) (fun c mc => ?_) c m
  cases ys with
  | nil => exact absurd mc (by simp [Str.empty])
  | cons y r => exact sok_iff.mp (hy y List.mem_cons_self) c mc
theorem Reps.of_strs {G : Gm} {B : Hp} : ∀ {ys : List Str}, (∀ y ∈ ys, SOk y) → Reps G B (ys.map V.str) (ys.map D.str)
  | [], _ => .nil
  | y :: r, h => .cons (.str y (h y List.mem_cons_self)) (Reps.of_strs fun z m => h z (List.mem_cons_of_mem _ m))
theorem Reps.soks {G : Gm} {B : Hp} : ∀ {vs : List V} {ys : List Str}, Reps G B vs (ys.map D.str) → ∀ y ∈ ys, SOk y
  | _, [], _, y, m => nomatch m
  | _, x :: r, .cons h q, y, m => by
    rcases List.mem_cons.mp m with rfl | m
    · cases h; assumption
    · exact Reps.soks q y m
theorem Tm.ok {G : Gm} (o : Tm) {E : XK} {B H : Hp} {s : Str} {u : V} {y : D} (ex : Ex B H) (hs : SOk s) (ry : Rdb G B H u y) {Q : VK} (P : Post G E (RvOk G) B H (o.fn s y) Q) : o.den G.K (.str s) [u] H Q := by
  have J : ∀ {a : Addr} {us : List V} {ds : List D}, u = .ref a → (SqL G.K H a us ∨ SqT G.K H a us) → Reps G B us ds → Post G E (RvOk G) B H ((R.ofO (strsOf ds)).bind fun ys => if (ys.map (fun x => x.length)).sum + ys.length * s.length ≤ 16777216 then .ok (dv (.str (Txt.join s ys))) else .bad) Q → Tm.den G.K .join (.str s) [u] H Q := by
    intro a us ds eu hq r P
    cases e : strsOf ds with
    | none => rw [e] at P; exact P.elim
    | some ys =>
      rw [e] at P
      rw [strsOf_eq e] at r
      rw [R.ofO, R.bind_ok] at P
      by_cases c : (ys.map (fun x => x.length)).sum + ys.length * s.length ≤ 16777216
      · rw [if_pos c] at P
        refine ⟨s, a, ys, rfl, by rw [eu], ?_, c, P.dat ex (.str _ (sok_join hs r.soks))⟩
        rw [← r.strs]
        exact hq
      · rw [if_neg c] at P
        exact P.elim
  cases o with
  | split =>
    cases y with
    | str b =>
      obtain ⟨rfl, hb⟩ := ry.str
      have P : Post G E (RvOk G) B H (if (b.length == 0) = false ∧ s.length + 2 ≤ sizeLine then .ok (ov (.lst ((Txt.split s b).map D.str))) else .bad) Q := P
      by_cases c : (b.length == 0) = false ∧ s.length + 2 ≤ sizeLine
      · rw [if_pos c] at P
        exact ⟨s, b, rfl, rfl, c.1, c.2, fun p hp => P.new ex hp (.lst (Reps.of_strs fun y m => sok_split hs m))⟩
      · rw [if_neg c] at P
        exact P.elim
    | _ => exact P.elim
  | join =>
    cases y with
    | lst ds =>
      obtain ⟨a, us, rfl, e1, r⟩ := ry.lst ex
      exact J rfl (.inl (sq_of e1)) r P
    | tup ds =>
      obtain ⟨a, us, rfl, e1, r⟩ := ry.tup ex
      exact J rfl (.inr e1) r P
    | _ => exact P.elim
  | starts =>
    cases y with
    | str b =>
      obtain ⟨rfl, hb⟩ := ry.str
      exact ⟨s, b, rfl, rfl, P.dat ex (.bl _)⟩
    | _ => exact P.elim
theorem pe_joinK {X : Cx} {K : PySem.W.Frag} {o e : Expr} {to te : TE} {apos pos : Pos} (h : X.K = K) (ho : PE X o to) (he : PE X e te)
    (h1 : starEach [e] X.env = [(false, eval e X.env)] := by rfl) (h2 : attributeBase o "join" X.env (eval o X.env) = eval o X.env := by rfl) (h3 : (apos.endLine == pos.line) = true := by rfl) :
    PE X (.Call (.Attribute o "join" apos) [e] [] pos) (tM1 (Tm.den K .join) to te) := h ▸ pe_join ho he h1 h2 h3
/-! a text, sign by sign -/
def chD (s : Str) : List D := s.cps.toList.map fun c => D.str ⟨#[c]⟩
theorem chD_len {s : Str} : (chD s).length = s.cps.size := by
  unfold chD
  rw [List.length_map, Array.length_toList]
theorem chD_get {s : Str} {i : Nat} {x : D} (h : (chD s)[i]? = some x) : ∃ c, s.cps[i]? = some c ∧ x = .str ⟨#[c]⟩ := by
  unfold chD at h
  rw [List.getElem?_map, Array.getElem?_toList] at h
  cases e : s.cps[i]? with
  | none => rw [e] at h; cases h
  | some c => rw [e] at h; exact ⟨c, rfl, (Option.some.inj h).symm⟩
/-! enumerate(e, start=k) -/
theorem cw_type_kw {M : Model} {A : Around} {E : Value → Shared → Prop} {s : Shared} {pos : Pos} {T : String} {first : List Value} {args : List (Bool × Sem Value)} {kws : List (Option Str × Sem Value)} {Q : Value → Shared → Prop} (h1 : args.any (·.1) = false) (h2 : kws.any (·.1.isNone) = false)
    (h : wpAny M A (evalArgs (.type T) true args kws) (fun a s1 => wpAny M A (call (.type T) (first ++ a.pos) a.kw) Q E s1) E s) : wpAny M A (callWith pos (.type T) first args kws) Q E s := by
  unfold callWith
  refine wpAny_bind (wpAny_holding (wpAny_mono h (fun a s1 q => wpAny_bind (wpAny_standAt ?_)) fun _ _ z => z))
  rw [h1, h2]
  exact wpAny_bind (wpAny_pure (wpAny_bind (wpAny_mono q (fun r s2 hr => wpAny_bind (wpAny_holding (wpAny_point (wpAny_pure hr)))) fun _ _ z => z)))
def iEnumK (K : PySem.W.Frag) (ta tk : TA) : TI := fun σ H R => ta σ H fun vs H1 => tk σ H1 fun ks H2 => ∃ a xs k, vs = [.ref a] ∧ ks = [.int k] ∧ -(2 ^ 63) ≤ k ∧ k < 2 ^ 63 ∧ SqL K H2 a xs ∧ R (ItE (fun H xs => SqL K H a xs) k) H2
theorem pi_enumK {X : Cx} {K : PySem.W.Frag} {e b : Expr} {ta : TA} {tb : TE} {p pos tpos kpos : Pos} {elts : List Expr} {kk : Nat} (hK : X.K = K) (hg : Gl X "enumerate") (hm : X.mg "enumerate" = none) (ha : PA X [e] ta) (hb : PE X b tb)
    (hs : starEach [e] X.env = (false, eval e X.env) :: starEach [] X.env := by rfl) (hpl : (backTo pos (starEach [e] X.env)).any (·.1) = false := by rfl)
    (h1 : (backToKw pos (keywordEach [⟨some "start", b, kpos⟩] X.env)).any (·.1.isNone) = false := by rfl) (h2 : (backToKw pos (keywordEach [⟨some "start", b, kpos⟩] X.env)).all (·.1.isSome) = true := by rfl) :
    PI X (.Tuple elts kk tpos) (.Call (.Name "enumerate" p) [e] [⟨some "start", b, kpos⟩] pos) (iEnumK K ta (tCons tb tNil)) := by
  subst hK
  refine ⟨fun pins s σ H R I h => wpAny_Call_Name_kw (ld_blt I hg hm PyProof.Rows.boot_enumerate (cw_type_kw hpl h1 (PyProof.Rows.evalArgs_kw2 h2 (thn (ha.run pos pins s σ H _ I h) fun us s1 ⟨vs, H1, I1, r1, q1⟩ => ?_) hs)))⟩
  refine thn ((pk_cons (kpos := kpos) (nm := some "start") hb pk_nil).run pos pins s1 σ H1 _ I1 q1) fun ws s2 ⟨zs, H2, I2, r2, a, xs, k, ev, ez, k1, k2, hl, hR⟩ => ?_
  subst ev ez
  cases r1 with
  | cons ra r1 =>
    cases r1
    cases ra
    cases r2 with
    | cons rk r2 =>
      cases r2
      obtain ⟨t, rfl⟩ := rk
      obtain ⟨us, w1, p1, _⟩ := I2.list hl
      have N : ∀ {b : Addr}, b < s2.heap.objs.size → b ≠ s2.heap.objs.size ∧ b ≠ s2.heap.objs.size + 1 ∧ s2.heap.objs.size + 1 ≠ s2.heap.objs.size := fun {b} l => ⟨Nat.ne_of_lt l, Nat.ne_of_lt (Nat.lt_succ_of_lt l), Nat.succ_ne_self _⟩
      obtain ⟨m1, m2, m3⟩ := N p1.lt
      show wpAny _ _ (call (.type "enumerate") [.ref a] [(Str.ofString "start", .int k t)]) _ _ _
      refine enum_begins_start (begins_list a us.toArray) p1.isList k1 k2 fun h' e1 e2 sz kp => wpAny_pyIter_enum e1 ?_
      refine ⟨_, _, _, _, H2, rfl, I2.kept kp, turn_enumL m1 m2 m3, ⟨⟨_, by show IsEnum h' _ _ (k + 0) _; rw [Int.add_zero]; exact e1⟩, ⟨_, e2, rfl, rfl⟩⟩, fun b m => ?_, hR⟩
      rcases List.mem_cons.mp m with rfl | m
      · exact I2.fpOk (Nat.le_succ _) (I2.hok.fresh (Nat.le_succ _))
      · rw [List.mem_singleton.mp m]
        exact I2.fpOk (Nat.le_refl _) (I2.hok.fresh (Nat.le_refl _))
/-! what is never reached may be anything -/
def tNo : TE := fun _ _ _ => False
def sNo : TS := fun _ _ _ => False
end Ci
end

section
set_option Elab.async false
set_option linter.all false
set_option maxRecDepth 100000
set_option maxHeartbeats 2000000
/-! ## zip(range(n), xs): a range that ends first, beside a list -/
namespace Ci
open PySem PySem.Spec PyProof.Rows L2 Evl
open PySem.Sem (wp)
/-- what a step of the range tells -/
structure RgI (h : Heap) (i : Addr) (x left : Int) : Prop where
  at_ : IsRangeIter h i x left 1
section
variable {prog : Program} {w : World} {A : Around} {E : Value → Shared → Prop} {s : Shared}
end

/-! the turns -/
def Izr (K : PySem.W.Frag) (lo : Int) (n : Nat) (b : Addr) : It :=
  ⟨fun i H => i < n ∧ ∃ (ys : List V) (y : V), SqL K H b ys ∧ ys[i]? = some y,
   fun i H v H' => ∃ T y, v = .ref T ∧ H T = none ∧ H' = upd H T (.tup [.int (lo + i), y]) ∧ ∀ ys, SqL K H b ys → ys[i]? = some y,
   fun i _ => n ≤ i⟩
def iZr (K : PySem.W.Frag) (ta : TA) : TI := fun σ H R => ta σ H fun vs H1 => ∃ a b lo hi ys, vs = [.ref a, .ref b] ∧ H1 a = some (.rng lo hi) ∧ (-(2 ^ 62) ≤ lo ∧ lo < 2 ^ 62 ∧ -(2 ^ 62) ≤ hi ∧ hi < 2 ^ 62) ∧ SqL K H1 b ys ∧ (hi - lo).toNat ≤ ys.length ∧ R (Izr K lo (hi - lo).toNat b) H1
end Ci
end

section
set_option Elab.async false
set_option linter.all false
set_option maxRecDepth 100000
set_option maxHeartbeats 2000000
/-! ## dicts whose keys are numbers and texts -/
namespace Ci
open PySem PySem.Spec PyProof.Rows L2 Evl
abbrev Kd := List (Key × D)
def keyD : D → Option Key
  | .int n => some (.inl n)
  | .str s => some (.inr s)
  | _ => none
def valD : Kd → Key → Option D
  | [], _ => none
  | (k', d) :: r, k => if k' = k then some d else valD r k
def hasD : Kd → Key → Bool
  | [], _ => false
  | (k', _) :: r, k => decide (k' = k) || hasD r k
def setD : Kd → Key → D → Kd
  | [], _, _ => []
  | (k', d) :: r, k, x => (if k' = k then (k', x) else (k', d)) :: setD r k x
def putD (kvs : Kd) (k : Key) (x : D) : Kd := if hasD kvs k = true then setD kvs k x else kvs ++ [(k, x)]
def mergeD (kvs more : Kd) : Kd := more.foldl (fun acc kv => putD acc kv.1 kv.2) kvs
section
variable {G : Gm} {B H : Hp}
theorem key_rep {u : V} {y : D} {k : Key} (r : Rdb G B H u y) (h : keyD y = some k) : u = kV k := by
  cases y <;> first | (cases h; done) | skip
  · cases h; rw [r.int]; rfl
  · cases h; rw [r.str.1]; rfl
theorem RepK.valS {kd : Kd} {kv : List (Key × V)} {k : Key} {d : D} : RepK G B kv kd → valD kd k = some d → ∃ v, valV kv k = some v ∧ Rep G B v d
  | .nil, h => by cases h
  | .cons (f := f) (v := w) (fv := r) h q, e => by
    unfold valD at e
    by_cases c : f = k
    · rw [if_pos c] at e
      cases e
      exact ⟨w, valV_pos (p := (f, w)) c, h⟩
    · rw [if_neg c] at e
      obtain ⟨v, h1, h2⟩ := RepK.valS q e
      exact ⟨v, by rw [valV_neg (p := (f, w)) c]; exact h1, h2⟩
theorem RepK.valN {kd : Kd} {kv : List (Key × V)} {k : Key} : RepK G B kv kd → valD kd k = none → valV kv k = none
  | .nil, h => rfl
  | .cons (f := f) (v := w) (fv := r) h q, e => by
    unfold valD at e
    by_cases c : f = k
    · rw [if_pos c] at e; cases e
    · rw [if_neg c] at e
      rw [valV_neg (p := (f, w)) c]
      exact RepK.valN q e
theorem RepK.any {kd : Kd} {kv : List (Key × V)} {k : Key} : RepK G B kv kd → (kv.any fun p => decide (p.1 = k)) = hasD kd k
  | .nil => rfl
  | .cons (f := f) (v := w) (fv := r) h q => by
    rw [List.any_cons, RepK.any q]
    rfl
theorem RepK.set {kd : Kd} {kv : List (Key × V)} {k : Key} {v : V} {x : D} (hx : Rep G B v x) : RepK G B kv kd → RepK G B (kv.map fun p => if p.1 = k then (p.1, v) else p) (setD kd k x)
  | .nil => .nil
  | .cons (f := f) (v := w) (d := d) (fv := r) h q => by
    rw [List.map_cons]
    unfold setD
    by_cases c : f = k
    · rw [if_pos c, if_pos c]
      exact .cons hx (RepK.set hx q)
    · rw [if_neg c, if_neg c]
      exact .cons h (RepK.set hx q)
theorem RepK.snoc {kd : Kd} {kv : List (Key × V)} {k : Key} {v : V} {x : D} (hx : Rep G B v x) : RepK G B kv kd → RepK G B (kv ++ [(k, v)]) (kd ++ [(k, x)])
  | .nil => .cons hx .nil
  | .cons h q => .cons h (RepK.snoc hx q)
theorem RepK.put {kd : Kd} {kv : List (Key × V)} {k : Key} {v : V} {x : D} (r : RepK G B kv kd) (hx : Rep G B v x) : RepK G B (putK kv k v) (putD kd k x) := by
  unfold putK putD
  rw [r.any]
  cases hasD kd k with
  | true => rw [if_pos rfl, if_pos rfl]; exact r.set hx
  | false => rw [if_neg Bool.false_ne_true, if_neg Bool.false_ne_true]; exact r.snoc hx
theorem RepK.merge : ∀ {more : Kd} {mv : List (Key × V)} {kd : Kd} {kv : List (Key × V)}, RepK G B kv kd → RepK G B mv more → RepK G B (mergeK kv mv) (mergeD kd more)
  | [], _, _, _, r, q => by cases q; exact r
  | (f, d) :: more, mv, kd, kv, r, q => by
    cases q with
    | @cons f v d fv fd h q =>
      exact RepK.merge (kd := putD kd f d) (kv := putK kv f v) (RepK.put (k := f) r h) q
end
def dgetF : D → D → R RV
  | .dk kvs, y => (R.ofO (keyD y)).bind fun k => (R.ofO (valD kvs k)).bind fun d => .ok (dv d)
  | _, _ => .bad
def asDk : D → R Kd
  | .dk kvs => .ok kvs
  | _ => .bad
def dget1F (kvs : Kd) (y : D) : R RV := (R.ofO (keyD y)).bind fun k => .ok (dv ((valD kvs k).getD .non))
def dget2F (kvs : Kd) (y x : D) : R RV := (R.ofO (keyD y)).bind fun k => .ok (dv ((valD kvs k).getD x))
def dinF (neg : Bool) (y : D) : D → R RV
  | .dk kvs => (R.ofO (keyD y)).bind fun k => .ok (dv (.bl (if neg then !(valD kvs k).isSome else (valD kvs k).isSome)))
  | _ => .bad
def tDInA (neg : Bool) (ty td : TE) : TE := if neg then tDNotIn ty td else tDIn ty td
/-- pairs of keys and values -/
def pairD : D → Option (Key × D)
  | .tup [k, d] => (keyD k).map fun k => (k, d)
  | _ => none
def pairsD : List D → Option Kd
  | [] => some []
  | d :: r => match pairD d, pairsD r with
    | some p, some q => some (p :: q)
    | _, _ => none
def dictPF : D → R RV
  | .lst ds => (R.ofO (pairsD ds)).bind fun kvs => .ok (ov (.dk (mergeD [] kvs)))
  | .tupN ds => (R.ofO (pairsD ds)).bind fun kvs => .ok (ov (.dk (mergeD [] kvs)))
  | _ => .bad
/-- keys and values, two and two -/
def zipKD : List D → List D → Option Kd
  | [], [] => some []
  | k :: r, d :: s => match keyD k, zipKD r s with
    | some k, some q => some ((k, d) :: q)
    | _, _ => none
  | _, _ => none
/-- constant dicts of the module, flat values -/
def Cn.d : Cn → D
  | .non => .non
  | .bl b => .bl b
  | .int n => .int n
  | .str s => .str s
def rKdG (a : Addr) (kvs : Kc) : R2 := fun x y H Q => x = .ref a ∧ ∃ z c, y = .str z ∧ kvs.lookup z = some c ∧ Q c.v H
def rKdI (neg : Bool) (a : Addr) (kvs : Kc) : R2 := fun x y H Q => y = .ref a ∧ ∃ z, x = .str z ∧ Q (.bl (if neg then !(kvs.lookup z).isSome else (kvs.lookup z).isSome)) H
def kdGF (kvs : Kc) : D → R RV
  | .str z => (R.ofO (kvs.lookup z)).bind fun c => .ok (dv c.d)
  | _ => .bad
def kdIF (neg : Bool) (kvs : Kc) : D → R RV
  | .str z => .ok (dv (.bl (if neg then !(kvs.lookup z).isSome else (kvs.lookup z).isSome)))
  | _ => .bad
section
variable {X : Cx} {d : Addr} {kvs : Kc}
end
/-- data that is not ours -/
def RV.pl : RV → R D
  | .sv (.fv (.d d)) => .ok d
  | _ => .bad
/-- dict(pairs) -/
def rDictP (K : PySem.W.Frag) : List V → Hp → VK → Prop := fun xs H Q => ∃ (a : Addr) (ps : List Addr) (kvs : List (Key × V)), xs = [.ref a] ∧ (SqL K H a (ps.map V.ref) ∨ ∃ o : Obj, H a = some (.frz o (.tup (ps.map V.ref))) ∧ o.dict = none) ∧ Paired (fun p kv => SqT K H p [kV kv.1, kv.2]) ps kvs ∧
  ∀ p, H p = none → Q (.ref p) (upd H p (.dK (mergeK [] kvs)))
/-- dict(zip(xs, ys)) -/
def zipKF : List D → R RV
  | [.lst xs, .lst ys] => (R.ofO (zipKD xs ys)).bind fun kvs => if xs.length ≤ sizeLine then .ok (ov (.dk (mergeD [] kvs))) else .bad
  | [.tup xs, .tup ys] => (R.ofO (zipKD xs ys)).bind fun kvs => if xs.length ≤ sizeLine then .ok (ov (.dk (mergeD [] kvs))) else .bad
  | [.lst xs, .tup ys] => (R.ofO (zipKD xs ys)).bind fun kvs => if xs.length ≤ sizeLine then .ok (ov (.dk (mergeD [] kvs))) else .bad
  | _ => .bad
def rDictZ (K : PySem.W.Frag) : List V → Hp → VK → Prop := fun vs H Q => ∃ (a b : Addr) (xs ys : List V) (ks : List Key), vs = [.ref a, .ref b] ∧ ((SqL K H a xs ∧ SqL K H b ys) ∨ (SqT K H a xs ∧ SqT K H b ys) ∨ (SqL K H a xs ∧ SqT K H b ys)) ∧ xs = ks.map kV ∧ xs.length = ys.length ∧ xs.length ≤ sizeLine ∧
  ∀ p, H p = none → Q (.ref p) (upd H p (.dK (mergeK [] (ks.zip ys))))
/-- dict(zip(xs, range(n))) -/
def rngV (lo : Int) (n : Nat) : List V := (List.range n).map fun i => V.int (lo + (i : Nat))
def rDictZr (K : PySem.W.Frag) : List V → Hp → VK → Prop := fun vs H Q => ∃ (a b : Addr) (xs : List V) (ks : List Key) (lo hi : Int), vs = [.ref a, .ref b] ∧ SqL K H a xs ∧ H b = some (.rng lo hi) ∧ (-(2 ^ 62) ≤ lo ∧ lo < 2 ^ 62 ∧ -(2 ^ 62) ≤ hi ∧ hi < 2 ^ 62) ∧ xs = ks.map kV ∧ xs.length = (hi - lo).toNat ∧ xs.length ≤ sizeLine ∧
  ∀ p, H p = none → Q (.ref p) (upd H p (.dK (mergeK [] (ks.zip (rngV lo (hi - lo).toNat)))))
def zipRKF : List D → R RV
  | [.lst xs, .rng lo hi] => if (-(2 ^ 62) ≤ lo ∧ lo < 2 ^ 62 ∧ -(2 ^ 62) ≤ hi ∧ hi < 2 ^ 62) ∧ xs.length ≤ sizeLine then (R.ofO (zipKD xs ((List.range (hi - lo).toNat).map fun (k : Nat) => D.int (lo + (k : Int))))).bind fun kvs => .ok (ov (.dk (mergeD [] kvs))) else .bad
  | _ => .bad
section
variable {G : Gm} {B H : Hp}
theorem rng_repV {lo : Int} {n : Nat} : Reps G B (rngV lo n) ((List.range n).map fun (k : Nat) => D.int (lo + (k : Int))) := by
  unfold rngV
  induction List.range n with
  | nil => exact .nil
  | cons a r ih => exact .cons (.int _) ih
theorem pairs_rep (e : Ex B H) : ∀ {vs : List V} {ds : List D} {kd : Kd}, Reps G B vs ds → pairsD ds = some kd → ∃ (ps : List Addr) (kvs : List (Key × V)), vs = ps.map V.ref ∧ Paired (fun p kv => SqT G.K H p [kV kv.1, kv.2]) ps kvs ∧ RepK G B kvs kd
  | _, _, _, .nil, h => by
    cases h
    exact ⟨[], [], rfl, .nil, .nil⟩
  | _, _, kd, .cons (d := d) (ds := r) h1 h2, h => by
    unfold pairsD at h
    cases e1 : pairD d with
    | none => rw [e1] at h; cases h
    | some p =>
      cases e2 : pairsD r with
      | none => rw [e1, e2] at h; cases h
      | some q =>
        rw [e1, e2] at h
        cases h
        obtain ⟨ps, kvs, rfl, p2, r2⟩ := pairs_rep e h2 e2
        unfold pairD at e1
        split at e1 <;> first | (cases e1; done) | skip
        rename_i y x
        cases e3 : keyD y with
        | none => rw [e3] at e1; cases e1
        | some k =>
          rw [e3] at e1
          cases e1
          cases h1 with
          | @tup a us _ hs rs =>
            cases rs with
            | cons r3 r4 =>
              cases r4 with
              | cons r4 r5 =>
                cases r5
                have z := key_rep (H := H) (.rep r3) e3
                subst z
                exact ⟨a :: ps, (k, _) :: kvs, rfl, .cons (ex_t e hs) p2, .cons r4 r2⟩
theorem zip_rep : ∀ {xs ys : List D} {us ws : List V} {kd : Kd}, Reps G B us xs → Reps G B ws ys → zipKD xs ys = some kd → ∃ ks : List Key, us = ks.map kV ∧ us.length = ws.length ∧ RepK G B (ks.zip ws) kd
  | [], [], _, _, kd, .nil, .nil, h => by
    cases h
    exact ⟨[], rfl, rfl, .nil⟩
  | [], _ :: _, _, _, kd, _, _, h => by cases h
  | _ :: _, [], _, _, kd, _, _, h => by cases h
  | k :: r, d :: s, _, _, kd, .cons h1 h2, .cons h3 h4, h => by
    unfold zipKD at h
    cases e1 : keyD k with
    | none => rw [e1] at h; cases h
    | some k' =>
      cases e2 : zipKD r s with
      | none => rw [e1, e2] at h; cases h
      | some q =>
        rw [e1, e2] at h
        cases h
        obtain ⟨ks, rfl, l, r2⟩ := zip_rep h2 h4 e2
        have z := key_rep (H := B) (.rep h1) e1
        subst z
        exact ⟨k' :: ks, rfl, by rw [List.length_cons, List.length_cons, l], .cons h3 r2⟩
end
/-! a tuple that has no dict -/
def nrmF : RV → R RV
  | .sv (.fv (.d (.tupN ds))) => .ok (dv (.tup ds))
  | _ => .bad
def tupNF : D → R RV
  | .lst ds => .ok (dv (.tupN ds))
  | _ => .bad
def rTupN (K : PySem.W.Frag) : List V → Hp → VK → Prop := fun xs H Q => ∃ p ys, xs = [.ref p] ∧ SqL K H p ys ∧ ∀ (l : Addr) (o : Obj), H l = none → o.dict = none → Q (.ref l) (upd H l (.frz o (.tup ys)))
/-- the first place of a text -/
def idxN (z : Str) : List Str → Option Nat
  | [] => none
  | y :: r => if y = z then some 0 else (idxN z r).map (· + 1)
theorem idxN_ok {z : Str} : ∀ {ys : List Str} {j : Nat}, idxN z ys = some j → ys[j]? = some z ∧ ∀ m, m < j → ys[m]? ≠ some z
  | [], _, h => by cases h
  | y :: r, j, h => by
    unfold idxN at h
    split at h
    · rename_i c
      cases h
      exact ⟨by rw [c]; rfl, fun m hm => absurd hm (Nat.not_lt_zero m)⟩
    · rename_i c
      cases e : idxN z r with
      | none => rw [e] at h; cases h
      | some i =>
        rw [e] at h
        cases h
        obtain ⟨h1, h2⟩ := idxN_ok e
        refine ⟨h1, fun m hm => ?_⟩
        cases m with
        | zero => intro q; exact c (Option.some.inj q)
        | succ m => exact h2 m (by have hm : m + 1 < i + 1 := hm; omega)
def tixF (ds : List D) : D → R RV
  | .str z => (R.ofO (strsOf ds)).bind fun ys => (R.ofO (idxN z ys)).bind fun j => .ok (dv (.int (j : Nat)))
  | _ => .bad
def tnOf : RV → R (List D)
  | .sv (.fv (.d (.tupN ds))) => .ok ds
  | _ => .bad
/-! t.index(s) of such a tuple of texts -/
def rTupIx (K : PySem.W.Frag) : V → List V → Hp → VK → Prop := fun x xs H Q => ∃ p, ∃ ys : List Str, ∃ z j, x = .ref p ∧ xs = [.str z] ∧ SqT K H p (ys.map V.str) ∧ ys[j]? = some z ∧ (∀ m, m < j → ys[m]? ≠ some z) ∧ Q (.int (j : Nat)) H
def tTix (K : PySem.W.Frag) (to : TE) (t : TA) : TE := fun σ H Q => to σ H fun x H1 => (∃ a o vs, x = .ref a ∧ H1 a = some (.frz o (.tup vs)) ∧ o.dict = none) ∧ t σ H1 fun xs H2 => rTupIx K x xs H2 Q
/-! isinstance(x, C) of an own class -/
def rIsC (C : Addr) : List V → Hp → VK → Prop := fun xs H Q => ∃ a dx fs, xs = [.ref a, .ref C] ∧ H a = some (.ins C dx fs) ∧ Q (.bl true) H
def isCF (c : Nat) : RV → R RV
  | .sv (.fv (.d (.ins c' _))) => if c' = c then .ok (dv (.bl true)) else .bad
  | .sv (.obj false c' _) => if c' = c then .ok (dv (.bl true)) else .bad
  | _ => .bad
end Ci
end

section
set_option Elab.async false
set_option linter.all false
set_option maxRecDepth 100000
set_option maxHeartbeats 2000000
/-! ## what it is to do what is computed -/
namespace Ci
open PySem PySem.Spec PyProof.Rows L2 Evl

/-- wishes of exceptions, by the slots -/
abbrev XE2 := L2.St → XK
inductive SR where
  | nx (ρ : En) | bk (ρ : En) | ct (ρ : En) | rt (v : RV) (ρ : En) | err (x : Nat) (f : Option (Str × D)) (ρ : En) | bad
/-- a reading does what is computed -/
def Does (G : Gm) (E : XE2) {α β : Type} (rel : Hp → Hp → Hp → Hp → β → α → Prop) (t : L2.St → Hp → (β → Hp → Prop) → Prop) (ρ : En) (r : R α) : Prop :=
  ∀ pn H0 B H σ, Slots G pn H0 B H σ ρ → ∀ Q, Post G (E σ) (rel H0) B H r Q → t σ H Q
def relV (G : Gm) : Hp → Hp → Hp → Hp → V → RV → Prop := fun _ => RvOk G
def XEnd (G : Gm) (pn : Addr) (E : XE2) (B0 H0 : Hp) (x : Nat) (ρ : En) : Option (Str × D) → Prop
  | none => ∀ B H σ, Go G B0 H0 B H → Slots G pn H0 B H σ ρ → E σ (.ref (G.ca x)) none H
  | some (g, d) => ∀ B H σ dd v, Go G B0 H0 B H → Slots G pn H0 B H σ ρ → H dd = some (.xd [(g, v)]) → Rep G B v d → E σ (.ref (G.ca x)) (some dd) H
/-- what is wanted behind a block -/
def Sat (G : Gm) (pn : Addr) (E : XE2) (B0 H0 : Hp) (D' : Ends) : SR → Prop
  | .nx ρ => ∀ B H σ, Go G B0 H0 B H → Slots G pn H0 B H σ ρ → D'.nx σ H
  | .bk ρ => ∀ B H σ, Go G B0 H0 B H → Slots G pn H0 B H σ ρ → D'.bk σ H
  | .ct ρ => ∀ B H σ, Go G B0 H0 B H → Slots G pn H0 B H σ ρ → D'.ct σ H
  | .rt v ρ => ∀ B H σ w s, v = .sv s → s.isBrw = false → Go G B0 H0 B H → SlotsV G pn H0 B H σ ρ w s → D'.rt w H
  | .err x f ρ => XEnd G pn E B0 H0 x ρ f
  | .bad => False
def Runs (G : Gm) (E : XE2) (ts : TS) (ρ : En) (r : SR) : Prop := ∀ pn B0 H0 B H σ, Go G B0 H0 B H → Slots G pn H0 B H σ ρ → ∀ D' : Ends, Sat G pn E B0 H0 D' r → ts D' σ H
end Ci
end

section
set_option Elab.async false
set_option linter.all false
set_option maxRecDepth 100000
set_option maxHeartbeats 2000000
/-! ## the syntax, what it denotes, what it computes -/
namespace Ci
open PySem PySem.Spec PyProof.Rows L2 Evl

inductive Sr where
  | e | a | r | m | t | o | i | g | gs | p | s | f | x | xs | h | w | u
/-- list methods that change -/
inductive Mo where
  | append | insert
/-- a method that changes self: attributes and arguments to a value and attributes -/
abbrev SelfF := List (Str × FV) → List D → R (D × List (Str × FV))
inductive P : Sr → Type
  -- expressions
  | var (i : Nat) : P .e
  | c (k : Cn) : P .e
  | kt (j : Nat) (ds : List D) : P .e
  | bin (o : B2) (a b : P .e) : P .e
  | neg (a : P .e) : P .e
  | andV (a b : P .e) : P .e
  | orV (a b : P .e) : P .e
  | notV (a : P .e) : P .e
  | chain (o o' : B2) (a b c : P .e) : P .e
  | chain3 (o o' o2 : B2) (a b c d : P .e) : P .e
  | ife (t : P .t) (a b : P .e) : P .e
  | tup (as : P .a) : P .e
  | lst (as : P .a) : P .e
  | fld (cs : List Nat) (a : P .e) (f : Str) : P .e
  | fldv (cs : List Nat) (i : Nat) (f : Str) : P .e
  | sl (a : P .e) (lo hi : P .o) : P .e
  | cb (o : Cb) (as : P .r) : P .e
  | isi (a : P .e) (T : String) : P .e
  | call (ms : List Bool) (f : List D → R RV) (as : P .m) : P .e
  | meth (c : Nat) (m : Str) (ms : List Bool) (f : List D → R RV) (o : P .e) (as : P .m) : P .e
  | make (c : Nat) (ms : List Bool) (f : List D → R (List (Str × FV))) (as : P .m) : P .e
  | lc (it : P .i) (g : P .g) (t : P .t) (e : P .e) (vs : List Nat) : P .e
  | dcm (it : P .i) (g : P .g) (t : P .t) (k e : P .e) (vs : List Nat) : P .e
  | lc2 (it : P .i) (g : P .g) (it2 : P .i) (g2 : P .g) (e : P .e) (vs vs1 : List Nat) : P .e
  | lend (i : Nat) (a : P .e) : P .e
  | rev (a : P .e) : P .e
  | tm (o : Tm) (a e : P .e) : P .e
  | fn (j : Nat) : P .e
  | callv (i j : Nat) (ms : List Bool) (f : List D → R RV) (as : P .m) : P .e
  | fmt (a : P .e) : P .e
  | fstr (as : P .f) : P .e
  | fnil : P .f
  | fcons (a : P .e) (as : P .f) : P .f
  | noE : P .e
  | nix (i : Nat) (k : Bool) : P .e
  | dnew : P .e
  | dget (a k : P .e) : P .e
  | dget1 (a k : P .e) : P .e
  | dget2 (a k x : P .e) : P .e
  | din (neg : Bool) (k a : P .e) : P .e
  | dictP (a : P .e) : P .e
  | dictZ (as : P .r) : P .e
  | dictR (as : P .r) : P .e
  | kdG (j : Nat) (kvs : Kc) (k : P .e) : P .e
  | kdI (neg : Bool) (j : Nat) (kvs : Kc) (k : P .e) : P .e
  | lendO (i : Nat) (a : P .e) : P .e
  | nrmE (a : P .e) : P .e
  | isC (c : Nat) (a : P .e) : P .e
  | tupNE (a : P .e) : P .e
  | tix (a z : P .e) : P .e
  | lrg (a : P .e) : P .e
  -- arguments: data; to be read; by modes
  | anil : P .a
  | acons (a : P .e) (as : P .a) : P .a
  | rnil : P .r
  | rcons (a : P .e) (as : P .r) : P .r
  | mnil : P .m
  | mcons (b : Bool) (a : P .e) (as : P .m) : P .m
  -- tests
  | tst (a : P .e) : P .t
  | tru (a : P .e) : P .t
  | andT (a b : P .t) : P .t
  | orT (a b : P .t) : P .t
  | notT (a : P .t) : P .t
  | yes : P .t
  -- parts of a slice
  | noP : P .o
  | someP (a : P .e) : P .o
  -- what is walked
  | seq (a : P .e) : P .i
  | rngv (a : P .e) : P .i
  | seqb (i : Nat) : P .i
  | rng1 (as : P .a) : P .i
  | rng2 (as : P .a) : P .i
  | rng3 (as : P .a) : P .i
  | zip (as : P .a) : P .i
  | enum (as : P .a) : P .i
  | enumK (as ks : P .a) : P .i
  | zipR (as : P .a) : P .i
  -- targets
  | gname (i : Nat) : P .g
  | gtup (n : Nat) (gs : P .gs) : P .g
  | gtl (n : Nat) (gs : P .gs) : P .g
  | gnil : P .gs
  | gcons (g : P .g) (gs : P .gs) : P .gs
  -- places
  | pvar (i : Nat) : P .p
  | pfld (c : Nat) (i : Nat) (f : Str) : P .p
  | pnst (i : Nat) (k : Bool) : P .p
  -- statements
  | skip : P .s
  | sq (a b : P .s) : P .s
  | asgN (i : Nat) (a : P .e) : P .s
  | asgG (g : P .g) (a : P .e) : P .s
  | asgF (i c : Nat) (f : Str) (a : P .e) : P .s
  | asgI (p : P .p) (ix a : P .e) : P .s
  | mut (o : Mo) (p : P .p) (as : P .a) : P .s
  | ext (p : P .p) (a : P .e) : P .s
  | popD (p : P .p) : P .s
  | popG (g : P .g) (p : P .p) : P .s
  | aug (i : Nat) (sub : Bool) (a : P .e) : P .s
  | augI (p : P .p) (ix : P .e) (sub : Bool) (a : P .e) : P .s
  | drop (a : P .e) : P .s
  | ret (a : P .e) : P .s
  | retO (i : Nat) : P .s
  | retN : P .s
  | brk : P .s
  | cont : P .s
  | raise (x : Nat) : P .s
  | ifS (t : P .t) (a b : P .s) : P .s
  | for (it : P .i) (g : P .g) (b : P .s) (kill : List Nat) : P .s
  | while (n : Nat) (t : P .t) (b : P .s) (kill : List Nat) : P .s
  | try (c : Nat) (subs : List Nat) (b h : P .s) : P .s
  | try2 (c c2 : Nat) (b h h2 : P .s) : P .s
  | try3 (c c2 c3 : Nat) (b h h2 h3 : P .s) : P .s
  | frz (i : Nat) : P .s
  | kill (is : List Nat) : P .s
  | noS : P .s
  | nset (i : Nat) (a b : P .e) : P .s
  | selfS (i c : Nat) (m : Str) (ms : List Bool) (f : SelfF) (as : P .m) : P .s
  -- what is shown by hand
  | own (t : Gm → XE2 → TS) (f : En → SR) : P .s
  | ownE (t : Gm → XE2 → TE) (f : En → R RV) : P .e
  | raiseF (x : Nat) (f : Str) (a : P .e) : P .s
  | tryA (c i : Nat) (subs : List Nat) (b : P .s) (h : P .h) : P .s
  | dput (p : P .p) (k a : P .e) : P .s
  | daug (p : P .p) (k : P .e) (sub : Bool) (a : P .e) : P .s
  | appP (p : P .p) (f : List D → R RV) (a b : P .e) : P .s
  | retW (w : P .w) : P .s
  | appW (i : Nat) (w : P .w) : P .s
  | asgW (i : Nat) (w : P .w) : P .s
  | ifU (u : P .u) (a b : P .s) : P .s
  -- values and tests that change an object of ours
  | wself (i c : Nat) (m : Str) (ms : List Bool) (f : SelfF) (as : P .m) : P .w
  | wand (a : P .e) (w : P .w) : P .w
  | wpop (i : Nat) : P .w
  | wpop0 (i : Nat) : P .w
  | wbin (o : Ci.B2) (k : Cn) (w : P .w) : P .w
  | ut (t : P .t) : P .u
  | uw (w : P .w) : P .u
  | unot (u : P .u) : P .u
  | uor (t : P .t) (u : P .u) : P .u
  | uand (t : P .t) (u : P .u) : P .u
  -- what a suite that names the exception answers
  | xe (a : P .e) : P .x
  | xf (x : Nat) (f : Str) : P .x
  | xi (y : Nat) (ys : List (Nat × Bool)) : P .x
  | xtup (as : P .xs) : P .x
  | xand (a b : P .x) : P .x
  | xcall (ms : List Bool) (f : List D → R RV) (as : P .xs) : P .x
  | xife (y : Nat) (ys : List (Nat × Bool)) (a b : P .x) : P .x
  | xbin (o : B2) (a b : P .x) : P .x
  | xnil : P .xs
  | xcons (a : P .x) (as : P .xs) : P .xs
  | hret (a : P .x) : P .h
  | hif (y : Nat) (ys : List (Nat × Bool)) (a b : P .h) : P .h
  | hifx (t : P .x) (a b : P .h) : P .h

/-! ### what it denotes -/
abbrev Den : Sr → Type
  | .e => TE
  | .a => TA
  | .r => TA
  | .m => TA
  | .t => TT
  | .o => TO
  | .i => TI
  | .g => TG
  | .gs => TGs
  | .p => TE
  | .s => TS
  | .f => List TE
  | .x => Nat → Addr → Value → Option Addr → TE
  | .xs => Nat → Addr → Value → Option Addr → TA
  | .h => Nat → Addr → Value → Option Addr → TS
  | .w => TE
  | .u => TT
def iOr (w1 w2 : TI) : TI := fun σ H R => w1 σ H R ∨ w2 σ H R
theorem pi_or {X : Cx} {tg e : Expr} {w1 w2 : TI} (h1 : PI X tg e w1) (h2 : PI X tg e w2) : PI X tg e (iOr w1 w2) := ⟨fun pins s σ H R I h => h.elim (fun q => h1.run pins s σ H R I q) fun q => h2.run pins s σ H R I q⟩
def iSeq (K : PySem.W.Frag) (te : TE) : TI := iOr (iList K te) (iOr (iTup K te) (iStr te))
theorem pi_seqK {X : Cx} {K : PySem.W.Frag} {e : Expr} {te : TE} {tg : Expr} (h : X.K = K) (ha : PE X e te) : PI X tg e (iSeq K te) := h ▸ pi_or (pi_list ha) (pi_or (pi_tup ha) (pi_str ha))
def tTry (K : PySem.W.Frag) (c : Value) (E : XE2) (tb : WX → TS) (ts : Addr → Value → Option Addr → TS) : TS := fun D' σ H => tb (wOnly K c ts (fun cl d σ H => E σ cl d H) D') D' σ H
def tTry3 (K : PySem.W.Frag) (c c2 c3 : Value) (E : XE2) (tb : WX → TS) (ts ts2 ts3 : Addr → Value → Option Addr → TS) : TS := fun D' σ H => tb (wMany K (fun cl d σ H => E σ cl d H) D' [(c, ts), (c2, ts2), (c3, ts3)]) D' σ H
def tTry2 (K : PySem.W.Frag) (c c2 : Value) (E : XE2) (tb : WX → TS) (ts ts2 : Addr → Value → Option Addr → TS) : TS := fun D' σ H => tb (wMany K (fun cl d σ H => E σ cl d H) D' [(c, ts), (c2, ts2)]) D' σ H
/-- an own exception with one attribute: what its __init__ keeps -/
def PrE (G : Gm) (x : Nat) (f : Str) : Sp := fun vs H Q _ => ∃ a y, vs = [.ref a, y] ∧ H a = some (exo a (G.ca x) none) ∧ ∀ dx, H dx = none → dx ≠ a → Q .non (upd (upd H dx (exd dx [(f, y)])) a (exo a (G.ca x) (some dx)))
/-- except c as the i-th name -/
def tTryA (K : PySem.W.Frag) (c : Value) (i : Nat) (E : XE2) (tb : WX → TS) (ts : Addr → Value → Option Addr → TS) : TS := fun D' σ H => tb (wAs K c i ts (fun cl d σ H => E σ cl d H) D') D' σ H
/-- isinstance of the exception that the suite names: told by its class -/
def rIsX (a : Addr) (cls : Value) (d : Option Addr) (ca : Nat → Addr) (y : Nat) (ys : List (Nat × Bool)) : List V → Hp → VK → Prop := fun xs H Q => ∃ x b, ys.lookup x = some b ∧ cls = .ref (ca x) ∧ xs = [.ref a, .ref (ca y)] ∧ (d = none ∨ ∃ dd fs, d = some dd ∧ H dd = some (.xd fs)) ∧ Q (.bl b) H
def tIsX (i a : Nat) (cls : Value) (d : Option Addr) (ca : Nat → Addr) (y : Nat) (ys : List (Nat × Bool)) : TE := tCB (rIsX a cls d ca y ys) (tCons (tVar i) (tCons (tC (.ref (ca y))) tNil))
/-- the first of two suites ends with a return -/
def sHif (t : TT) (a b : TS) : TS := fun D' σ H => tIfS t (fun D2 => a { D2 with nx := fun _ _ => False }) b D' σ H
/-- nothing is raised -/
abbrev E0 : XE2 := fun _ _ _ _ => False
/-- calls, what is wished of exceptions by the slots -/
def cCall (sp : Sp) (E : XE2) (t : TA) : TE := fun σ H Q => t σ H fun vs H1 => sp vs H1 Q (E σ)
/-- a call of what a slot holds -/
def cCallL (i : Nat) (f : Addr) (sp : Sp) (E : XE2) (t : TA) : TE := fun σ H Q => σ[i]? = some (some (.ref f)) ∧ t σ H fun vs H1 => sp vs H1 Q (E σ)
def cMeth (C : Addr) (m : Str) (sp : Sp) (E : XE2) (to : TE) (t : TA) : TE := fun σ H Q => to σ H fun x H1 => ∃ a dx fs, x = .ref a ∧ H1 a = some (.ins C dx fs) ∧ fs.lookup m = none ∧ t σ H1 fun vs H2 => sp (x :: vs) H2 Q (E σ)
def cMake (C : Addr) (sp : Sp) (E : XE2) (t : TA) : TE := fun σ H Q => t σ H fun vs H1 => ∀ x dx, H1 x = none → H1 dx = none → dx ≠ x → sp (.ref x :: vs) (upd (upd H1 dx (.own x)) x (.ins C dx [])) (fun v H2 => v = .non ∧ Q (.ref x) H2) (E σ)
def Mo.den : Mo → V → List V → Hp → VK → Prop
  | .append => rAppend
  | .insert => fun x vs H Q => ∃ (l : Addr) (xs : List V) (i : Int) (y : V), x = .ref l ∧ vs = [.int i, y] ∧ H l = some (.lst xs) ∧ xs.length < sizeLine ∧ 0 ≤ i ∧ i < 2 ^ 63 ∧ Q .non (upd H l (.lst (xs.take i.toNat ++ [y] ++ xs.drop i.toNat)))
/-- the promise of a def whose arguments are data, or lists that are read (ms: true) -/
inductive ArgsOk (G : Gm) (B H : Hp) : List Bool → List V → List D → Prop
  | nil : ArgsOk G B H [] [] []
  | d {v : V} {d : D} {ms : List Bool} {vs : List V} {ds : List D} : Rep G B v d → ArgsOk G B H ms vs ds → ArgsOk G B H (false :: ms) (v :: vs) (d :: ds)
  | b {a : Addr} {us : List V} {es : List D} {ms : List Bool} {vs : List V} {ds : List D} : H a = some (.lst us) → Reps G B us es → ArgsOk G B H ms vs ds → ArgsOk G B H (true :: ms) (.ref a :: vs) (.lst es :: ds)
def Pr (G : Gm) (ms : List Bool) (f : List D → R RV) : Sp := fun vs H Q E => ∃ B ds, Ex B H ∧ ArgsOk G B H ms vs ds ∧ TbOk G B H ∧ Post G E (RvOk G) B H (f ds) Q
/-- the promise of an __init__: self is a new object without attributes -/
def PrI (G : Gm) (c : Nat) (ms : List Bool) (f : List D → R (List (Str × FV))) : Sp := fun vs H Q E => ∃ B ds p dx ws, vs = .ref p :: ws ∧ H p = some (.ins (G.cm c) dx []) ∧ B p = none ∧ Ex B H ∧ ArgsOk G B H ms ws ds ∧ TbOk G B H ∧ match f ds with
  | .ok fs => ∀ B' H' dy fv as, Off G [p] B H B' H' → Ex B' H' → B' p = none → H' p = some (.ins (G.cm c) dy fv) → FsOk G H B' H' fv fs as → (p :: as).Nodup → Q .non H'
  | .err x f => match f with
    | none => ∀ B' H', Off G [p] B H B' H' → Ex B' H' → E (.ref (G.ca x)) none H'
    | some (g, d) => ∀ B' H' dd v, Off G [p] B H B' H' → Ex B' H' → H' dd = some (.xd [(g, v)]) → Rep G B' v d → E (.ref (G.ca x)) (some dd) H'
  | .bad => False
/-- the promise of a method that changes self -/
def PrS (G : Gm) (c : Nat) (ms : List Bool) (f : SelfF) : Sp := fun vs H Q E => ∃ B fs ds p dx ws fv as, vs = .ref p :: ws ∧ H p = some (.ins (G.cm c) dx fv) ∧ B p = none ∧ Ex B H ∧ FsOk G (fun _ => none) B H fv fs as ∧ (p :: as).Nodup ∧ ArgsOk G B H ms ws ds ∧ TbOk G B H ∧ match f fs ds with
  | .ok (d, fs') => ∀ v B' H' dy fv' as', Off G (p :: as) B H B' H' → Ex B' H' → B' p = none → H' p = some (.ins (G.cm c) dy fv') → FsOk G (fun _ => none) B' H' fv' fs' as' → (p :: as').Nodup → (∀ a, a ∈ as' → a ∈ as ∨ H a = none) → Rep G B' v d → Q v H'
  | .err x f => match f with
    | none => ∀ B' H', Off G (p :: as) B H B' H' → Ex B' H' → E (.ref (G.ca x)) none H'
    | some (g, d) => ∀ B' H' dd v, Off G (p :: as) B H B' H' → Ex B' H' → H' dd = some (.xd [(g, v)]) → Rep G B' v d → E (.ref (G.ca x)) (some dd) H'
  | .bad => False

def den (G : Gm) : {s : Sr} → XE2 → P s → Den s
  | _, E, .var i => tVar i
  | _, E, .c k => tC k.v
  | _, E, .kt j ds => tC (.ref (G.kt j))
  | _, E, .bin o a b => tOp (o.den G.K) (den G E a) (den G E b)
  | _, E, .neg a => tUn (rU fun i => .int (-i)) (den G E a)
  | _, E, .andV a b => tAndV (den G E a) (den G E b)
  | _, E, .orV a b => tOrV (den G E a) (den G E b)
  | _, E, .notV a => tNotV (den G E a)
  | _, E, .chain o o' a b c => tChain (o.den G.K) (o'.den G.K) (den G E a) (den G E b) (den G E c)
  | _, E, .chain3 o o' o2 a b c d => tChain3 (o.den G.K) (o'.den G.K) (o2.den G.K) (den G E a) (den G E b) (den G E c) (den G E d)
  | _, E, .ife t a b => tIf (den G E t) (den G E a) (den G E b)
  | _, E, .tup as => tTup (den G E as)
  | _, E, .lst as => tLst (den G E as)
  | _, E, .fld cs a f => tFld G.K (den G E a) f
  | _, E, .fldv cs i f => tFld G.K (tVar i) f
  | _, E, .sl a lo hi => tSl (rSl G.K) (den G E a) (den G E lo) (den G E hi)
  | _, E, .cb o as => tCB (o.den G.K) (den G E as)
  | _, E, .isi a T => tCB (rIsi G.K) (tCons (den G E a) (tCons (tC (.ty T)) tNil))
  | _, E, .call ms f as => cCall (Pr G ms f) E (den G E as)
  | _, E, .tm o a e => tM1 (o.den G.K) (den G E a) (den G E e)
  | _, E, .fn j => tC (.ref (G.ft j))
  | _, E, .callv i j ms f as => cCallL i (G.ft j) (Pr G ms f) E (den G E as)
  | _, E, .fmt a => tFmt (den G E a)
  | _, E, .fstr as => fun σ H Q => tJs (den G E as) Str.empty σ H fun out H1 => Q (.str out) H1
  | _, E, .fnil => []
  | _, E, .fcons a as => den G E a :: den G E as
  | _, E, .noE => tNo
  | _, E, .lrg a => tLstRg (tRg1 (den G E a))
  | _, E, .dnew => tDNewK
  | _, E, .dget a k => tDGet (den G E a) (den G E k)
  | _, E, .dget1 a k => tDGet1 (den G E a) (den G E k)
  | _, E, .dget2 a k x => tDGet2 (den G E a) (den G E k) (den G E x)
  | _, E, .din neg k a => tDInA neg (den G E k) (den G E a)
  | _, E, .dictP a => tCB (rDictP G.K) (tCons (den G E a) tNil)
  | _, E, .dictZ as => tCB (rDictZ G.K) (den G E as)
  | _, E, .dictR as => tCB (rDictZr G.K) (den G E as)
  | _, E, .kdG j kvs k => tOp (rKdG (G.kt j) kvs) (tC (.ref (G.kt j))) (den G E k)
  | _, E, .kdI neg j kvs k => tOp (rKdI neg (G.kt j) kvs) (den G E k) (tC (.ref (G.kt j)))
  | _, E, .lendO i a => den G E a
  | _, E, .isC c a => tCB (rIsC (G.cm c)) (tCons (den G E a) (tCons (tC (.ref (G.cm c))) tNil))
  | _, E, .nrmE a => den (s := .e) G E a
  | _, E, .tupNE a => tCB (rTupN G.K) (tCons (den G E a) tNil)
  | _, E, .tix a z => tTix G.K (den G E a) (tCons (den G E z) tNil)
  | _, E, .nix i k => tOp (rIx G.K) (tVar i) (tC (.int (if k then 1 else 0)))
  | _, E, .noS => sNo
  | _, E, .nset i a b => tAsg (tLst (tCons (den G E a) (tCons (den G E b) tNil))) (gName i)
  | _, E, .meth c m ms f o as => cMeth (G.cm c) m (Pr G (false :: ms) f) E (den G E o) (den G E as)
  | _, E, .make c ms f as => cMake (G.cm c) (PrI G c ms f) E (den G E as)
  | _, E, .lc it g t e vs => tLc (den G E it) (den G E0 g) (den G E0 t) (den G E0 e) vs
  | _, E, .dcm it g t k e vs => L2.tDc (den G E it) (den G E0 g) (den G E0 t) (den G E0 k) (den G E0 e) vs
  | _, E, .lc2 it g it2 g2 e vs vs1 => tLc2 (den G E it) (den G E0 g) tYes (den G E0 it2) (den G E0 g2) tYes (den G E0 e) vs vs1
  | _, E, .lend i a => den G E a
  | _, E, .rev a => tRevL G.K (den G E a)
  | _, E, .anil => tNil
  | _, E, .acons a as => tCons (den G E a) (den G E as)
  | _, E, .rnil => tNil
  | _, E, .rcons a as => tCons (den G E a) (den G E as)
  | _, E, .mnil => tNil
  | _, E, .mcons _ a as => tCons (den G E a) (den G E as)
  | _, E, .tst a => tTest (den G E a)
  | _, E, .tru a => tTru G.K (den G E a)
  | _, E, .andT a b => tAnd (den G E a) (den G E b)
  | _, E, .orT a b => tOr (den G E a) (den G E b)
  | _, E, .notT a => tNot (den G E a)
  | _, E, .yes => tYes
  | _, E, .noP => tNoPart
  | _, E, .someP a => tPart (den G E a)
  | _, E, .seq a => iSeq G.K (den G E a)
  | _, E, .rngv a => iRngV (den G E a)
  | _, E, .seqb i => iSeq G.K (tVar i)
  | _, E, .rng1 as => iRng1 (den G E as)
  | _, E, .rng2 as => iRng2 (den G E as)
  | _, E, .rng3 as => iRng3 (den G E as)
  | _, E, .zip as => RZ.iZipA G.K (den G E as)
  | _, E, .enum as => iEnumA G.K (den G E as)
  | _, E, .enumK as ks => iEnumK G.K (den G E as) (den G E ks)
  | _, E, .zipR as => iZr G.K (den G E as)
  | _, E, .gname i => gName i
  | _, E, .gtup n gs => gTup G.K n (den G E gs)
  | _, E, .gtl n gs => gLst G.K n (den G E gs)
  | _, E, .gnil => gNil
  | _, E, .gcons g gs => gCons (den G E g) (den G E gs)
  | _, E, .pvar i => tVar i
  | _, E, .pfld c i f => tFld G.K (tVar i) f
  | _, E, .pnst i k => tOp (rIx G.K) (tVar i) (tC (.int (if k then 1 else 0)))
  | _, E, .skip => tNext
  | _, E, .sq a b => tSeq (den G E a) (den G E b)
  | _, E, .asgN i a => tAsg (den G E a) (gName i)
  | _, E, .asgG g a => tAsg (den G E a) (den G E g)
  | _, E, .asgF i c f a => sFld G.K (tVar i) (den G E a) f
  | _, E, .asgI p ix a => tAsg (den G E a) (gSub (den G E p) (den G E ix) rSetL)
  | _, E, .mut o p as => tDrop (tBM G.K "list" o.den (den G E p) (den G E as))
  | _, E, .ext p a => tDrop (tBM G.K "list" rExtend (den G E p) (tCons (den G E a) tNil))
  | _, E, .popD p => tDrop (tBM0 G.K "list" rPop (den G E p))
  | _, E, .popG g p => tAsg (tBM0 G.K "list" rPop (den G E p)) (den G E g)
  | _, E, .aug i sub a => tAug i (den G E a) (ipI fun m n => if sub then m - n else m + n)
  | _, E, .augI p ix sub a => tAugS (den G E p) (den G E ix) (den G E a) rGetL (ipI fun m n => if sub then m - n else m + n) rSetL
  | _, E, .drop a => tDrop (den G E a)
  | _, E, .ret a => tRet (den G E a)
  | _, E, .retO i => tRet (tVar i)
  | _, E, .retN => tRetN
  | _, E, .brk => tBreak
  | _, E, .cont => tCont
  | _, E, .raise x => fun _ σ H => E σ (.ref (G.ca x)) none H
  | _, E, .ifS t a b => tIfS (den G E t) (den G E a) (den G E b)
  | _, E, .for it g b kill => tFor (den G E it) (den G E g) (den G E b)
  | _, E, .while n t b kill => tWhile (den G E t) (den G E b)
  | _, E, .try c subs b h => tTry G.K (.ref (G.ca c)) E (fun W => den G (WE W) b) (fun _ _ _ => den G E h)
  | _, E, .try2 c c2 b h h2 => tTry2 G.K (.ref (G.ca c)) (.ref (G.ca c2)) E (fun W => den G (WE W) b) (fun _ _ _ => den G E h) (fun _ _ _ => den G E h2)
  | _, E, .try3 c c2 c3 b h h2 h3 => tTry3 G.K (.ref (G.ca c)) (.ref (G.ca c2)) (.ref (G.ca c3)) E (fun W => den G (WE W) b) (fun _ _ _ => den G E h) (fun _ _ _ => den G E h2) (fun _ _ _ => den G E h3)
  | _, E, .frz i => tNext
  | _, E, .kill is => tNext
  | _, E, .own t f => t G E
  | _, E, .ownE t f => t G E
  | _, E, .selfS i c m ms f as => tDrop (cMeth (G.cm c) m (PrS G c ms f) E (tVar i) (den G E as))
  | _, E, .dput p k a => sDPut (den G E p) (den G E k) (den G E a)
  | _, E, .daug p k sub a => sDAug (den G E p) (den G E k) (den G E a) (ipI fun m n => if sub then m - n else m + n)
  | _, E, .appP p f a b => tDrop (tBM G.K "list" rAppend (den G E p) (tCons (cCall (Pr G [false, false, false] f) E (tCons (den G E a) (tCons (tBM0 G.K "list" rPop (den G E p)) (tCons (den G E b) tNil)))) tNil))
  | _, E, .retW w => tRet (den G E w)
  | _, E, .asgW i w => tAsg (den G E w) (gName i)
  | _, E, .ifU u a b => tIfS (den G E u) (den G E a) (den G E b)
  | _, E, .wself i c m ms f as => cMeth (G.cm c) m (PrS G c ms f) E (tVar i) (den G E as)
  | _, E, .wand a w => tAndV (den (s := .e) G E a) (den G E w)
  | _, _, .wpop i => tBM0 G.K "list" rPop (tVar i)
  | _, _, .wpop0 i => tBM G.K "list" rPopAt (tVar i) (tCons (tC (.int 0)) tNil)
  | _, E, .wbin o k w => tOp (o.den G.K) (tC k.v) (den G E w)
  | _, E, .appW i w => tDrop (tBM G.K "list" rAppend (tVar i) (tCons (den G E w) tNil))
  | _, E, .ut t => den (s := .t) G E t
  | _, E, .uw w => tTest (den G E w)
  | _, E, .unot u => tNot (den G E u)
  | _, E, .uor t u => tOr (den G E t) (den G E u)
  | _, E, .uand t u => tAnd (den G E t) (den G E u)
  | _, E, .raiseF x f a => fun _ σ H => tMkO (G.ca x) (PrE G x f) [] (tCons (den G E a) tNil) σ H fun cl d H' => E σ cl d H'
  | _, E, .tryA c i subs b h => tTryA G.K (.ref (G.ca c)) i E (fun W => den G (WE W) b) (den G E h i)
  | _, E, .xe a => fun _ _ _ _ => den G E a
  | _, E, .xf x f => fun i a cls d => tXf a cls d (G.ca x) f (tVar i)
  | _, E, .xi y ys => fun i a cls d => tIsX i a cls d G.ca y ys
  | _, E, .xcall ms f as => fun i a cls d => cCall (Pr G ms f) E0 (den G E as i a cls d)
  | _, E, .xife y ys a b => fun i p cls d => tIf (tTest (tIsX i p cls d G.ca y ys)) (den G E a i p cls d) (den G E b i p cls d)
  | _, E, .xbin o a b => fun i p cls d => tOp (o.den G.K) (den G E a i p cls d) (den G E b i p cls d)
  | _, E, .xtup as => fun i a cls d => tTup (den G E as i a cls d)
  | _, E, .xand a b => fun i p cls d => tAndV (den G E a i p cls d) (den G E b i p cls d)
  | _, E, .xnil => fun _ _ _ _ => tNil
  | _, E, .xcons a as => fun i p cls d => tCons (den G E a i p cls d) (den G E as i p cls d)
  | _, E, .hret a => fun i p cls d => tRet (den G E a i p cls d)
  | _, E, .hif y ys a b => fun i p cls d => sHif (tTest (tIsX i p cls d G.ca y ys)) (den G E a i p cls d) (den G E b i p cls d)
  | _, E, .hifx t a b => fun i p cls d => sHif (tTest (den G E t i p cls d)) (den G E a i p cls d) (den G E b i p cls d)

/-! ### what it computes -/
/-- a value, and the slots behind it -/
inductive SX (α : Type) where
  | ok (a : α) (ρ : En) | err (x : Nat) (f : Option (Str × D)) (ρ : En) | bad
def SX.s {α : Type} (r : SX α) (k : α → En → SR) : SR := match r with
  | .ok a ρ => k a ρ
  | .err x f ρ => .err x f ρ
  | .bad => .bad
def SX.b {α β : Type} (r : SX α) (k : α → En → SX β) : SX β := match r with
  | .ok a ρ => k a ρ
  | .err x f ρ => .err x f ρ
  | .bad => .bad
def _root_.Ci.R.sx {α β : Type} (r : R α) (ρ : En) (k : α → SX β) : SX β := match r with
  | .ok a => k a
  | .err x f => .err x f ρ
  | .bad => .bad
@[simp] theorem SX.s_ok {α : Type} (a : α) (ρ : En) (k : α → En → SR) : (SX.ok a ρ).s k = k a ρ := rfl
@[simp] theorem SX.s_err {α : Type} (x : Nat) (f : Option (Str × D)) (ρ : En) (k : α → En → SR) : (SX.err x f ρ).s k = .err x f ρ := rfl
@[simp] theorem SX.s_bad {α : Type} (k : α → En → SR) : (SX.bad).s k = .bad := rfl
@[simp] theorem SX.b_ok {α β : Type} (a : α) (ρ : En) (k : α → En → SX β) : (SX.ok a ρ).b k = k a ρ := rfl
@[simp] theorem SX.b_err {α β : Type} (x : Nat) (f : Option (Str × D)) (ρ : En) (k : α → En → SX β) : (SX.err x f ρ).b k = .err x f ρ := rfl
@[simp] theorem SX.b_bad {α β : Type} (k : α → En → SX β) : (SX.bad).b k = .bad := rfl
@[simp] theorem R.sx_ok {α β : Type} (a : α) (ρ : En) (k : α → SX β) : (R.ok a).sx ρ k = k a := rfl
@[simp] theorem R.sx_err {α β : Type} (x : Nat) (f : Option (Str × D)) (ρ : En) (k : α → SX β) : (R.err x f : R α).sx ρ k = .err x f ρ := rfl
@[simp] theorem R.sx_bad {α β : Type} (ρ : En) (k : α → SX β) : (R.bad : R α).sx ρ k = .bad := rfl
abbrev Val : Sr → Type
  | .e => En → R RV
  | .a => En → R (List D)
  | .r => En → R (List D)
  | .m => En → R (List D)
  | .t => En → R Bool
  | .o => En → R (Option Int)
  | .i => En → R (Bool × List D)
  | .g => D → En → R En
  | .gs => List D → En → R En
  | .p => En → R FV
  | .s => En → SR
  | .f => Str → En → R Str
  | .x => Nat → Option (Str × D) → En → R RV
  | .xs => Nat → Option (Str × D) → En → R (List D)
  | .h => Nat → Option (Str × D) → En → SR
  | .w => En → SX D
  | .u => En → SX Bool
def asStr : D → R Str
  | .str s => .ok s
  | _ => .bad
def fmtF : D → R RV
  | .str y => if y.length ≤ sizeLine then .ok (dv (.str y)) else .bad
  | .int n => if n.natAbs.log2 < 1920 then .ok (dv (.str (strI n))) else .bad
  | _ => .bad
def asBl : D → R Bool
  | .bl b => .ok b
  | _ => .bad
/-- the exception's attribute; which class it is of -/
def xfF (x : Nat) (f : Str) (x' : Nat) : Option (Str × D) → R RV
  | some (g, d) => if x' = x ∧ g = f then .ok (dv d) else .bad
  | none => .bad
/-- a suite that ends with a return -/
def onlyRt : SR → SR
  | .rt v ρ => .rt v ρ
  | _ => .bad
/-- a call that raises nothing -/
def noErr : R RV → R RV
  | .ok v => .ok v
  | _ => .bad
def isX (ys : List (Nat × Bool)) (x : Nat) : R Bool := R.ofO (ys.lookup x)
def isFn (j : Nat) : Option (Option SV) → Bool
  | some (some (.fv (.d (.fnc k)))) => k == j
  | _ => false
def R.sr {α : Type} (r : R α) (ρ : En) (k : α → SR) : SR := match r with
  | .ok a => k a
  | .err x f => .err x f ρ
  | .bad => .bad
/-- where nothing is raised -/
def R.gr {α : Type} (r : R α) (k : α → SR) : SR := match r with
  | .ok a => k a
  | _ => .bad
@[simp] theorem R.sr_ok {α : Type} (a : α) (ρ : En) (k : α → SR) : (R.ok a).sr ρ k = k a := rfl
@[simp] theorem R.sr_err {α : Type} (x : Nat) (f : Option (Str × D)) (ρ : En) (k : α → SR) : (R.err x f).sr ρ k = .err x f ρ := rfl
@[simp] theorem R.sr_bad {α : Type} (ρ : En) (k : α → SR) : (R.bad).sr ρ k = .bad := rfl
@[simp] theorem R.gr_ok {α : Type} (a : α) (k : α → SR) : (R.ok a).gr k = k a := rfl
@[simp] theorem R.gr_err {α : Type} (x : Nat) (f : Option (Str × D)) (k : α → SR) : (R.err x f).gr k = .bad := rfl
@[simp] theorem R.gr_bad {α : Type} (k : α → SR) : (R.bad).gr k = .bad := rfl
/-- a value becomes data -/
def RV.toD : RV → R D
  | .sv s => .ok s.dat
  | .vw _ => .bad
def RV.toB : RV → R Bool
  | .sv (.fv (.d (.bl b))) => .ok b
  | _ => .bad
def RV.toI : RV → R Int
  | .sv (.fv (.d (.int b))) => .ok b
  | _ => .bad
/-- neither a list nor an object is in it -/
def noL : D → Bool
  | .non => true
  | .bl _ => true
  | .int _ => true
  | .str _ => true
  | .tup ds => noLs ds
  | _ => false
where noLs : List D → Bool
  | [] => true
  | d :: ds => noL d && noLs ds
def RV.noL : RV → Bool
  | .sv (.fv (.d d)) => Ci.noL d
  | .sv (.fv (.lst ds)) => Ci.noL.noLs ds
  | _ => false
/-- only what holds no list comes out of where a list is lent -/
def lentR : R RV → R RV
  | .ok x => if x.noL then .ok x else .bad
  | .err x none => .err x none
  | .err x (some p) => if Ci.noL p.2 then .err x (some p) else .bad
  | .bad => .bad
def getV (ρ : En) (i : Nat) : R RV := match ρ[i]? with
  | some (some (.fv (.d x))) => .ok (dv x)
  | some (some (.fv x)) => .ok (.vw x)
  | some (some (.brw ds)) => .ok (.vw (.lst ds))
  | some (some (.tok x)) => .ok (dv x)
  | _ => .bad
def getF (cs : List Nat) (ρ : En) (i : Nat) (f : Str) : R RV := match ρ[i]? with
  | some (some (.obj sf c fs)) => if c ∈ cs then (match fs.lookup f with
    | some (.d x) => .ok (dv x)
    | some x => .ok (.vw x)
    | none => .bad) else .bad
  | some (some (.fv (.d (.ins c fs)))) => if c ∈ cs then (match fs.lookup f with
    | some x => .ok (dv x)
    | none => .bad) else .bad
  | _ => .bad
/-- an attribute of a new object -/
def getFO : Option FV → R RV
  | some (.d x) => .ok (dv x)
  | some x => .ok (.vw x)
  | none => .bad
/-- a list of ours within a list of ours -/
def getN (k : Bool) : Option (Option SV) → R (List D)
  | some (some (.nst xs ys)) => .ok (if k then ys else xs)
  | _ => .bad
/-- a new list -/
def RV.toL : RV → R (List D)
  | .sv (.fv (.lst ds)) => .ok ds
  | _ => .bad
def getP (ρ : En) : P .p → R FV
  | .pnst i k => (getN k ρ[i]?).bind fun ds => .ok (.lst ds)
  | .pvar i => match ρ[i]? with
    | some (some (.fv (.d x))) => .bad
    | some (some (.fv x)) => .ok x
    | _ => .bad
  | .pfld c' i f => match ρ[i]? with
    | some (some (.obj sf c fs)) => if c = c' then (match fs.lookup f with
      | some (.d x) => .bad
      | some x => .ok x
      | none => .bad) else .bad
    | _ => .bad
def putN (ds : List D) (k : Bool) : Option (Option SV) → Option SV
  | some (some (.nst xs ys)) => some (if k then .nst xs ds else .nst ds ys)
  | some s => s
  | none => none
def putP (ρ : En) (x : FV) : P .p → En
  | .pvar i => ρ.set i (some (.fv x))
  | .pnst i k => match x with
    | .lst ds => ρ.set i (putN ds k ρ[i]?)
    | _ => ρ.set i none
  | .pfld c' i f => match ρ[i]? with
    | some (some (.obj sf c fs)) => ρ.set i (some (.obj sf c (putX f x fs)))
    | _ => ρ
def Mo.fn : Mo → List D → List D → R (List D)
  | .append, ds, [d] => if ds.length < sizeLine then .ok (ds ++ [d]) else .bad
  | .insert, ds, [.int i, d] => if ds.length < sizeLine ∧ 0 ≤ i ∧ i < 2 ^ 63 then .ok (ds.take i.toNat ++ [d] ++ ds.drop i.toNat) else .bad
  | _, _, _ => .bad
/-- the list at a place -/
def getL (ρ : En) (p : P .p) : R (List D) := match getP ρ p with
  | .ok (.lst ds) => .ok ds
  | _ => .bad
/-- the dict at a place -/
def getDk (ρ : En) (p : P .p) : R Kd := match getP ρ p with
  | .ok (.dk kvs) => .ok kvs
  | _ => .bad
/-- a number in a dict -/
def getDI (kvs : Kd) (k : Key) : R Int := match valD kvs k with
  | some (.int v) => .ok v
  | _ => .bad
def isNst : P .p → Bool
  | .pnst _ _ => true
  | _ => false
/-- a number in a list -/
def getI (ds : List D) (n : Int) : R Int := if 0 ≤ n ∧ n < 2 ^ 63 then (match ds[n.toNat]? with
  | some (.int v) => .ok v
  | _ => .bad) else .bad
def enD : Int → List D → List D
  | _, [] => []
  | k, x :: xs => .tup [.int k, x] :: enD (k + 1) xs
def wipeE (ρ : En) : List Nat → En
  | [] => ρ
  | v :: vs => (wipeE ρ vs).set v none
def rngD (lo : Int) (n : Nat) : List D := (List.range n).map fun (k : Nat) => D.int (lo - (k : Int))
def rng (lo : Int) (n : Nat) : List D := (List.range n).map fun (k : Nat) => D.int (lo + (k : Int))
def lrgF (n : Int) : R RV := if -(2 ^ 62) ≤ n ∧ n ≤ 1000000 then .ok (ov (.lst (rng 0 n.toNat))) else .bad
/-- a comprehension -/
def dcF (step : D → R (Option (Key × D))) : List D → R (List (Key × D))
  | [] => .ok []
  | x :: r => (step x).bind fun o => (dcF step r).bind fun ds => .ok (match o with | some d => d :: ds | none => ds)
def lcF (step : D → R (Option D)) : List D → R (List D)
  | [] => .ok []
  | x :: r => (step x).bind fun o => (lcF step r).bind fun ds => .ok (match o with | some d => d :: ds | none => ds)
/-- only errors free of raising go through a comprehension -/
def R.quiet {α : Type} : R α → R α
  | .ok a => .ok a
  | _ => .bad
def lcA (step : D → R (List D)) : List D → R (List D)
  | [] => .ok []
  | x :: r => (step x).bind fun a => (lcA step r).bind fun b => .ok (a ++ b)
def forF (step : D → En → SR) (kill : List Nat) : List D → En → SR
  | [], ρ => .nx ρ
  | x :: r, ρ => match step x ρ with
    | .nx ρ' => forF step kill r (wipeE ρ' kill)
    | .ct ρ' => forF step kill r (wipeE ρ' kill)
    | .bk ρ' => .nx (wipeE ρ' kill)
    | o => o
def whF (test : En → R Bool) (body : En → SR) (kill : List Nat) : Nat → En → SR
  | 0, _ => .bad
  | n + 1, ρ => (test ρ).sr ρ fun b => if b then (match body ρ with
    | .nx ρ' => whF test body kill n (wipeE ρ' kill)
    | .ct ρ' => whF test body kill n (wipeE ρ' kill)
    | .bk ρ' => .nx (wipeE ρ' kill)
    | o => o) else .nx ρ
def enumKF : List D → List D → R (Bool × List D)
  | [.lst xs], [.int k] => if -(2 ^ 62) ≤ k ∧ k < 2 ^ 62 then .ok (true, enD k xs) else .bad
  | _, _ => .bad
def zipRF : List D → R (Bool × List D)
  | [.rng lo hi, .lst ys] => if (-(2 ^ 62) ≤ lo ∧ lo < 2 ^ 62 ∧ -(2 ^ 62) ≤ hi ∧ hi < 2 ^ 62) ∧ (hi - lo).toNat ≤ ys.length then .ok (true, zipD (rng lo (hi - lo).toNat) ys) else .bad
  | _ => .bad
def ev : {s : Sr} → P s → Val s
  | _, .var i => fun ρ => getV ρ i
  | _, .c k => fun ρ => .ok (dv k.d)
  | _, .kt j ds => fun ρ => .ok (dv (.tup ds))
  | _, .bin o a b => fun ρ => (ev a ρ).bind fun x => (ev b ρ).bind fun y => x.rd.bind fun x => y.rd.bind fun y => o.fn x y
  | _, .neg a => fun ρ => (ev a ρ).bind fun x => x.toI.bind fun n => .ok (dv (.int (-n)))
  | _, .andV a b => fun ρ => (ev a ρ).bind fun x => x.toB.bind fun k => if k then ev b ρ else .ok (dv (.bl false))
  | _, .orV a b => fun ρ => (ev a ρ).bind fun x => x.toB.bind fun k => if k then .ok (dv (.bl true)) else ev b ρ
  | _, .notV a => fun ρ => (ev a ρ).bind fun x => x.toB.bind fun k => .ok (dv (.bl (!k)))
  | _, .chain o o' a b c => fun ρ => (ev a ρ).bind fun x => (ev b ρ).bind fun y => x.rd.bind fun x => y.rd.bind fun y => (o.fn x y).bind fun z => z.toB.bind fun k =>
      if k then (ev c ρ).bind fun w => w.rd.bind fun w => o'.fn y w else .ok (dv (.bl false))
  | _, .chain3 o o' o2 a b c d => fun ρ => (ev a ρ).bind fun x => (ev b ρ).bind fun y => x.rd.bind fun x => y.rd.bind fun y => (o.fn x y).bind fun z => z.toB.bind fun k =>
      if k then (ev c ρ).bind fun w => w.rd.bind fun w => (o'.fn y w).bind fun z2 => z2.toB.bind fun k2 => if k2 then (ev d ρ).bind fun u => u.rd.bind fun u => o2.fn w u else .ok (dv (.bl false)) else .ok (dv (.bl false))
  | _, .ife t a b => fun ρ => (ev t ρ).bind fun k => if k then ev a ρ else ev b ρ
  | _, .tup as => fun ρ => (ev as ρ).bind fun ds => if ds.length ≤ sizeLine then .ok (dv (.tup ds)) else .bad
  | _, .lst as => fun ρ => (ev as ρ).bind fun ds => if ds.length ≤ sizeLine then .ok (ov (.lst ds)) else .bad
  | _, .fld cs a f => fun ρ => (ev a ρ).bind fun
    | .sv (.fv (.d (.ins c fs))) => if c ∈ cs then (R.ofO (fs.lookup f)).bind fun d => .ok (dv d) else .bad
    | .sv (.obj false c fs) => if c ∈ cs then getFO (fs.lookup f) else .bad
    | _ => .bad
  | _, .fldv cs i f => fun ρ => getF cs ρ i f
  | _, .sl a lo hi => fun ρ => (ev a ρ).bind fun x => (ev lo ρ).bind fun l => (ev hi ρ).bind fun h => x.rd.bind fun d => slF d l h
  | _, .cb o as => fun ρ => (ev as ρ).bind o.fn
  | _, .isi a T => fun ρ => (ev a ρ).bind fun x => x.rd.bind fun d => isiF T d
  | _, .call ms f as => fun ρ => (ev as ρ).bind f
  | _, .tm o a e => fun ρ => (ev a ρ).bind fun x => x.rd.bind fun d => (asStr d).bind fun s => (ev e ρ).bind fun y => y.rd.bind fun b => o.fn s b
  | _, .fn j => fun ρ => .ok (dv (.fnc j))
  | _, .callv i j ms f as => fun ρ => if isFn j ρ[i]? = true then (ev as ρ).bind f else .bad
  | _, .fmt a => fun ρ => (ev a ρ).bind fun x => x.rd.bind fmtF
  | _, .fstr as => fun ρ => (ev as Str.empty ρ).bind fun s => .ok (dv (.str s))
  | _, .fnil => fun acc ρ => .ok acc
  | _, .fcons a as => fun acc ρ => (ev a ρ).bind fun x => x.rd.bind fun d => (asStr d).bind fun s => if (acc ++ s).length ≤ sizeLine then ev as (acc ++ s) ρ else .bad
  | _, .noE => fun ρ => .bad
  | _, .lrg a => fun ρ => (ev a ρ).bind fun x => x.toI.bind lrgF
  | _, .dnew => fun ρ => .ok (ov (.dk []))
  | _, .dget a k => fun ρ => (ev a ρ).bind fun x => (ev k ρ).bind fun y => x.rd.bind fun d => y.rd.bind fun y => dgetF d y
  | _, .dget1 a k => fun ρ => (ev a ρ).bind fun x => x.rd.bind fun d => (asDk d).bind fun kvs => (ev k ρ).bind fun y => y.rd.bind fun y => dget1F kvs y
  | _, .dget2 a k z => fun ρ => (ev a ρ).bind fun x => x.rd.bind fun d => (asDk d).bind fun kvs => (ev k ρ).bind fun y => (ev z ρ).bind fun z => y.rd.bind fun y => z.pl.bind fun z => dget2F kvs y z
  | _, .din neg k a => fun ρ => (ev k ρ).bind fun y => (ev a ρ).bind fun x => y.rd.bind fun y => x.rd.bind fun d => dinF neg y d
  | _, .dictP a => fun ρ => (ev a ρ).bind fun x => x.rd.bind dictPF
  | _, .dictZ as => fun ρ => (ev as ρ).bind zipKF
  | _, .dictR as => fun ρ => (ev as ρ).bind zipRKF
  | _, .kdG j kvs k => fun ρ => (ev k ρ).bind fun y => y.rd.bind (kdGF kvs)
  | _, .kdI neg j kvs k => fun ρ => (ev k ρ).bind fun y => y.rd.bind (kdIF neg kvs)
  | _, .isC c a => fun ρ => (ev a ρ).bind (isCF c)
  | _, .nrmE a => fun ρ => (ev a ρ).bind nrmF
  | _, .tupNE a => fun ρ => (ev a ρ).bind fun x => x.rd.bind tupNF
  | _, .tix a z => fun ρ => (ev a ρ).bind fun x => (tnOf x).bind fun ds => (ev z ρ).bind fun y => y.rd.bind fun y => tixF ds y
  | _, .lendO i a => fun ρ => match ρ[i]? with
    | some (some s) => if s.isBrw then .bad else lentR (ev a (ρ.set i (some (.d s.dat))))
    | _ => .bad
  | _, .nix i k => fun ρ => (getN k ρ[i]?).bind fun ds => .ok (.vw (.lst ds))
  | _, .noS => fun ρ => .bad
  | _, .nset i a b => fun ρ => (ev a ρ).sr ρ fun x => x.toL.gr fun xs => (ev b ρ).sr ρ fun y => y.toL.gr fun ys => .nx (ρ.set i (some (.nst xs ys)))
  | _, .meth c m ms f o as => fun ρ => (ev o ρ).bind fun
    | .sv (.fv (.d (.ins c' fs))) => if c' = c then (match fs.lookup m with | none => (ev as ρ).bind fun ds => f (.ins c fs :: ds) | some _ => .bad) else .bad
    | _ => .bad
  | _, .make c ms f as => fun ρ => (ev as ρ).bind fun ds => (f ds).bind fun fs => .ok (.sv (.obj false c fs))
  | _, .lc it g t e vs => fun ρ => (ev it ρ).bind fun xs => if xs.2.length ≤ 1000000 then (lcF (fun x => ((ev g x (wipeE ρ vs)).bind fun ρ2 => (ev t ρ2).bind fun k => if k then (ev e ρ2).bind fun y => y.toD.bind fun d => .ok (some d) else .ok none).quiet) xs.2).bind fun ds => .ok (ov (.lst ds)) else .bad
  | _, .dcm it g t k e vs => fun ρ => (ev it ρ).bind fun xs => if xs.2.length ≤ 1000000 then (dcF (fun x => ((ev g x (wipeE ρ vs)).bind fun ρ2 => (ev t ρ2).bind fun b => if b then (ev k ρ2).bind fun y => y.toD.bind fun d => (R.ofO (keyD d)).bind fun q => (ev e ρ2).bind fun z => z.toD.bind fun d2 => .ok (some (q, d2)) else .ok none).quiet) xs.2).bind fun kvs => .ok (ov (.dk (mergeD [] kvs))) else .bad
  | _, .lc2 it g it2 g2 e vs vs1 => fun ρ => (ev it ρ).bind fun xs => if xs.2.length ≤ 1000000 then (lcA (fun x => ((ev g x (wipeE ρ vs)).bind fun ρ2 => (ev it2 ρ2).bind fun ys => if ys.1 = true ∧ ys.2.length ≤ 1000000 then lcA (fun y => ((ev g2 y (wipeE ρ2 vs1)).bind fun ρ3 => (ev e ρ3).bind fun v => v.toD.bind fun d => .ok [d]).quiet) ys.2 else .bad).quiet) xs.2).bind fun ds => if ds.length ≤ 1000000 then .ok (ov (.lst ds)) else .bad else .bad
  | _, .lend i a => fun ρ => match ρ[i]? with
    | some (some (.fv (.lst ds))) => lentR (ev a (ρ.set i (some (.d (.lst ds)))))
    | _ => .bad
  | _, .rev a => fun ρ => (ev a ρ).bind fun x => x.rd.bind fun
    | .lst ds => .ok (ov (.lst ds.reverse))
    | _ => .bad
  | _, .anil => fun ρ => .ok []
  | _, .acons a as => fun ρ => (ev a ρ).bind fun x => x.toD.bind fun d => (ev as ρ).bind fun ds => .ok (d :: ds)
  | _, .rnil => fun ρ => .ok []
  | _, .rcons a as => fun ρ => (ev a ρ).bind fun x => x.rd.bind fun d => (ev as ρ).bind fun ds => .ok (d :: ds)
  | _, .mnil => fun ρ => .ok []
  | _, .mcons b a as => fun ρ => (ev a ρ).bind fun x => (if b then x.rd.bind fun d => (match d with | .lst es => .ok (.lst es) | _ => .bad) else x.toD).bind fun d => (ev as ρ).bind fun ds => .ok (d :: ds)
  | _, .tst a => fun ρ => (ev a ρ).bind RV.toB
  | _, .tru a => fun ρ => (ev a ρ).bind fun x => x.rd.bind truD
  | _, .andT a b => fun ρ => (ev a ρ).bind fun k => if k then ev b ρ else .ok false
  | _, .orT a b => fun ρ => (ev a ρ).bind fun k => if k then .ok true else ev b ρ
  | _, .notT a => fun ρ => (ev a ρ).bind fun k => .ok (!k)
  | _, .yes => fun ρ => .ok true
  | _, .noP => fun ρ => .ok none
  | _, .someP a => fun ρ => (ev a ρ).bind fun x => x.toI.bind fun n => .ok (some n)
  | _, .rngv a => fun ρ => (ev a ρ).bind fun x => x.rd.bind fun
    | .rng lo hi => if -(2 ^ 62) ≤ lo ∧ lo < 2 ^ 62 ∧ -(2 ^ 62) ≤ hi ∧ hi < 2 ^ 62 then .ok (true, rng lo (hi - lo).toNat) else .bad
    | _ => .bad
  | _, .seq a => fun ρ => (ev a ρ).bind fun
    | .sv (.fv (.d (.lst ds))) => .ok (true, ds)
    | .sv (.fv (.d (.tup ds))) => .ok (true, ds)
    | .sv (.fv (.lst ds)) => .ok (true, ds)
    | .vw (.lst ds) => .ok (false, ds)
    | .sv (.fv (.d (.str s))) => .ok (true, chD s)
    | _ => .bad
  | _, .seqb i => fun ρ => match ρ[i]? with
    | some (some (.brw ds)) => .ok (true, ds)
    | _ => .bad
  | _, .rng1 as => fun ρ => (ev as ρ).bind fun
    | [.int n] => if -(2 ^ 62) ≤ n ∧ n < 2 ^ 62 then .ok (true, rng 0 n.toNat) else .bad
    | _ => .bad
  | _, .rng2 as => fun ρ => (ev as ρ).bind fun
    | [.int m, .int n] => if -(2 ^ 62) ≤ m ∧ m < 2 ^ 62 ∧ -(2 ^ 62) ≤ n ∧ n < 2 ^ 62 then .ok (true, rng m (n - m).toNat) else .bad
    | _ => .bad
  | _, .rng3 as => fun ρ => (ev as ρ).bind fun
    | [.int m, .int n, .int c] => if c = -1 ∧ -(2 ^ 62) ≤ m ∧ m < 2 ^ 62 ∧ -(2 ^ 62) ≤ n ∧ n < 2 ^ 62 then .ok (true, rngD m (m - n).toNat) else .bad
    | _ => .bad
  | _, .zip as => fun ρ => (ev as ρ).bind fun
    | [.lst xs, .lst ys] => .ok (true, zipD xs ys)
    | [.tup xs, .tup ys] => .ok (true, zipD xs ys)
    | _ => .bad
  | _, .enum as => fun ρ => (ev as ρ).bind fun
    | [.lst xs] => .ok (true, enD 0 xs)
    | [.tup xs] => .ok (true, enD 0 xs)
    | _ => .bad
  | _, .enumK as ks => fun ρ => (ev as ρ).bind fun xs => (ev ks ρ).bind fun ks => enumKF xs ks
  | _, .zipR as => fun ρ => (ev as ρ).bind zipRF
  | _, .gname i => fun x ρ => .ok (ρ.set i (some (.d x)))
  | _, .gtl n gs => fun x ρ => match x with
    | .lst ds => if ds.length = n then ev gs ds ρ else .bad
    | _ => .bad
  | _, .gtup n gs => fun x ρ => match x with
    | .tup ds => if ds.length = n then ev gs ds ρ else .bad
    | _ => .bad
  | _, .gnil => fun xs ρ => match xs with
    | [] => .ok ρ
    | _ => .bad
  | _, .gcons g gs => fun xs ρ => match xs with
    | x :: r => (ev g x ρ).bind fun ρ' => ev gs r ρ'
    | [] => .bad
  | _, .pvar i => fun ρ => getP ρ (.pvar i)
  | _, .pfld c i f => fun ρ => getP ρ (.pfld c i f)
  | _, .pnst i k => fun ρ => getP ρ (.pnst i k)
  | _, .skip => fun ρ => .nx ρ
  | _, .sq a b => fun ρ => match ev a ρ with
    | .nx ρ' => ev b ρ'
    | o => o
  | _, .asgN i a => fun ρ => (ev a ρ).sr ρ fun
    | .sv s => .nx (ρ.set i (some s))
    | .vw _ => .bad
  | _, .asgG g a => fun ρ => (ev a ρ).sr ρ fun x => x.toD.gr fun d => (ev g d ρ).gr .nx
  | _, .asgF i c' f a => fun ρ => (ev a ρ).sr ρ fun
    | .sv (.fv x) => match ρ[i]? with
      | some (some (.obj sf c fs)) => if c = c' ∧ fs.length < 900 then .nx (ρ.set i (some (.obj sf c (putX f x fs)))) else .bad
      | _ => .bad
    | _ => .bad
  | _, .asgI p ix a => fun ρ => (ev a ρ).sr ρ fun x => x.toD.gr fun d => (getL ρ p).gr fun ds => (ev ix ρ).sr ρ fun y => y.toI.gr fun n => (R.ofO (ixN ds.length n)).gr fun j => .nx (putP ρ (.lst (ds.set j d)) p)
  | _, .mut o p as => fun ρ => (getL ρ p).gr fun xs => (ev as ρ).sr ρ fun ds => (o.fn xs ds).gr fun ys => .nx (putP ρ (.lst ys) p)
  | _, .ext p a => fun ρ => (getL ρ p).gr fun ds => (ev a ρ).sr ρ fun y => y.rd.gr fun d => match d with
    | .lst es => if ds.length + es.length ≤ sizeLine then .nx (putP ρ (.lst (ds ++ es)) p) else .bad
    | _ => .bad
  | _, .popD p => fun ρ => (getL ρ p).gr fun ds => if ds.isEmpty then .bad else .nx (putP ρ (.lst ds.dropLast) p)
  | _, .popG g p => fun ρ => (getL ρ p).gr fun ds => (R.ofO ds.getLast?).gr fun d => (ev g d (putP ρ (.lst ds.dropLast) p)).gr .nx
  | _, .augI p ix sub a => fun ρ => (getL ρ p).gr fun ds => (ev ix ρ).sr ρ fun y => y.toI.gr fun n => (getI ds n).gr fun v => (ev a ρ).sr ρ fun z => z.toI.gr fun m => .nx (putP ρ (.lst (ds.set n.toNat (.int (if sub then v - m else v + m)))) p)
  | _, .aug i sub a => fun ρ => match ρ[i]? with
    | some (some (.fv (.d (.int m)))) => (ev a ρ).sr ρ fun x => x.toI.gr fun n => .nx (ρ.set i (some (.d (.int (if sub then m - n else m + n)))))
    | _ => .bad
  | _, .drop a => fun ρ => (ev a ρ).sr ρ fun _ => .nx ρ
  | _, .ret a => fun ρ => (ev a ρ).sr ρ fun
    | .sv s => .rt (.sv s) ρ
    | .vw _ => .bad
  | _, .retO i => fun ρ => match ρ[i]? with
    | some (some s) => if s.isBrw then .bad else .rt (.sv s) (ρ.set i none)
    | _ => .bad
  | _, .retN => fun ρ => .rt (dv .non) ρ
  | _, .brk => fun ρ => .bk ρ
  | _, .cont => fun ρ => .ct ρ
  | _, .raise x => fun ρ => .err x none ρ
  | _, .ifS t a b => fun ρ => (ev t ρ).sr ρ fun k => if k then ev a ρ else ev b ρ
  | _, .for it g b kill => fun ρ => (ev it ρ).sr ρ fun xs => if xs.1 then forF (fun x ρ => (ev g x ρ).gr fun ρ' => ev b ρ') kill xs.2 ρ else .bad
  | _, .while n t b kill => fun ρ => whF (ev t) (ev b) kill n ρ
  | _, .try c subs b h => fun ρ => match ev b ρ with
    | .err x f ρ' => if x ∈ subs then ev h ρ' else .bad
    | o => o
  | _, .try2 c c2 b h h2 => fun ρ => match ev b ρ with
    | .err x f ρ' => if x = c then ev h ρ' else if x = c2 then ev h2 ρ' else .bad
    | o => o
  | _, .try3 c c2 c3 b h h2 h3 => fun ρ => match ev b ρ with
    | .err x f ρ' => if x = c then ev h ρ' else if x = c2 then ev h2 ρ' else if x = c3 then ev h3 ρ' else .bad
    | o => o
  | _, .frz i => fun ρ => match ρ[i]? with
    | some (some s) => if s.isBrw then .bad else .nx (ρ.set i (some (.d s.dat)))
    | _ => .bad
  | _, .kill is => fun ρ => .nx (wipeE ρ is)
  | _, .own t f => f
  | _, .ownE t f => f
  | _, .selfS i c m ms f as => fun ρ => match ρ[i]? with
    | some (some (.obj sf c' fs)) => if c' = c then (match fs.lookup m with | none => (ev as ρ).sr ρ fun ds => (f fs ds).sr (ρ.set i none) fun r => .nx (ρ.set i (some (.obj sf c r.2))) | some _ => .bad) else .bad
    | _ => .bad
  | _, .dput p k a => fun ρ => (ev a ρ).sr ρ fun x => x.toD.gr fun d => (getDk ρ p).gr fun kvs => (ev k ρ).sr ρ fun y => y.rd.gr fun y => (R.ofO (keyD y)).gr fun k => if kvs.length < sizeLine then .nx (putP ρ (.dk (putD kvs k d)) p) else .bad
  | _, .daug p k sub a => fun ρ => (getDk ρ p).gr fun kvs => (ev k ρ).sr ρ fun y => y.rd.gr fun y => (R.ofO (keyD y)).gr fun k => (getDI kvs k).gr fun v => (ev a ρ).sr ρ fun z => z.toI.gr fun m => if kvs.length < sizeLine then .nx (putP ρ (.dk (putD kvs k (.int (if sub then v - m else v + m)))) p) else .bad
  | _, .appP p f a b => fun ρ => if isNst p then .bad else (getL ρ p).gr fun ds => (ev a ρ).sr ρ fun x => x.pl.gr fun d1 => (R.ofO ds.getLast?).gr fun l => (ev b (putP ρ (.lst ds.dropLast) p)).sr (putP ρ (.lst ds.dropLast) p) fun y => y.pl.gr fun d2 => (f [d1, l, d2]).sr (putP ρ (.lst ds.dropLast) p) fun r => r.toD.gr fun d => if ds.length < sizeLine then .nx (putP (putP ρ (.lst ds.dropLast) p) (.lst (ds.dropLast ++ [d])) p) else .bad
  | _, .retW w => fun ρ => (ev w ρ).s fun d ρ => .rt (dv d) ρ
  | _, .asgW i w => fun ρ => (ev w ρ).s fun d ρ => .nx (ρ.set i (some (.d d)))
  | _, .ifU u a b => fun ρ => (ev u ρ).s fun k ρ => if k then ev a ρ else ev b ρ
  | _, .wself i c m ms f as => fun ρ => match ρ[i]? with
    | some (some (.obj sf c' fs)) => if c' = c then (match fs.lookup m with | none => (ev as ρ).sx ρ fun ds => (f fs ds).sx (ρ.set i none) fun r => .ok r.1 (ρ.set i (some (.obj sf c r.2))) | some _ => .bad) else .bad
    | _ => .bad
  | _, .wpop i => fun ρ => match getL ρ (.pvar i) with
    | .ok ds => (match ds.getLast? with
      | some y => .ok y (putP ρ (.lst ds.dropLast) (.pvar i))
      | none => .bad)
    | _ => .bad
  | _, .wpop0 i => fun ρ => match getL ρ (.pvar i) with
    | .ok (y :: r) => .ok y (putP ρ (.lst r) (.pvar i))
    | _ => .bad
  | _, .wbin o k w => fun ρ => (ev w ρ).b fun d ρ2 => (o.fn k.d d).sx ρ2 fun y => y.toD.sx ρ2 fun d2 => .ok d2 ρ2
  | _, .appW i w => fun ρ => match getL ρ (.pvar i) with
    | .ok _ => (ev w ρ).s fun d ρ2 => (getL ρ2 (.pvar i)).gr fun ds => if ds.length < sizeLine then .nx (putP ρ2 (.lst (ds ++ [d])) (.pvar i)) else .bad
    | _ => .bad
  | _, .wand a w => fun ρ => (ev (s := .e) a ρ).sx ρ fun x => x.toB.sx ρ fun k => if k then ev w ρ else .ok (.bl false) ρ
  | _, .ut t => fun ρ => (ev t ρ).sx ρ fun k => .ok k ρ
  | _, .uw w => fun ρ => (ev w ρ).b fun d ρ => (asBl d).sx ρ fun k => .ok k ρ
  | _, .unot u => fun ρ => (ev u ρ).b fun k ρ => .ok (!k) ρ
  | _, .uor t u => fun ρ => (ev t ρ).sx ρ fun k => if k then .ok true ρ else ev u ρ
  | _, .uand t u => fun ρ => (ev t ρ).sx ρ fun k => if k then ev u ρ else .ok false ρ
  | _, .raiseF x f a => fun ρ => (ev a ρ).sr ρ fun v => v.toD.gr fun d => .err x (some (f, d)) ρ
  | _, .tryA c i subs b h => fun ρ => match ev b ρ with
    | .err x f ρ' => if x ∈ subs ∧ i < ρ'.length then onlyRt (ev h x f (ρ'.set i none)) else .bad
    | o => o
  | _, .xe a => fun _ _ ρ => ev a ρ
  | _, .xf x f => fun x' fo ρ => xfF x f x' fo
  | _, .xi y ys => fun x _ ρ => (isX ys x).bind fun b => .ok (dv (.bl b))
  | _, .xtup as => fun x fo ρ => (ev as x fo ρ).bind fun ds => if ds.length ≤ sizeLine then .ok (dv (.tup ds)) else .bad
  | _, .xand a b => fun x fo ρ => (ev a x fo ρ).bind fun v => v.toB.bind fun k => if k then ev b x fo ρ else .ok (dv (.bl false))
  | _, .xnil => fun _ _ ρ => .ok []
  | _, .xcons a as => fun x fo ρ => (ev a x fo ρ).bind fun v => v.toD.bind fun d => (ev as x fo ρ).bind fun ds => .ok (d :: ds)
  | _, .hret a => fun x fo ρ => (ev a x fo ρ).sr ρ fun
    | .sv s => .rt (.sv s) ρ
    | .vw _ => .bad
  | _, .hif y ys a b => fun x fo ρ => (isX ys x).sr ρ fun k => if k then onlyRt (ev a x fo ρ) else ev b x fo ρ
  | _, .hifx t a b => fun x fo ρ => (ev t x fo ρ).sr ρ fun v => v.toB.gr fun k => if k then onlyRt (ev a x fo ρ) else ev b x fo ρ
  | _, .xcall ms f as => fun x fo ρ => (ev as x fo ρ).bind fun ds => noErr (f ds)
  | _, .xife y ys a b => fun x fo ρ => (isX ys x).bind fun k => if k then ev a x fo ρ else ev b x fo ρ
  | _, .xbin o a b => fun x fo ρ => (ev a x fo ρ).bind fun u => (ev b x fo ρ).bind fun v => u.rd.bind fun u => v.rd.bind fun v => o.fn u v
/-- what the syntax leans on -/
def Wf (G : Gm) : {s : Sr} → P s → Prop
  | _, .kt j ds => ∀ B : Hp, ∃ vs, SqT G.K B (G.kt j) vs ∧ Reps G B vs ds
  | _, .bin _ a b => Wf G a ∧ Wf G b
  | _, .neg a => Wf G a
  | _, .andV a b => Wf G a ∧ Wf G b
  | _, .orV a b => Wf G a ∧ Wf G b
  | _, .notV a => Wf G a
  | _, .chain _ _ a b c => Wf G a ∧ Wf G b ∧ Wf G c
  | _, .chain3 _ _ _ a b c d => Wf G a ∧ Wf G b ∧ Wf G c ∧ Wf G d
  | _, .ife t a b => Wf G t ∧ Wf G a ∧ Wf G b
  | _, .tup as => Wf G as
  | _, .lst as => Wf G as
  | _, .fld cs a f => Wf G a ∧ ∀ c, c ∈ cs → Cls G.K (G.cm c) ∧ NoAttr G.K (G.cm c) f
  | _, .fldv cs i f => ∀ c, c ∈ cs → Cls G.K (G.cm c) ∧ NoAttr G.K (G.cm c) f
  | _, .sl a lo hi => Wf G a ∧ Wf G lo ∧ Wf G hi
  | _, .cb _ as => Wf G as
  | _, .isi a _ => Wf G a
  | _, .call ms f as => modes as = ms ∧ Wf G as
  | _, .tm _ a e => Wf G a ∧ Wf G e
  | _, .callv _ _ ms f as => modes as = ms ∧ Wf G as
  | _, .fmt a => Wf G a
  | _, .fstr as => Wf G as
  | _, .fcons a as => Wf G a ∧ Wf G as
  | _, .meth c m ms f o as => modes as = ms ∧ Wf G o ∧ Wf G as
  | _, .make c ms f as => modes as = ms ∧ Wf G as
  | _, .lc it g t e vs => Wf G it ∧ (∀ i, i ∈ names g → i ∈ vs) ∧ Wf G t ∧ Wf G e
  | _, .dcm it g t k e vs => Wf G it ∧ (∀ i, i ∈ names g → i ∈ vs) ∧ Wf G t ∧ Wf G k ∧ Wf G e
  | _, .lc2 it g it2 g2 e vs vs1 => Wf G it ∧ (∀ i, i ∈ names g → i ∈ vs) ∧ Wf G it2 ∧ (∀ i, i ∈ names g2 → i ∈ vs1) ∧ Wf G e
  | _, .lend _ a => Wf G a
  | _, .rev a => Wf G a
  | _, .acons a as => Wf G a ∧ Wf G as
  | _, .rcons a as => Wf G a ∧ Wf G as
  | _, .mcons _ a as => Wf G a ∧ Wf G as
  | _, .tst a => Wf G a
  | _, .tru a => Wf G a
  | _, .andT a b => Wf G a ∧ Wf G b
  | _, .orT a b => Wf G a ∧ Wf G b
  | _, .notT a => Wf G a
  | _, .someP a => Wf G a
  | _, .seq a => Wf G a
  | _, .rngv a => Wf G a
  | _, .rng1 as => Wf G as
  | _, .rng2 as => Wf G as
  | _, .rng3 as => Wf G as
  | _, .zip as => Wf G as
  | _, .enum as => Wf G as
  | _, .enumK as ks => Wf G as ∧ Wf G ks
  | _, .zipR as => Wf G as
  | _, .pfld c i f => Cls G.K (G.cm c) ∧ NoAttr G.K (G.cm c) f
  | _, .nset _ a b => Wf G a ∧ Wf G b
  | _, .lrg a => Wf G a
  | _, .dget a k => Wf G a ∧ Wf G k
  | _, .dget1 a k => Wf G a ∧ Wf G k
  | _, .dget2 a k z => Wf G a ∧ Wf G k ∧ Wf G z
  | _, .din _ k a => Wf G k ∧ Wf G a
  | _, .dictP a => Wf G a
  | _, .dictZ as => Wf G as
  | _, .dictR as => Wf G as
  | _, .kdG _ _ k => Wf G k
  | _, .kdI _ _ _ k => Wf G k
  | _, .lendO _ a => Wf G a
  | _, .nrmE a => Wf G a
  | _, .isC _ a => Wf G a
  | _, .tupNE a => Wf G a
  | _, .tix a z => Wf G a ∧ Wf G z
  | _, .dput p k a => Wf G p ∧ Wf G k ∧ Wf G a
  | _, .daug p k _ a => Wf G p ∧ Wf G k ∧ Wf G a
  | _, .appP p _ a b => Wf G p ∧ Wf G a ∧ Wf G b
  | _, .retW w => Wf G w
  | _, .asgW _ w => Wf G w
  | _, .ifU u a b => Wf G u ∧ Wf G a ∧ Wf G b
  | _, .wself _ _ _ ms _ as => modes as = ms ∧ Wf G as
  | _, .wand t w => Wf G t ∧ Wf G w
  | _, .wbin _ _ w => Wf G w
  | _, .appW _ w => Wf G w
  | _, .ut t => Wf G t
  | _, .uw w => Wf G w
  | _, .unot u => Wf G u
  | _, .uor t u => Wf G t ∧ Wf G u
  | _, .uand t u => Wf G t ∧ Wf G u
  | _, .sq a b => Wf G a ∧ Wf G b
  | _, .asgN _ a => Wf G a
  | _, .asgG _ a => Wf G a
  | _, .asgF i c f a => Wf G a ∧ Cls G.K (G.cm c) ∧ NoAttr G.K (G.cm c) f
  | _, .asgI p ix a => Wf G p ∧ Wf G ix ∧ Wf G a
  | _, .mut _ p as => Wf G p ∧ Wf G as
  | _, .ext p a => Wf G p ∧ Wf G a
  | _, .popD p => Wf G p
  | _, .popG _ p => Wf G p
  | _, .aug _ _ a => Wf G a
  | _, .augI p ix _ a => Wf G p ∧ Wf G ix ∧ Wf G a
  | _, .drop a => Wf G a
  | _, .ret a => Wf G a
  | _, .ifS t a b => Wf G t ∧ Wf G a ∧ Wf G b
  | _, .for it g b _ => Wf G it ∧ Wf G b
  | _, .while _ t b _ => Wf G t ∧ Wf G b
  | _, .try c subs b h => (∀ x, x ∈ subs → PySem.W.exmOne G.K (.ref (G.ca x)) (.ref (G.ca c)) = some true) ∧ Wf G b ∧ Wf G h
  | _, .try2 c c2 b h h2 => (PySem.W.exmOne G.K (.ref (G.ca c)) (.ref (G.ca c)) = some true ∧ PySem.W.exmOne G.K (.ref (G.ca c2)) (.ref (G.ca c)) = some false ∧ PySem.W.exmOne G.K (.ref (G.ca c2)) (.ref (G.ca c2)) = some true) ∧ Wf G b ∧ Wf G h ∧ Wf G h2
  | _, .try3 c c2 c3 b h h2 h3 => (PySem.W.exmOne G.K (.ref (G.ca c)) (.ref (G.ca c)) = some true ∧ PySem.W.exmOne G.K (.ref (G.ca c2)) (.ref (G.ca c)) = some false ∧ PySem.W.exmOne G.K (.ref (G.ca c2)) (.ref (G.ca c2)) = some true ∧ PySem.W.exmOne G.K (.ref (G.ca c3)) (.ref (G.ca c)) = some false ∧ PySem.W.exmOne G.K (.ref (G.ca c3)) (.ref (G.ca c2)) = some false ∧ PySem.W.exmOne G.K (.ref (G.ca c3)) (.ref (G.ca c3)) = some true) ∧ Wf G b ∧ Wf G h ∧ Wf G h2 ∧ Wf G h3
  | _, .own t f => ∀ E ρ, Runs G E (t G E) ρ (f ρ)
  | _, .ownE t f => ∀ E ρ, Does G E (relV G) (t G E) ρ (f ρ)
  | _, .selfS i c m ms f as => modes as = ms ∧ Wf G as
  | _, .raiseF _ _ a => Wf G a
  | _, .tryA c i subs b h => (∀ x, x ∈ subs → PySem.W.exmOne G.K (.ref (G.ca x)) (.ref (G.ca c)) = some true) ∧ Wf G b ∧ Wf G h
  | _, .xe a => Wf G a
  | _, .xtup as => Wf G as
  | _, .xand a b => Wf G a ∧ Wf G b
  | _, .xcons a as => Wf G a ∧ Wf G as
  | _, .hret a => Wf G a
  | _, .hif _ _ a b => Wf G a ∧ Wf G b
  | _, .hifx t a b => Wf G t ∧ Wf G a ∧ Wf G b
  | _, .xcall ms f as => modes as = ms ∧ Wf G as
  | _, .xife _ _ a b => Wf G a ∧ Wf G b
  | _, .xbin _ a b => Wf G a ∧ Wf G b
  | _, _ => True
where
  modes : {s : Sr} → P s → List Bool
    | _, .mcons b _ as => b :: modes as
    | _, .xcons _ as => false :: modes as
    | _, _ => []
  names : {s : Sr} → P s → List Nat
    | _, .gname i => [i]
    | _, .gtup _ gs => names gs
    | _, .gtl _ gs => names gs
    | _, .gcons g gs => names g ++ names gs
    | _, _ => []
end Ci
end

section
set_option Elab.async false
set_option linter.all false
set_option maxRecDepth 100000
set_option maxHeartbeats 2000000
/-! ## expressions do what they compute -/
namespace Ci
open PySem PySem.Spec PyProof.Rows L2 Evl

def relA (G : Gm) : Hp → Hp → Hp → Hp → List V → List D → Prop := fun _ _ B' _ vs ds => Reps G B' vs ds
def relR (G : Gm) : Hp → Hp → Hp → Hp → List V → List D → Prop := fun _ _ B' H' vs ds => Rdbs G B' H' vs ds
def relT : Hp → Hp → Hp → Hp → Bool → Bool → Prop := fun _ _ _ _ b k => b = k
def relO : Hp → Hp → Hp → Hp → Option Int → Option Int → Prop := fun _ _ _ _ b k => b = k
section
variable {G : Gm} {E : XE2} {ρ : En} {ta tb tc : TE} {ra rb rc : R RV} {i : Nat} {pn : Addr}
theorem early_V {H0 : Hp} : Early G (relV G H0) := RvOk.early
theorem early_A {H0 : Hp} : Early G (relA G H0) := fun _ _ _ _ _ _ _ h => h
theorem early_R {H0 : Hp} : Early G (relR G H0) := fun _ _ _ _ _ _ _ h => h
theorem early_T {H0 : Hp} : Early G (relT H0) := fun _ _ _ _ _ _ _ h => h
theorem getV_ok {H0 B H : Hp} {σ : L2.St} {rv : RV} (S : Slots G pn H0 B H σ ρ) (h : getV ρ i = .ok rv) : ∃ v, σ[i]? = some (some v) ∧ RvOk G H B H v rv := by
  unfold getV at h
  split at h
  · rename_i x e
    cases h
    obtain ⟨v, h1, h2⟩ := S.data e
    exact ⟨v, h1, .d h2⟩
  · rename_i x nd e
    cases h
    obtain ⟨a, o, h1, h2, h3, h4⟩ := S.own e (fun y z => nd y (by rw [z]))
    exact ⟨_, h1, .vw h3 h4⟩
  · rename_i ds e
    cases h
    obtain ⟨a, vs, h1, h2, h3⟩ := S.lent e
    exact ⟨_, h1, .vw (S.ex0.k _ _ h2 rfl) (.lst h3)⟩
  · rename_i x e
    cases h
    obtain ⟨ow, S⟩ := S
    obtain ⟨v, h1, h2⟩ := S.ok i _ e
    generalize ow i = cs at h2
    cases h2 with
    | tok r _ => exact ⟨v, h1, .d r⟩
  · cases h
theorem do_var : Does G E (relV G) (tVar i) ρ (getV ρ i) := fun pn H0 B H σ S Q P => by
  cases h : getV ρ i with
  | ok rv =>
    rw [h] at P
    obtain ⟨v, h1, h2⟩ := getV_ok S h
    exact ⟨v, h1, P v B H (Go.refl S.ex) h2⟩
  | err x f =>
    unfold getV at h
    split at h <;> cases h
  | bad => rw [h] at P; exact P.elim
theorem do_c {k : Cn} : Does G E (relV G) (tC k.v) ρ (.ok (dv k.d)) := fun pn H0 B H σ S Q P => P _ B H (Go.refl S.ex) (by
  cases k with
  | non => exact .d .non
  | bl b => exact .d (.bl b)
  | int n => exact .d (.int n)
  | str s => exact .d (.str _ (sok_lit s)))
theorem toI_ok {B H Hi : Hp} {v : V} {x : RV} {n : Int} (r : RvOk G Hi B H v x) (h : x.toI = .ok n) : v = .int n := by
  unfold RV.toI at h
  split at h <;> cases h
  exact (r.rd rfl).int
theorem toB_ok {B H Hi : Hp} {v : V} {x : RV} {n : Bool} (r : RvOk G Hi B H v x) (h : x.toB = .ok n) : v = .bl n := by
  unfold RV.toB at h
  split at h <;> cases h
  exact (r.rd rfl).bl
theorem toI_noerr {x : RV} {a : Nat} {b : Option (Str × D)} (h : x.toI = .err a b) : False := by
  unfold RV.toI at h
  split at h <;> cases h
theorem toB_noerr {x : RV} {a : Nat} {b : Option (Str × D)} (h : x.toB = .err a b) : False := by
  unfold RV.toB at h
  split at h <;> cases h
theorem rd_noerr {x : RV} {a : Nat} {b : Option (Str × D)} (h : x.rd = .err a b) : False := by
  unfold RV.rd at h
  split at h <;> cases h
theorem toD_noerr {x : RV} {a : Nat} {b : Option (Str × D)} (h : x.toD = .err a b) : False := by
  unfold RV.toD at h
  split at h <;> cases h
theorem do_bin {o : B2} (ha : Does G E (relV G) ta ρ ra) (hb : Does G E (relV G) tb ρ rb) : Does G E (relV G) (tOp (o.den G.K) ta tb) ρ (ra.bind fun x => rb.bind fun y => x.rd.bind fun x => y.rd.bind fun y => o.fn x y) := fun pn H0 B H σ S Q P =>
  ha pn H0 B H σ S _ (P.bind fun x ex P v B1 H1 g1 r1 => hb pn H0 B1 H1 σ (S.go g1) _ ((P.go early_V g1).bind fun y ey P u B2 H2 g2 r2 => by
    cases e1 : x.rd with
    | ok x' =>
      cases e2 : y.rd with
      | ok y' =>
        rw [e1, R.bind_ok, e2, R.bind_ok] at P
        exact o.ok (E σ) B2 H2 v u x' y' g2.bh ((r1.rd e1).go g2) (r2.rd e2) Q (P.go RvOk.early g2)
      | err a b => exact (rd_noerr e2).elim
      | bad => rw [e1, R.bind_ok, e2] at P; exact P.elim
    | err a b => exact (rd_noerr e1).elim
    | bad => rw [e1] at P; exact P.elim))
theorem do_neg (ha : Does G E (relV G) ta ρ ra) : Does G E (relV G) (tUn (rU fun i => .int (-i)) ta) ρ (ra.bind fun x => x.toI.bind fun n => .ok (dv (.int (-n)))) := fun pn H0 B H σ S Q P =>
  ha pn H0 B H σ S _ (P.bind fun x ex P v B1 H1 g1 r1 => by
    cases e : x.toI with
    | ok n =>
      rw [e] at P
      exact ⟨n, toI_ok r1 e, P _ B1 H1 g1 (.d (.int _))⟩
    | err a b => exact (toI_noerr e).elim
    | bad => rw [e] at P; exact P.elim)
theorem do_andV (ha : Does G E (relV G) ta ρ ra) (hb : Does G E (relV G) tb ρ rb) : Does G E (relV G) (tAndV ta tb) ρ (ra.bind fun x => x.toB.bind fun k => if k then rb else .ok (dv (.bl false))) := fun pn H0 B H σ S Q P =>
  ha pn H0 B H σ S _ (P.bind fun x ex P v B1 H1 g1 r1 => by
    cases e : x.toB with
    | ok k =>
      rw [e] at P
      refine ⟨k, toB_ok r1 e, ?_⟩
      cases k with
      | true => exact iteT (hb pn H0 B1 H1 σ (S.go g1) Q (P.go early_V g1))
      | false => exact iteF (P _ B1 H1 g1 (.d (.bl _)))
    | err a b => exact (toB_noerr e).elim
    | bad => rw [e] at P; exact P.elim)
theorem do_orV (ha : Does G E (relV G) ta ρ ra) (hb : Does G E (relV G) tb ρ rb) : Does G E (relV G) (tOrV ta tb) ρ (ra.bind fun x => x.toB.bind fun k => if k then .ok (dv (.bl true)) else rb) := fun pn H0 B H σ S Q P =>
  ha pn H0 B H σ S _ (P.bind fun x ex P v B1 H1 g1 r1 => by
    cases e : x.toB with
    | ok k =>
      rw [e] at P
      refine ⟨k, toB_ok r1 e, ?_⟩
      cases k with
      | true => exact iteT (P _ B1 H1 g1 (.d (.bl _)))
      | false => exact iteF (hb pn H0 B1 H1 σ (S.go g1) Q (P.go early_V g1))
    | err a b => exact (toB_noerr e).elim
    | bad => rw [e] at P; exact P.elim)
theorem do_notV (ha : Does G E (relV G) ta ρ ra) : Does G E (relV G) (tNotV ta) ρ (ra.bind fun x => x.toB.bind fun k => .ok (dv (.bl (!k)))) := fun pn H0 B H σ S Q P =>
  ha pn H0 B H σ S _ (P.bind fun x ex P v B1 H1 g1 r1 => by
    cases e : x.toB with
    | ok n =>
      rw [e] at P
      exact ⟨n, toB_ok r1 e, P _ B1 H1 g1 (.d (.bl _))⟩
    | err a b => exact (toB_noerr e).elim
    | bad => rw [e] at P; exact P.elim)
theorem do_chain {o o' : B2} (ha : Does G E (relV G) ta ρ ra) (hb : Does G E (relV G) tb ρ rb) (hc : Does G E (relV G) tc ρ rc) : Does G E (relV G) (tChain (o.den G.K) (o'.den G.K) ta tb tc) ρ
    (ra.bind fun x => rb.bind fun y => x.rd.bind fun x => y.rd.bind fun y => (o.fn x y).bind fun z => z.toB.bind fun k => if k then rc.bind fun w => w.rd.bind fun w => o'.fn y w else .ok (dv (.bl false))) := fun pn H0 B H σ S Q P =>
  ha pn H0 B H σ S _ (P.bind fun x ex P v B1 H1 g1 r1 => hb pn H0 B1 H1 σ (S.go g1) _ ((P.go early_V g1).bind fun y ey P u B2 H2 g2 r2 => by
    cases e1 : x.rd with
    | ok x' =>
      cases e2 : y.rd with
      | ok y' =>
        rw [e1, R.bind_ok, e2, R.bind_ok] at P
        refine o.ok (E σ) B2 H2 v u x' y' g2.bh ((r1.rd e1).go g2) (r2.rd e2) _ ((P.go (early_V (H0 := H0)) g2).bind fun z ez P w B3 H3 g3 r3 => ?_)
        cases e3 : z.toB with
        | ok k =>
          rw [e3, R.bind_ok] at P
          refine ⟨k, toB_ok r3 e3, ?_⟩
          cases k with
          | true =>
            refine iteT (hc pn H0 B3 H3 σ (S.go ((g1.trans g2).trans g3)) _ ((P.go (early_V (H0 := H0)) g3).bind fun w ew P w' B4 H4 g4 r4 => ?_))
            cases e4 : w.rd with
            | ok w0 =>
              rw [e4, R.bind_ok] at P
              exact o'.ok (E σ) B4 H4 u w' y' w0 g4.bh ((r2.rd e2).go (g3.trans g4)) (r4.rd e4) Q (P.go (early_V (H0 := H0)) g4)
            | err a b => exact (rd_noerr e4).elim
            | bad => rw [e4] at P; exact P.elim
          | false => exact iteF (P _ B3 H3 g3 (.d (.bl _)))
        | err a b => exact (toB_noerr e3).elim
        | bad => rw [e3] at P; exact P.elim
      | err a b => exact (rd_noerr e2).elim
      | bad => rw [e1, R.bind_ok, e2] at P; exact P.elim
    | err a b => exact (rd_noerr e1).elim
    | bad => rw [e1] at P; exact P.elim))
variable {tt tu : TT} {rt ru : R Bool}
theorem do_chain3 {o o' o2 : B2} {td : TE} {rd : R RV} (ha : Does G E (relV G) ta ρ ra) (hb : Does G E (relV G) tb ρ rb) (hc : Does G E (relV G) tc ρ rc) (hd : Does G E (relV G) td ρ rd) : Does G E (relV G) (tChain3 (o.den G.K) (o'.den G.K) (o2.den G.K) ta tb tc td) ρ
    (ra.bind fun x => rb.bind fun y => x.rd.bind fun x => y.rd.bind fun y => (o.fn x y).bind fun z => z.toB.bind fun k => if k then rc.bind fun w => w.rd.bind fun w => (o'.fn y w).bind fun z2 => z2.toB.bind fun k2 => if k2 then rd.bind fun u => u.rd.bind fun u => o2.fn w u else .ok (dv (.bl false)) else .ok (dv (.bl false))) := fun pn H0 B H σ S Q P =>
  ha pn H0 B H σ S _ (P.bind fun x ex P v B1 H1 g1 r1 => hb pn H0 B1 H1 σ (S.go g1) _ ((P.go early_V g1).bind fun y ey P u B2 H2 g2 r2 => by
    cases e1 : x.rd with
    | ok x' =>
      cases e2 : y.rd with
      | ok y' =>
        rw [e1, R.bind_ok, e2, R.bind_ok] at P
        refine o.ok (E σ) B2 H2 v u x' y' g2.bh ((r1.rd e1).go g2) (r2.rd e2) _ ((P.go (early_V (H0 := H0)) g2).bind fun z ez P w B3 H3 g3 r3 => ?_)
        cases e3 : z.toB with
        | ok k =>
          rw [e3, R.bind_ok] at P
          refine ⟨k, toB_ok r3 e3, ?_⟩
          cases k with
          | true =>
            refine iteT (hc pn H0 B3 H3 σ (S.go ((g1.trans g2).trans g3)) _ ((P.go (early_V (H0 := H0)) g3).bind fun w ew P w' B4 H4 g4 r4 => ?_))
            cases e4 : w.rd with
            | ok w0 =>
              rw [e4, R.bind_ok] at P
              refine o'.ok (E σ) B4 H4 u w' y' w0 g4.bh ((r2.rd e2).go (g3.trans g4)) (r4.rd e4) _ ((P.go (early_V (H0 := H0)) g4).bind fun z2 ez2 P w5 B5 H5 g5 r5 => ?_)
              cases e5 : z2.toB with
              | ok k2 =>
                rw [e5, R.bind_ok] at P
                refine ⟨k2, toB_ok r5 e5, ?_⟩
                cases k2 with
                | true =>
                  refine iteT (hd pn H0 B5 H5 σ (S.go ((((g1.trans g2).trans g3).trans g4).trans g5)) _ ((P.go (early_V (H0 := H0)) g5).bind fun u6 eu6 P w6 B6 H6 g6 r6 => ?_))
                  cases e6 : u6.rd with
                  | ok u0 =>
                    rw [e6, R.bind_ok] at P
                    exact o2.ok (E σ) B6 H6 w' w6 w0 u0 g6.bh ((r4.rd e4).go (g5.trans g6)) (r6.rd e6) Q (P.go (early_V (H0 := H0)) g6)
                  | err a b => exact (rd_noerr e6).elim
                  | bad => rw [e6] at P; exact P.elim
                | false => exact iteF (P _ B5 H5 g5 (.d (.bl _)))
              | err a b => exact (toB_noerr e5).elim
              | bad => rw [e5] at P; exact P.elim
            | err a b => exact (rd_noerr e4).elim
            | bad => rw [e4] at P; exact P.elim
          | false => exact iteF (P _ B3 H3 g3 (.d (.bl _)))
        | err a b => exact (toB_noerr e3).elim
        | bad => rw [e3] at P; exact P.elim
      | err a b => exact (rd_noerr e2).elim
      | bad => rw [e1, R.bind_ok, e2] at P; exact P.elim
    | err a b => exact (rd_noerr e1).elim
    | bad => rw [e1] at P; exact P.elim))
theorem do_ife (ht : Does G E relT tt ρ rt) (ha : Does G E (relV G) ta ρ ra) (hb : Does G E (relV G) tb ρ rb) : Does G E (relV G) (tIf tt ta tb) ρ (rt.bind fun k => if k then ra else rb) := fun pn H0 B H σ S Q P =>
  ht pn H0 B H σ S _ (P.bind fun k ek P b B1 H1 g1 r1 => by
    cases r1
    cases k with
    | true => exact iteT (ha pn H0 B1 H1 σ (S.go g1) Q (P.go early_V g1))
    | false => exact iteF (hb pn H0 B1 H1 σ (S.go g1) Q (P.go early_V g1)))
variable {as : TA} {rs : R (List D)}
theorem do_tup (h : Does G E (relA G) as ρ rs) : Does G E (relV G) (tTup as) ρ (rs.bind fun ds => if ds.length ≤ sizeLine then .ok (dv (.tup ds)) else .bad) := fun pn H0 B H σ S Q P =>
  h pn H0 B H σ S _ (P.bind fun ds eds P vs B1 H1 g1 r1 => by
    by_cases c : ds.length ≤ sizeLine
    · rw [if_pos c] at P
      exact ⟨by rw [Reps.len r1]; exact c, fun p hp => Post.tup (P.go (early_V (H0 := H0)) g1) g1.bh hp r1⟩
    · rw [if_neg c] at P
      exact P.elim)
theorem do_lst (h : Does G E (relA G) as ρ rs) : Does G E (relV G) (tLst as) ρ (rs.bind fun ds => if ds.length ≤ sizeLine then .ok (ov (.lst ds)) else .bad) := fun pn H0 B H σ S Q P =>
  h pn H0 B H σ S _ (P.bind fun ds eds P vs B1 H1 g1 r1 => by
    by_cases c : ds.length ≤ sizeLine
    · rw [if_pos c] at P
      exact ⟨by rw [Reps.len r1]; exact c, fun p hp => Post.new (P.go (early_V (H0 := H0)) g1) g1.bh hp (.lst r1)⟩
    · rw [if_neg c] at P
      exact P.elim)
theorem do_anil : Does G E (relA G) tNil ρ (.ok []) := fun pn H0 B H σ S Q P => P [] B H (Go.refl S.ex) Reps.nil
theorem do_acons (ha : Does G E (relV G) ta ρ ra) (h : Does G E (relA G) as ρ rs) : Does G E (relA G) (tCons ta as) ρ (ra.bind fun x => x.toD.bind fun d => rs.bind fun ds => .ok (d :: ds)) := fun pn H0 B H σ S Q P =>
  ha pn H0 B H σ S _ (P.bind fun x ex P v B1 H1 g1 r1 => by
    cases e : x.toD with
    | ok d =>
      rw [e, R.bind_ok] at P
      cases x with
      | vw y => cases e
      | sv s =>
        cases e
        obtain ⟨B2, a1, a2, a3, a4⟩ := r1.toD g1.bh
        have g2 : Go G B H B2 H1 := ⟨g1.bb.trans a2, a3, g1.hx, fun a o q1 q2 => a4 a o q1 (g1.fr a o q1 q2)⟩
        exact h pn H0 B2 H1 σ (S.go g2) _ ((P.go early_A g2).bind fun ds eds P vs B3 H3 g3 r3 => P _ B3 H3 g3 (Reps.cons (a1.mono g3.bb) r3))
    | err a b => exact (toD_noerr e).elim
    | bad => rw [e] at P; exact P.elim)
theorem do_rnil : Does G E (relR G) tNil ρ (.ok []) := fun pn H0 B H σ S Q P => P [] B H (Go.refl S.ex) Rdbs.nil
theorem do_rcons (ha : Does G E (relV G) ta ρ ra) (h : Does G E (relR G) as ρ rs) : Does G E (relR G) (tCons ta as) ρ (ra.bind fun x => x.rd.bind fun d => rs.bind fun ds => .ok (d :: ds)) := fun pn H0 B H σ S Q P =>
  ha pn H0 B H σ S _ (P.bind fun x ex P v B1 H1 g1 r1 => by
    cases e : x.rd with
    | ok d =>
      rw [e, R.bind_ok] at P
      exact h pn H0 B1 H1 σ (S.go g1) _ ((P.go early_R g1).bind fun ds eds P vs B3 H3 g3 r3 => P _ B3 H3 g3 (Rdbs.cons ((r1.rd e).go g3) r3))
    | err a b => exact (rd_noerr e).elim
    | bad => rw [e] at P; exact P.elim)
def relM (G : Gm) (ms : List Bool) : Hp → Hp → Hp → Hp → List V → List D → Prop := fun _ _ B' H' vs ds => ArgsOk G B' H' ms vs ds
theorem early_M {ms : List Bool} {H0 : Hp} : Early G (relM G ms H0) := fun _ _ _ _ _ _ _ h => h
theorem do_mnil : Does G E (relM G []) tNil ρ (.ok []) := fun pn H0 B H σ S Q P => P [] B H (Go.refl S.ex) ArgsOk.nil
theorem do_mcons {b : Bool} {ms : List Bool} (ha : Does G E (relV G) ta ρ ra) (h : Does G E (relM G ms) as ρ rs) : Does G E (relM G (b :: ms)) (tCons ta as) ρ
    (ra.bind fun x => (if b then x.rd.bind fun d => (match d with | .lst es => .ok (.lst es) | _ => .bad) else x.toD).bind fun d => rs.bind fun ds => .ok (d :: ds)) := fun pn H0 B H σ S Q P =>
  ha pn H0 B H σ S _ (P.bind fun x ex P v B1 H1 g1 r1 => by
    cases b with
    | false =>
      simp only [Bool.false_eq_true, if_false] at P
      cases e : x.toD with
      | ok d =>
        rw [e, R.bind_ok] at P
        cases x with
        | vw y => cases e
        | sv s =>
          cases e
          obtain ⟨B2, a1, a2, a3, a4⟩ := r1.toD g1.bh
          have g2 : Go G B H B2 H1 := ⟨g1.bb.trans a2, a3, g1.hx, fun a o q1 q2 => a4 a o q1 (g1.fr a o q1 q2)⟩
          exact h pn H0 B2 H1 σ (S.go g2) _ ((P.go early_M g2).bind fun ds eds P vs B3 H3 g3 r3 => P _ B3 H3 g3 (ArgsOk.d (a1.mono g3.bb) r3))
      | err a b => exact (toD_noerr e).elim
      | bad => rw [e] at P; exact P.elim
    | true =>
      simp only [if_true] at P
      cases e : x.rd with
      | ok d =>
        rw [e, R.bind_ok] at P
        cases d with
        | lst es =>
          obtain ⟨a, us, rfl, e1, r⟩ := (r1.rd e).lst g1.bh
          have P' : Post G (E σ) (relM G (true :: ms) H0) B H (rs.bind fun ds => .ok (.lst es :: ds)) Q := P
          exact h pn H0 B1 H1 σ (S.go g1) _ ((P'.go early_M g1).bind fun ds eds P vs B3 H3 g3 r3 => P _ B3 H3 g3 (ArgsOk.b (g3.hh _ _ e1) (r.mono g3.bb) r3))
        | _ => exact P.elim
      | err a b => exact (rd_noerr e).elim
      | bad => rw [e] at P; exact P.elim)
theorem do_fld {f : Str} {cs : List Nat} (ha : Does G E (relV G) ta ρ ra) (hc : ∀ c, c ∈ cs → Cls G.K (G.cm c) ∧ NoAttr G.K (G.cm c) f) : Does G E (relV G) (tFld G.K ta f) ρ (ra.bind fun | .sv (.fv (.d (.ins c fs))) => if c ∈ cs then (R.ofO (fs.lookup f)).bind fun d => .ok (dv d) else .bad | .sv (.obj false c fs) => if c ∈ cs then getFO (fs.lookup f) else .bad | _ => .bad) := fun pn H0 B H σ S Q P =>
  ha pn H0 B H σ S _ (P.bind fun x ex P v B1 H1 g1 r1 => by
    split at P <;> first | exact P.elim | skip
    rename_i c fs
    by_cases m : c ∈ cs
    · rw [if_pos m] at P
      cases e : fs.lookup f with
      | none => rw [e] at P; exact P.elim
      | some d =>
        rw [e] at P
        have r2 := (RvOk.rd r1 (d := .ins c fs) rfl).plain rfl
        cases r2 with
        | ins hb r =>
          obtain ⟨w, k1, k2⟩ := r.look e
          exact ⟨_, _, _, _, w, rfl, g1.bh _ _ hb, (hc c m).1, (hc c m).2, k1, P w B1 H1 g1 (.d k2)⟩
    · rw [if_neg m] at P
      exact P.elim
    · rename_i c fs
      by_cases m : c ∈ cs
      · rw [if_pos m] at P
        cases r1 with
        | sv nb q =>
          cases q with
          | obj z h0 hb hl r n =>
            unfold getFO at P
            split at P
            · rename_i x hx
              obtain ⟨w, bs, k1, k2, k3⟩ := r.look hx
              refine ⟨_, _, _, _, w, rfl, hl, (hc c m).1, (hc c m).2, k1, P w B1 H1 g1 ?_⟩
              cases k2 with
              | d r => exact .d r
              | own _ _ _ r => cases r
            · rename_i x nd hx
              obtain ⟨w, bs, k1, k2, k3⟩ := r.look hx
              refine ⟨_, _, _, _, w, rfl, hl, (hc c m).1, (hc c m).2, k1, P w B1 H1 g1 ?_⟩
              cases k2 with
              | d r => exact absurd rfl (nd _)
              | own _ _ h r => exact .vw h r
            · exact P.elim
      · rw [if_neg m] at P
        exact P.elim)
theorem do_fldv {f : Str} {cs : List Nat} (hc : ∀ c, c ∈ cs → Cls G.K (G.cm c) ∧ NoAttr G.K (G.cm c) f) : Does G E (relV G) (tFld G.K (tVar i) f) ρ (getF cs ρ i f) := fun pn H0 B H σ S Q P => by
  unfold getF at P
  split at P
  · rename_i c fs e
    by_cases m : c ∈ cs
    · rw [if_pos m] at P
      obtain ⟨l, dx, fv, ow, as, zs, S', e1, e2, e3, e4, e5, e6, e7⟩ := S.obj e
      split at P
      · rename_i x hx
        obtain ⟨w, bs, k1, k2, k3⟩ := e6.look hx
        refine ⟨.ref l, e2, l, _, dx, fv, w, rfl, e5, (hc c m).1, (hc c m).2, k1, P w B H (Go.refl S.ex) ?_⟩
        cases k2 with
        | d r => exact .d r
        | own _ _ _ r => cases r
      · rename_i x nd hx
        obtain ⟨w, bs, k1, k2, k3⟩ := e6.look hx
        refine ⟨.ref l, e2, l, _, dx, fv, w, rfl, e5, (hc c m).1, (hc c m).2, k1, P w B H (Go.refl S.ex) ?_⟩
        cases k2 with
        | d r => exact absurd rfl (nd _)
        | own _ _ h r => exact .vw h r
      · exact P.elim
    · rw [if_neg m] at P
      exact P.elim
  · rename_i c fs e
    by_cases m : c ∈ cs
    · rw [if_pos m] at P
      obtain ⟨v, h1, h2⟩ := S.data e
      split at P
      · rename_i x hx
        cases h2 with
        | ins hb r =>
          obtain ⟨w, k1, k2⟩ := r.look hx
          exact ⟨_, h1, _, _, _, _, w, rfl, S.ex _ _ hb, (hc c m).1, (hc c m).2, k1, P w B H (Go.refl S.ex) (.d k2)⟩
      · exact P.elim
    · rw [if_neg m] at P
      exact P.elim
  · exact P.elim
variable {tl th : TO} {rl rh : R (Option Int)}
theorem do_noP : Does G E relO tNoPart ρ (.ok none) := fun pn H0 B H σ S Q P => P none B H (Go.refl S.ex) rfl
theorem do_someP (ha : Does G E (relV G) ta ρ ra) : Does G E relO (tPart ta) ρ (ra.bind fun x => x.toI.bind fun n => .ok (some n)) := fun pn H0 B H σ S Q P =>
  ha pn H0 B H σ S _ (P.bind fun x ex P v B1 H1 g1 r1 => by
    cases e : x.toI with
    | ok n =>
      rw [e] at P
      exact ⟨n, toI_ok r1 e, P _ B1 H1 g1 rfl⟩
    | err a b => exact (toI_noerr e).elim
    | bad => rw [e] at P; exact P.elim)
theorem do_sl (ha : Does G E (relV G) ta ρ ra) (hl : Does G E relO tl ρ rl) (hh : Does G E relO th ρ rh) : Does G E (relV G) (tSl (rSl G.K) ta tl th) ρ (ra.bind fun x => rl.bind fun l => rh.bind fun h => x.rd.bind fun d => slF d l h) := fun pn H0 B H σ S Q P =>
  ha pn H0 B H σ S _ (P.bind fun x ex P v B1 H1 g1 r1 => hl pn H0 B1 H1 σ (S.go g1) _ ((P.go (early_V (H0 := H0)) g1).bind fun l el P l' B2 H2 g2 r2 => hh pn H0 B2 H2 σ (S.go (g1.trans g2)) _ ((P.go (early_V (H0 := H0)) g2).bind fun h eh P h' B3 H3 g3 r3 => by
    cases r2
    cases r3
    cases e : x.rd with
    | ok d =>
      rw [e, R.bind_ok] at P
      exact slS g3.bh ((r1.rd e).go (g2.trans g3)) (P.go (early_V (H0 := H0)) g3)
    | err a b => exact (rd_noerr e).elim
    | bad => rw [e] at P; exact P.elim)))
theorem do_rev (ha : Does G E (relV G) ta ρ ra) : Does G E (relV G) (tRevL G.K ta) ρ (ra.bind fun x => x.rd.bind fun
    | .lst ds => .ok (ov (.lst ds.reverse))
    | _ => .bad) := fun pn H0 B H σ S Q P =>
  ha pn H0 B H σ S _ (P.bind fun x ex P v B1 H1 g1 r1 => by
    cases e : x.rd with
    | ok d =>
      rw [e, R.bind_ok] at P
      split at P <;> first | exact P.elim | skip
      obtain ⟨a, vs, rfl, h1, h2⟩ := (r1.rd e).lst g1.bh
      exact ⟨a, vs, rfl, sq_of h1, fun p hp => Post.new (P.go (early_V (H0 := H0)) g1) g1.bh hp (.lst h2.rev)⟩
    | err a b => exact (rd_noerr e).elim
    | bad => rw [e] at P; exact P.elim)
theorem do_cb {o : Cb} (h : Does G E (relR G) as ρ rs) : Does G E (relV G) (tCB (o.den G.K) as) ρ (rs.bind o.fn) := fun pn H0 B H σ S Q P =>
  h pn H0 B H σ S _ (P.bind fun ds eds P vs B1 H1 g1 r1 => o.ok (E σ) B1 H1 vs ds g1.bh r1 Q (P.go (early_V (H0 := H0)) g1))
theorem do_isi {T : String} (ha : Does G E (relV G) ta ρ ra) : Does G E (relV G) (tCB (rIsi G.K) (tCons ta (tCons (tC (.ty T)) tNil))) ρ (ra.bind fun x => x.rd.bind fun d => isiF T d) := fun pn H0 B H σ S Q P =>
  ha pn H0 B H σ S _ (P.bind fun x ex P v B1 H1 g1 r1 => by
    cases e : x.rd with
    | ok d =>
      rw [e, R.bind_ok] at P
      unfold isiF at P
      cases e1 : tyD d with
      | none => rw [e1] at P; exact P.elim
      | some t =>
        rw [e1] at P
        cases e2 : kitB t T with
        | none => simp only [R.ofO, R.bind_ok, e2] at P; exact P.elim
        | some k =>
          simp only [R.ofO, R.bind_ok, e2] at P
          exact ⟨v, .ty T, _, _, k, rfl, .ty T, (r1.rd e).tyx g1.bh e1, kit_ty e2, P _ B1 H1 g1 (.d (.bl k))⟩
    | err a b => exact (rd_noerr e).elim
    | bad => rw [e] at P; exact P.elim)
/-! tests -/
theorem do_tst (ha : Does G E (relV G) ta ρ ra) : Does G E relT (tTest ta) ρ (ra.bind RV.toB) := fun pn H0 B H σ S Q P =>
  ha pn H0 B H σ S _ (P.bind fun x ex P v B1 H1 g1 r1 => by
    cases e : x.toB with
    | ok k => rw [e] at P; exact ⟨k, toB_ok r1 e, P k B1 H1 g1 rfl⟩
    | err a b => exact (toB_noerr e).elim
    | bad => rw [e] at P; exact P.elim)
theorem do_tru (ha : Does G E (relV G) ta ρ ra) : Does G E relT (tTru G.K ta) ρ (ra.bind fun x => x.rd.bind truD) := fun pn H0 B H σ S Q P =>
  ha pn H0 B H σ S _ (P.bind fun x ex P v B1 H1 g1 r1 => by
    cases e : x.rd with
    | ok d =>
      rw [e, R.bind_ok] at P
      cases e2 : truD d with
      | ok k =>
        rw [e2] at P
        exact ⟨k, truS g1.bh (r1.rd e) e2, P k B1 H1 g1 rfl⟩
      | err a b =>
        exfalso
        unfold truD at e2
        split at e2 <;> first | (cases e2; done) | (split at e2 <;> cases e2)
      | bad => rw [e2] at P; exact P.elim
    | err a b => exact (rd_noerr e).elim
    | bad => rw [e] at P; exact P.elim)
theorem do_andT (ht : Does G E relT tt ρ rt) (hu : Does G E relT tu ρ ru) : Does G E relT (tAnd tt tu) ρ (rt.bind fun k => if k then ru else .ok false) := fun pn H0 B H σ S Q P =>
  ht pn H0 B H σ S _ (P.bind fun k ek P b B1 H1 g1 r1 => by
    cases r1
    cases k with
    | true => exact iteT (hu pn H0 B1 H1 σ (S.go g1) Q (P.go early_T g1))
    | false => exact iteF (P _ B1 H1 g1 rfl))
theorem do_orT (ht : Does G E relT tt ρ rt) (hu : Does G E relT tu ρ ru) : Does G E relT (tOr tt tu) ρ (rt.bind fun k => if k then .ok true else ru) := fun pn H0 B H σ S Q P =>
  ht pn H0 B H σ S _ (P.bind fun k ek P b B1 H1 g1 r1 => by
    cases r1
    cases k with
    | true => exact iteT (P _ B1 H1 g1 rfl)
    | false => exact iteF (hu pn H0 B1 H1 σ (S.go g1) Q (P.go early_T g1)))
theorem do_notT (ht : Does G E relT tt ρ rt) : Does G E relT (tNot tt) ρ (rt.bind fun k => .ok (!k)) := fun pn H0 B H σ S Q P =>
  ht pn H0 B H σ S _ (P.bind fun k ek P b B1 H1 g1 r1 => by
    cases r1
    exact P _ B1 H1 g1 rfl)
theorem do_yes : Does G E relT tYes ρ (.ok true) := fun pn H0 B H σ S Q P => P true B H (Go.refl S.ex) rfl
/-! calls -/
variable {ms : List Bool}
theorem do_call {f : List D → R RV} (h : Does G E (relM G ms) as ρ rs) : Does G E (relV G) (cCall (Pr G ms f) E as) ρ (rs.bind f) := fun pn H0 B H σ S Q P =>
  h pn H0 B H σ S _ (P.bind fun ds eds P vs B1 H1 g1 r1 => ⟨B1, ds, g1.bh, r1, S.tb.go g1, P.go (early_V (H0 := H0)) g1⟩)
theorem do_meth {f : List D → R RV} {c : Nat} {m : Str} (ha : Does G E (relV G) ta ρ ra) (h : Does G E (relM G ms) as ρ rs) : Does G E (relV G) (cMeth (G.cm c) m (Pr G (false :: ms) f) E ta as) ρ (ra.bind fun
    | .sv (.fv (.d (.ins c' fs))) => if c' = c then (match fs.lookup m with | none => rs.bind fun ds => f (.ins c fs :: ds) | some _ => .bad) else .bad
    | _ => .bad) := fun pn H0 B H σ S Q P =>
  ha pn H0 B H σ S _ (P.bind fun x ex P v B1 H1 g1 r1 => by
    split at P <;> first | exact P.elim | skip
    rename_i c' fs
    by_cases e : c' = c
    · subst e
      rw [if_pos rfl] at P
      split at P <;> first | exact P.elim | skip
      rename_i hm
      have r2 := (RvOk.rd r1 (d := .ins c' fs) rfl).plain rfl
      cases r2 with
      | ins hb r =>
        refine ⟨_, _, _, rfl, g1.bh _ _ hb, r.lookN hm, ?_⟩
        refine h pn H0 B1 H1 σ (S.go g1) _ ((P.go (early_V (H0 := H0)) g1).bind fun ds eds P vs B2 H2 g2 r2 => ?_)
        exact ⟨B2, _, g2.bh, .d (Rep.mono g2.bb (.ins hb r)) r2, (S.tb.go g1).go g2, P.go (early_V (H0 := H0)) g2⟩
    · rw [if_neg e] at P
      exact P.elim)
theorem do_make {f : List D → R (List (Str × FV))} {c : Nat} (h : Does G E (relM G ms) as ρ rs) : Does G E (relV G) (cMake (G.cm c) (PrI G c ms f) E as) ρ (rs.bind fun ds => (f ds).bind fun fs => .ok (.sv (.obj false c fs))) := fun pn H0 B H σ S Q P =>
  h pn H0 B H σ S _ (P.bind fun ds eds P vs B1 H1 g1 r1 => by
    intro x dx nx nd ne
    have e1 : Ex H1 (upd (upd H1 dx (.own x)) x (.ins (G.cm c) dx [])) := fun a o e => by
      rw [upd_ne (ne_of_none e nx), upd_ne (ne_of_none e nd)]
      exact e
    have hm : ∀ {ms vs ds}, ArgsOk G B1 H1 ms vs ds → ArgsOk G B1 (upd (upd H1 dx (.own x)) x (.ins (G.cm c) dx [])) ms vs ds := fun q => by
      induction q with
      | nil => exact .nil
      | d h _ ih => exact .d h ih
      | b h1 h2 _ ih => exact .b (e1 _ _ h1) h2 ih
    refine ⟨B1, ds, x, dx, vs, rfl, upd_same, none_of_ex g1.bh nx, g1.bh.trans e1, hm r1, (S.tb.go g1).ex e1, ?_⟩
    cases e : f ds with
    | ok fs =>
      rw [e] at P
      intro B2 H2 dy fv bs z a2 a5 a6 a7 nd'
      have kk : ExT G H1 H2 := (ExT.of e1).offT z.hx (fun a o q m => ne_of_none q nx (List.mem_singleton.mp m)) fun a m o q => by
        rw [List.mem_singleton.mp m, upd_same] at q
        cases q
        rfl
      have g2 : Go G B1 H1 B2 H2 := ⟨z.bb, a2, kk, fun a o q1 q2 => z.kb a o (e1 a o q1) (fun m => ne_of_none q1 nx (List.mem_singleton.mp m)) q2⟩
      refine ⟨rfl, P _ B2 H2 (g1.trans g2) (.sv rfl (.obj (fun z => nomatch z) (g1.hx.n _ nx) a5 a6 (a7.base fun a m => ?_) nd'))⟩
      have n1 := (a7.addr m).1
      have n2 := none_of_ex e1 n1
      exact g1.hx.n _ n2
    | err y g =>
      rw [e] at P
      have go : ∀ B2 H2, Off G [x] B1 (upd (upd H1 dx (.own x)) x (.ins (G.cm c) dx [])) B2 H2 → Ex B2 H2 → Go G B H B2 H2 := fun B2 H2 z a2 =>
        g1.trans ⟨z.bb, a2, (ExT.of e1).offT z.hx (fun a o q m => ne_of_none q nx (List.mem_singleton.mp m)) fun a m o q => by
          rw [List.mem_singleton.mp m, upd_same] at q
          cases q
          rfl, fun a o q1 q2 => z.kb a o (e1 a o q1) (fun m => ne_of_none q1 nx (List.mem_singleton.mp m)) q2⟩
      cases g with
      | none => exact fun B2 H2 z a2 => P B2 H2 (go B2 H2 z a2)
      | some p => exact fun B2 H2 dd v z a2 a3 a4 => P B2 H2 dd v (go B2 H2 z a2) a3 a4
    | bad => rw [e] at P; exact P.elim)
end
end Ci
end

section
set_option Elab.async false
set_option linter.all false
set_option maxRecDepth 100000
set_option maxHeartbeats 2000000
/-! ## what is walked, targets, comprehensions, lists that are lent -/
namespace Ci
open PySem PySem.Spec PyProof.Rows L2 Evl

def Steady (G : Gm) (J : It) (B1 Hx : Hp) (xs : List D) : Prop := ∀ i B H, Ex B1 B → Ex B H → ExT G Hx H → (xs.length = i → J.stop i H) ∧ ∀ x, xs[i]? = some x → J.go i H ∧ ∀ v H', J.yld i H v H' → ∃ B', Go G B H B' H' ∧ Rep G B' v x
def relI (G : Gm) : Hp → Hp → Hp → Hp → It → Bool × List D → Prop := fun H0 _ B1 H1 J xs => Steady G J B1 (if xs.1 then H0 else H1) xs.2
section
variable {G : Gm} {E : XE2} {ρ : En} {ta : TE} {ra : R RV} {i : Nat} {pn : Addr} {as : TA} {rs : R (List D)}
theorem early_I {H0 : Hp} : Early G (relI G H0) := fun _ _ _ _ _ _ _ h => h
theorem steady_lst {B1 Hx : Hp} {a : Addr} {vs : List V} {xs : List D} (h : ∀ B H, Ex B1 B → Ex B H → ExT G Hx H → H a = some (.lst vs)) (r : Reps G B1 vs xs) : Steady G (Itl G.K a) B1 Hx xs := fun i B2 H2 e1 e2 e3 => by
  have hq := sq_of (K := G.K) (h B2 H2 e1 e2 e3)
  refine ⟨fun hi => ⟨_, hq, by rw [r.len]; exact Nat.le_of_eq hi⟩, fun x hx => ?_⟩
  obtain ⟨w, h1, h2⟩ := r.get hx
  refine ⟨⟨_, w, hq, h1⟩, fun v H' ⟨e, f⟩ => ⟨B2, by rw [e]; exact Go.refl e2, ?_⟩⟩
  have e3 := Option.some.inj ((f _ hq).symm.trans h1)
  rw [e3]
  exact h2.mono e1
theorem steady_tup {B1 Hx : Hp} {a : Addr} {vs : List V} {xs : List D} (hb : SqT G.K B1 a vs) (r : Reps G B1 vs xs) : Steady G (Itt G.K a) B1 Hx xs := fun i B2 H2 e1 e2 _ => by
  have hq := ex_t e2 (ex_t e1 hb)
  refine ⟨fun hi => ⟨_, hq, by rw [r.len]; exact Nat.le_of_eq hi⟩, fun x hx => ?_⟩
  obtain ⟨w, h1, h2⟩ := r.get hx
  refine ⟨⟨_, w, hq, h1⟩, fun v H' ⟨e, f⟩ => ⟨B2, by rw [e]; exact Go.refl e2, ?_⟩⟩
  have e3 := Option.some.inj ((f _ hq).symm.trans h1)
  rw [e3]
  exact h2.mono e1
theorem RvOk.dat {Hi B H : Hp} {v : V} {d : D} (r : RvOk G Hi B H v (dv d)) : Rep G B v d := by
  generalize hx : dv d = x at r
  cases r with
  | vw _ _ => cases hx
  | sv nb q =>
    cases q with
    | fv q =>
      cases q with
      | d rr =>
        cases hx
        exact rr
      | own _ _ _ q =>
        cases hx
        cases q
    | obj _ _ _ _ _ _ => cases hx
    | brw _ _ => cases hx
    | nst _ _ _ _ _ _ _ => cases hx
    | dob _ _ _ _ _ => cases hx
    | lam _ _ => cases hx
    | tok _ _ => cases hx
theorem steady_str {B1 Hx : Hp} {s : Str} (hs : SOk s) : Steady G (Its s) B1 Hx (chD s) := fun i B2 H2 e1 e2 _ => by
  refine ⟨fun hi => by rw [chD_len] at hi; exact Nat.le_of_eq hi, fun x hx => ?_⟩
  obtain ⟨c, h1, rfl⟩ := chD_get hx
  refine ⟨(Array.getElem?_eq_some_iff.mp h1).1, fun v H' ⟨e, c', f1, f2⟩ => ⟨B2, by rw [e]; exact Go.refl e2, ?_⟩⟩
  rw [h1] at f1
  cases f1
  rw [f2]
  refine .str _ (SOk.one (sok_iff.mp hs c ?_))
  exact Array.mem_toList_iff.mpr (Array.mem_of_getElem? h1)
theorem do_seq (ha : Does G E (relV G) ta ρ ra) : Does G E (relI G) (iSeq G.K ta) ρ (ra.bind fun
    | .sv (.fv (.d (.lst ds))) => .ok (true, ds)
    | .sv (.fv (.d (.tup ds))) => .ok (true, ds)
    | .sv (.fv (.lst ds)) => .ok (true, ds)
    | .vw (.lst ds) => .ok (false, ds)
    | .sv (.fv (.d (.str s))) => .ok (true, chD s)
    | _ => .bad) := fun pn H0 B H σ S Q P => by
  cases hr : ra with
  | bad => rw [hr] at P; exact P.elim
  | err x f => rw [hr] at P; rw [hr] at ha; exact .inl (ha pn H0 B H σ S _ P)
  | ok x =>
    rw [hr] at P ha
    simp only [R.bind_ok] at P
    split at P <;> first | exact P.elim | skip
    · refine .inl (ha pn H0 B H σ S _ fun v B1 H1 g r => ?_)
      cases r.dat with
      | lst hb r => exact ⟨_, rfl, ⟨_, sq_of (g.bh _ _ hb)⟩, P _ B1 H1 g (steady_lst (fun B2 H2 e1 e2 _ => e2 _ _ (e1 _ _ hb)) r)⟩
    · refine .inr (.inl (ha pn H0 B H σ S _ fun v B1 H1 g r => ?_))
      cases (RvOk.rd r (d := .tup _) rfl).plain rfl with
      | tup hb r => exact ⟨_, rfl, ⟨_, ex_t g.bh hb⟩, P _ B1 H1 g (steady_tup hb r)⟩
    · refine .inl (ha pn H0 B H σ S _ fun v B1 H1 g r => ?_)
      cases r with
      | sv nb q =>
        cases q with
        | fv q =>
          generalize hx : FV.lst _ = x at q
          cases q with
          | d rr => cases hx
          | @own a o _ h0 hb hl q =>
            subst hx
            cases q with
            | lst q =>
              refine ⟨_, rfl, ⟨_, sq_of hl⟩, P _ (upd B1 a _) H1 ⟨g.bb.trans (Ex.new hb), upd_ex2 g.bh hl, g.hx, fun b u q1 q2 => ?_⟩ (steady_lst (fun B2 H2 e1 e2 _ => e2 _ _ (e1 _ _ upd_same)) (q.mono (Ex.new hb)))⟩
              rw [upd_ne (ne_of_none q1 h0)]
              exact g.fr b u q1 q2
    · refine .inl (ha pn H0 B H σ S _ fun v B1 H1 g r => ?_)
      cases r with
      | vw hl q =>
        cases q with
        | lst q => exact ⟨_, rfl, ⟨_, sq_of hl⟩, P _ B1 H1 g (steady_lst (fun B2 H2 _ _ e3 => e3.k _ _ hl rfl) q)⟩
    · rename_i s
      refine .inr (.inr (ha pn H0 B H σ S _ fun v B1 H1 g r => ?_))
      obtain ⟨rfl, hs⟩ := (RvOk.rd r (d := .str s) rfl).str
      exact ⟨s, rfl, P _ B1 H1 g (steady_str hs)⟩
theorem do_seqb : Does G E (relI G) (iSeq G.K (tVar i)) ρ (match ρ[i]? with
    | some (some (.brw ds)) => .ok (true, ds)
    | _ => .bad) := fun pn H0 B H σ S Q P => by
  split at P <;> first | exact P.elim | skip
  rename_i ds e
  obtain ⟨a, vs, h1, h2, h3⟩ := S.lent e
  exact .inl ⟨_, h1, a, rfl, ⟨_, sq_of (S.ex0.k _ _ h2 rfl)⟩, P _ B H (Go.refl S.ex) (steady_lst (fun B2 H2 _ _ e3 => e3.k _ _ h2 rfl) h3)⟩
theorem rng_len (lo : Int) (n : Nat) : (rng lo n).length = n := by
  unfold rng
  rw [List.length_map, List.length_range]
theorem rng_get {lo : Int} {n i : Nat} {x : D} (h : (rng lo n)[i]? = some x) : i < n ∧ x = .int (lo + (i : Int)) := by
  unfold rng at h
  rw [List.getElem?_map] at h
  by_cases hi : i < n
  · rw [List.getElem?_range hi] at h
    exact ⟨hi, (Option.some.inj h).symm⟩
  · rw [List.getElem?_eq_none (by rw [List.length_range]; omega)] at h
    cases h
theorem steady_rng {B1 Hx : Hp} {lo : Int} {n : Nat} : Steady G (Itr lo n) B1 Hx (rng lo n) := fun i B H e1 e2 _ => by
  refine ⟨fun hi => by rw [rng_len] at hi; exact Nat.le_of_eq hi, fun x hx => ?_⟩
  obtain ⟨hi, rfl⟩ := rng_get hx
  refine ⟨hi, fun v H' ⟨e, f⟩ => ⟨B, by rw [e]; exact Go.refl e2, ?_⟩⟩
  rw [f]
  exact .int _
theorem do_rng1 (h : Does G E (relA G) as ρ rs) : Does G E (relI G) (iRng1 as) ρ (rs.bind fun
    | [.int n] => if -(2 ^ 62) ≤ n ∧ n < 2 ^ 62 then .ok (true, rng 0 n.toNat) else .bad
    | _ => .bad) := fun pn H0 B H σ S Q P => h pn H0 B H σ S _ (P.bind fun ds eds P vs B1 H1 g1 r1 => by
  split at P <;> first | exact P.elim | skip
  rename_i n
  split at P <;> first | exact P.elim | skip
  rename_i c
  cases r1 with
  | cons r1 r2 =>
    cases r1
    cases r2
    exact ⟨n, rfl, c.1, c.2, P _ B1 H1 g1 steady_rng⟩)
theorem do_rng2 (h : Does G E (relA G) as ρ rs) : Does G E (relI G) (iRng2 as) ρ (rs.bind fun
    | [.int m, .int n] => if -(2 ^ 62) ≤ m ∧ m < 2 ^ 62 ∧ -(2 ^ 62) ≤ n ∧ n < 2 ^ 62 then .ok (true, rng m (n - m).toNat) else .bad
    | _ => .bad) := fun pn H0 B H σ S Q P => h pn H0 B H σ S _ (P.bind fun ds eds P vs B1 H1 g1 r1 => by
  split at P <;> first | exact P.elim | skip
  rename_i m n
  split at P <;> first | exact P.elim | skip
  rename_i c
  cases r1 with
  | cons r1 r2 =>
    cases r1
    cases r2 with
    | cons r3 r4 =>
      cases r3
      cases r4
      exact ⟨m, n, rfl, c, P _ B1 H1 g1 steady_rng⟩)
theorem rngD_get {lo : Int} {n i : Nat} {x : D} (h : (rngD lo n)[i]? = some x) : i < n ∧ x = .int (lo - (i : Int)) := by
  unfold rngD at h
  rw [List.getElem?_map] at h
  by_cases hi : i < n
  · rw [List.getElem?_range hi] at h
    exact ⟨hi, (Option.some.inj h).symm⟩
  · rw [List.getElem?_eq_none (by rw [List.length_range]; omega)] at h
    cases h
theorem steady_rngD {B1 Hx : Hp} {lo : Int} {n : Nat} : Steady G (Itc lo (-1) n) B1 Hx (rngD lo n) := fun i B H e1 e2 _ => by
  refine ⟨fun hi => by unfold rngD at hi; rw [List.length_map, List.length_range] at hi; exact Nat.le_of_eq hi, fun x hx => ?_⟩
  obtain ⟨hi, rfl⟩ := rngD_get hx
  refine ⟨hi, fun v H' ⟨e, f⟩ => ⟨B, by rw [e]; exact Go.refl e2, ?_⟩⟩
  rw [f, show lo + (i : Int) * (-1) = lo - (i : Int) by omega]
  exact .int _
theorem do_rng3 (h : Does G E (relA G) as ρ rs) : Does G E (relI G) (iRng3 as) ρ (rs.bind fun
    | [.int m, .int n, .int c] => if c = -1 ∧ -(2 ^ 62) ≤ m ∧ m < 2 ^ 62 ∧ -(2 ^ 62) ≤ n ∧ n < 2 ^ 62 then .ok (true, rngD m (m - n).toNat) else .bad
    | _ => .bad) := fun pn H0 B H σ S Q P => h pn H0 B H σ S _ (P.bind fun ds eds P vs B1 H1 g1 r1 => by
  split at P <;> first | exact P.elim | skip
  rename_i m n c
  split at P <;> first | exact P.elim | skip
  rename_i cc
  obtain ⟨rfl, c1, c2, c3, c4⟩ := cc
  cases r1 with
  | cons r1 r2 =>
    cases r1
    cases r2 with
    | cons r3 r4 =>
      cases r3
      cases r4 with
      | cons r5 r6 =>
        cases r5
        cases r6
        exact ⟨m, n, -1, _, rfl, RgC.neg c1 c2 c3 c4, P _ B1 H1 g1 steady_rngD⟩)
theorem zipD_get : ∀ {xs ys : List D} {i : Nat} {z : D}, (zipD xs ys)[i]? = some z → ∃ x y, xs[i]? = some x ∧ ys[i]? = some y ∧ z = .tup [x, y]
  | [], ys, i, z, h => by
    unfold zipD at h
    cases h
  | x :: xs, [], i, z, h => by
    unfold zipD at h
    cases h
  | x :: xs, y :: ys, 0, z, h => ⟨x, y, rfl, rfl, (Option.some.inj h).symm⟩
  | x :: xs, y :: ys, i + 1, z, h => zipD_get (xs := xs) (ys := ys) (i := i) h
theorem zipD_end : ∀ {xs ys : List D} {i : Nat}, (zipD xs ys).length ≤ i → xs.length ≤ i ∨ ys.length ≤ i
  | [], ys, i, _ => .inl (Nat.zero_le _)
  | x :: xs, [], i, _ => .inr (Nat.zero_le _)
  | x :: xs, y :: ys, 0, h => absurd h (Nat.not_succ_le_zero _)
  | x :: xs, y :: ys, i + 1, h => (zipD_end (xs := xs) (ys := ys) (i := i) (Nat.le_of_succ_le_succ h)).imp Nat.succ_le_succ Nat.succ_le_succ
theorem steady_zip {B1 Hx : Hp} {a b : Addr} {us vs : List V} {xs ys : List D} (ha : B1 a = some (.lst us)) (hb : B1 b = some (.lst vs)) (r1 : Reps G B1 us xs) (r2 : Reps G B1 vs ys) : Steady G (Itz G.K a b) B1 Hx (zipD xs ys) := fun i B2 H2 e1 e2 _ => by
  have qa := sq_of (K := G.K) (e2 _ _ (e1 _ _ ha))
  have qb := sq_of (K := G.K) (e2 _ _ (e1 _ _ hb))
  refine ⟨fun hi => ⟨us, vs, qa, qb, by rw [r1.len, r2.len]; exact zipD_end (Nat.le_of_eq hi)⟩, fun z hz => ?_⟩
  obtain ⟨x, y, hx, hy, rfl⟩ := zipD_get hz
  obtain ⟨u, u1, u2⟩ := r1.get hx
  obtain ⟨v, v1, v2⟩ := r2.get hy
  refine ⟨⟨us, vs, u, v, qa, qb, u1, v1⟩, fun w H' ⟨T, u', v', ew, hT, eH, f1, f2⟩ => ?_⟩
  have h1 := Option.some.inj ((f1 _ qa).symm.trans u1)
  have h2 := Option.some.inj ((f2 _ qb).symm.trans v1)
  subst h1 h2 ew eH
  refine ⟨upd B2 T (.tup [u', v']), Go.new e2 hT, .tup (st_of upd_same) ?_⟩
  have ex := Ex.new (o := .tup [u', v']) (none_of_ex e2 hT)
  exact .cons ((u2.mono e1).mono ex) (.cons ((v2.mono e1).mono ex) .nil)
theorem steady_zipT {B1 Hx : Hp} {a b : Addr} {us vs : List V} {xs ys : List D} (ha : SqT G.K B1 a us) (hb : SqT G.K B1 b vs) (r1 : Reps G B1 us xs) (r2 : Reps G B1 vs ys) : Steady G (RZ.ItzT G.K a b) B1 Hx (zipD xs ys) := fun i B2 H2 e1 e2 _ => by
  have qa : SqT G.K H2 a us := ex_t e2 (ex_t e1 ha)
  have qb : SqT G.K H2 b vs := ex_t e2 (ex_t e1 hb)
  refine ⟨fun hi => ⟨us, vs, qa, qb, by rw [r1.len, r2.len]; exact zipD_end (Nat.le_of_eq hi)⟩, fun z hz => ?_⟩
  obtain ⟨x, y, hx, hy, rfl⟩ := zipD_get hz
  obtain ⟨u, u1, u2⟩ := r1.get hx
  obtain ⟨v, v1, v2⟩ := r2.get hy
  refine ⟨⟨us, vs, u, v, qa, qb, u1, v1⟩, fun w H' ⟨T, u', v', ew, hT, eH, f1, f2⟩ => ?_⟩
  have h1 := Option.some.inj ((f1 _ qa).symm.trans u1)
  have h2 := Option.some.inj ((f2 _ qb).symm.trans v1)
  subst h1 h2 ew eH
  refine ⟨upd B2 T (.tup [u', v']), Go.new e2 hT, .tup (st_of upd_same) ?_⟩
  have ex := Ex.new (o := .tup [u', v']) (none_of_ex e2 hT)
  exact .cons ((u2.mono e1).mono ex) (.cons ((v2.mono e1).mono ex) .nil)
theorem do_zip (h : Does G E (relA G) as ρ rs) : Does G E (relI G) (RZ.iZipA G.K as) ρ (rs.bind fun
    | [.lst xs, .lst ys] => .ok (true, zipD xs ys)
    | [.tup xs, .tup ys] => .ok (true, zipD xs ys)
    | _ => .bad) := fun pn H0 B H σ S Q P => h pn H0 B H σ S _ (P.bind fun ds eds P vs B1 H1 g1 r1 => by
  split at P <;> first | exact P.elim | skip
  · cases r1 with
    | cons r1 r2 =>
      cases r1 with
      | lst ha ra =>
        cases r2 with
        | cons r3 r4 =>
          cases r3 with
          | lst hb rb =>
            cases r4
            exact ⟨_, _, _, _, rfl, .inl ⟨sq_of (g1.bh _ _ ha), sq_of (g1.bh _ _ hb), P _ B1 H1 g1 (steady_zip ha hb ra rb)⟩⟩
  · cases r1 with
    | cons r1 r2 =>
      cases r1 with
      | tup ha ra =>
        cases r2 with
        | cons r3 r4 =>
          cases r3 with
          | tup hb rb =>
            cases r4
            exact ⟨_, _, _, _, rfl, .inr ⟨ex_t g1.bh ha, ex_t g1.bh hb, P _ B1 H1 g1 (steady_zipT ha hb ra rb)⟩⟩)
theorem enD_get : ∀ {k : Int} {xs : List D} {i : Nat} {z : D}, (enD k xs)[i]? = some z → ∃ x, xs[i]? = some x ∧ z = .tup [.int (k + (i : Int)), x]
  | k, [], i, z, h => by
    unfold enD at h
    cases h
  | k, x :: xs, 0, z, h => ⟨x, rfl, by rw [← Option.some.inj h]; show D.tup [.int k, x] = _; rw [show k + ((0 : Nat) : Int) = k by omega]⟩
  | k, x :: xs, i + 1, z, h => by
    obtain ⟨y, h1, h2⟩ := enD_get (k := k + 1) (xs := xs) (i := i) h
    exact ⟨y, h1, by rw [h2, show k + 1 + (i : Int) = k + ((i + 1 : Nat) : Int) by omega]⟩
theorem enD_len : ∀ {k : Int} {xs : List D}, (enD k xs).length = xs.length
  | _, [] => rfl
  | k, x :: xs => congrArg Nat.succ (enD_len (k := k + 1) (xs := xs))
theorem steady_enum {S : Hp → List V → Prop} {k : Int} {B1 Hx : Hp} {vs : List V} {xs : List D} (hS : ∀ B H, Ex B1 B → Ex B H → S H vs) (r : Reps G B1 vs xs) : Steady G (ItE S k) B1 Hx (enD k xs) := fun i B2 H2 e1 e2 _ => by
  have q := hS B2 H2 e1 e2
  refine ⟨fun hi => ⟨vs, q, by rw [r.len, ← enD_len (k := k)]; exact hi⟩, fun z hz => ?_⟩
  obtain ⟨x, hx, rfl⟩ := enD_get hz
  obtain ⟨u, u1, u2⟩ := r.get hx
  refine ⟨⟨vs, u, q, u1⟩, fun w H' ⟨T, u', ew, hT, eH, f⟩ => ?_⟩
  have h1 := Option.some.inj ((f _ q).symm.trans u1)
  subst h1 ew eH
  refine ⟨upd B2 T (.tup [.int (k + (i : Int)), u']), Go.new e2 hT, .tup (st_of upd_same) ?_⟩
  have ex := Ex.new (o := .tup [.int (k + (i : Int)), u']) (none_of_ex e2 hT)
  exact .cons (.int _) (.cons ((u2.mono e1).mono ex) .nil)
theorem do_enum (h : Does G E (relA G) as ρ rs) : Does G E (relI G) (iEnumA G.K as) ρ (rs.bind fun
    | [.lst xs] => .ok (true, enD 0 xs)
    | [.tup xs] => .ok (true, enD 0 xs)
    | _ => .bad) := fun pn H0 B H σ S Q P => h pn H0 B H σ S _ (P.bind fun ds eds P vs B1 H1 g1 r1 => by
  split at P <;> first | exact P.elim | skip
  · cases r1 with
    | cons r1 r2 =>
      cases r1 with
      | lst ha ra =>
        cases r2
        exact ⟨_, _, rfl, .inl ⟨sq_of (g1.bh _ _ ha), P _ B1 H1 g1 (steady_enum (fun B H e1 e2 => sq_of (e2 _ _ (e1 _ _ ha))) ra)⟩⟩
  · cases r1 with
    | cons r1 r2 =>
      cases r1 with
      | tup ha ra =>
        cases r2
        exact ⟨_, _, rfl, .inr ⟨ex_t g1.bh ha, P _ B1 H1 g1 (steady_enum (fun B H e1 e2 => ex_t e2 (ex_t e1 ha)) ra)⟩⟩)
theorem do_enumK {ks : TA} {rk : R (List D)} (h : Does G E (relA G) as ρ rs) (h2 : Does G E (relA G) ks ρ rk) : Does G E (relI G) (iEnumK G.K as ks) ρ (rs.bind fun xs => rk.bind fun ks => enumKF xs ks) := fun pn H0 B H σ S Q P => h pn H0 B H σ S _ (P.bind fun ds eds P vs B1 H1 g1 r1 =>
  h2 pn H0 B1 H1 σ (S.go g1) _ ((P.go early_I g1).bind fun es ees P ws B2 H2 g2 r2 => by
  replace P := P.go (early_I (H0 := H0)) g2
  obtain ⟨xs, k, rfl, rfl⟩ : ∃ xs k, ds = [.lst xs] ∧ es = [.int k] := by
    rcases ds with _ | ⟨d, _ | ⟨d2, l⟩⟩
    · exact P.elim
    · cases d with
      | lst xs =>
        rcases es with _ | ⟨d, l⟩
        · exact P.elim
        · cases d with
          | int k =>
            cases l with
            | nil => exact ⟨xs, k, rfl, rfl⟩
            | cons _ _ => exact P.elim
          | _ => exact P.elim
      | _ => exact P.elim
    · cases d <;> exact P.elim
  have P : Post G (E σ) (relI G H0) B2 H2 (if -(2 ^ 62) ≤ k ∧ k < 2 ^ 62 then .ok (true, enD k xs) else .bad) Q := P
  split at P <;> first | exact P.elim | skip
  rename_i c
  cases r1 with
  | cons r1 q1 =>
    cases r1 with
    | lst ha ra =>
      cases q1
      cases r2 with
      | cons r2 q2 =>
        cases r2
        cases q2
        exact ⟨_, _, k, rfl, rfl, by omega, by omega, sq_of (g2.bh _ _ (g2.bb _ _ ha)), P _ B2 H2 (Go.refl g2.bh) (steady_enum (fun B H e1 e2 => sq_of (e2 _ _ (e1 _ _ (g2.bb _ _ ha)))) (ra.mono g2.bb))⟩))
theorem do_rngv {te : TE} {r : R RV} (h : Does G E (relV G) te ρ r) : Does G E (relI G) (iRngV te) ρ (r.bind fun x => x.rd.bind fun
    | .rng lo hi => if -(2 ^ 62) ≤ lo ∧ lo < 2 ^ 62 ∧ -(2 ^ 62) ≤ hi ∧ hi < 2 ^ 62 then .ok (true, rng lo (hi - lo).toNat) else .bad
    | _ => .bad) := fun pn H0 B H σ S Q P => h pn H0 B H σ S _ (P.bind fun x ex P v B1 H1 g1 r1 => by
  cases e : x.rd with
  | err a b => exact (rd_noerr e).elim
  | bad => rw [e] at P; exact P.elim
  | ok d =>
    rw [e, R.bind_ok] at P
    split at P <;> first | exact P.elim | skip
    rename_i lo hi
    split at P <;> first | exact P.elim | skip
    rename_i c
    obtain ⟨a, rfl, e1⟩ := (r1.rd e).rng g1.bh
    exact ⟨a, lo, hi, rfl, e1, c, P _ B1 H1 g1 steady_rng⟩)
theorem steady_zr {B1 Hx : Hp} {lo : Int} {n : Nat} {b : Addr} {vs : List V} {ys : List D} (hb : B1 b = some (.lst vs)) (r : Reps G B1 vs ys) (hn : n ≤ ys.length) : Steady G (Izr G.K lo n b) B1 Hx (zipD (rng lo n) ys) := fun i B2 H2 e1 e2 _ => by
  have qb := sq_of (K := G.K) (e2 _ _ (e1 _ _ hb))
  refine ⟨fun hi => ?_, fun z hz => ?_⟩
  · have q := zipD_end (Nat.le_of_eq hi)
    rw [rng_len] at q
    show n ≤ i
    omega
  · obtain ⟨x, y, hx, hy, rfl⟩ := zipD_get hz
    obtain ⟨hi, rfl⟩ := rng_get hx
    obtain ⟨v, v1, v2⟩ := r.get hy
    refine ⟨⟨hi, vs, v, qb, v1⟩, fun w H' ⟨T, v', ew, hT, eH, f⟩ => ?_⟩
    have h2 := Option.some.inj ((f _ qb).symm.trans v1)
    subst h2 ew eH
    refine ⟨upd B2 T (.tup [.int (lo + (i : Int)), v']), Go.new e2 hT, .tup (st_of upd_same) ?_⟩
    have ex := Ex.new (o := .tup [.int (lo + (i : Int)), v']) (none_of_ex e2 hT)
    exact .cons (.int _) (.cons ((v2.mono e1).mono ex) .nil)
theorem do_zipR (h : Does G E (relA G) as ρ rs) : Does G E (relI G) (iZr G.K as) ρ (rs.bind zipRF) := fun pn H0 B H σ S Q P => h pn H0 B H σ S _ (P.bind fun ds eds P vs B1 H1 g1 r1 => by
  unfold zipRF at P
  split at P <;> first | exact P.elim | skip
  rename_i lo hi ys
  split at P <;> first | exact P.elim | skip
  rename_i c
  cases r1 with
  | cons r1 r2 =>
    cases r1 with
    | rng ha =>
      cases r2 with
      | cons r3 r4 =>
        cases r3 with
        | lst hb rb =>
          cases r4
          exact ⟨_, _, lo, hi, _, rfl, g1.bh _ _ ha, c.1, sq_of (g1.bh _ _ hb), by rw [rb.len]; exact c.2, P _ B1 H1 g1 (steady_zr hb rb c.2)⟩)
/-! ### targets -/
def TgS (G : Gm) (g : TG) (js : List Nat) (x : D) (ρ : En) (r : R En) : Prop := ∀ ρ', r = .ok ρ' → ∀ pn H0 B H σ v, Slots G pn H0 B H σ ρ → Rep G B v x → ∀ Q : L2.St → Hp → Prop, (∀ σ', Slots G pn H0 B H σ' ρ' → σ'.length = σ.length → (∀ i, i ∉ js → σ'[i]? = σ[i]?) → (∀ B2 H2, Ex B B2 → Slots G pn H0 B2 H2 σ ρ → Slots G pn H0 B2 H2 σ' ρ') → Q σ' H) → g v σ H Q
def TgsS (G : Gm) (g : TGs) (js : List Nat) (xs : List D) (ρ : En) (r : R En) : Prop := ∀ ρ', r = .ok ρ' → ∀ pn H0 B H σ vs, Slots G pn H0 B H σ ρ → Reps G B vs xs → ∀ Q : L2.St → Hp → Prop, (∀ σ', Slots G pn H0 B H σ' ρ' → σ'.length = σ.length → (∀ i, i ∉ js → σ'[i]? = σ[i]?) → (∀ B2 H2, Ex B B2 → Slots G pn H0 B2 H2 σ ρ → Slots G pn H0 B2 H2 σ' ρ') → Q σ' H) → g vs σ H Q
theorem tg_name {x : D} : TgS G (gName i) [i] x ρ (.ok (ρ.set i (some (.d x)))) := fun ρ' e pn H0 B H σ v S r Q q => by
  cases e
  exact q _ (S.setD r) (List.length_set ..) (fun j hj => List.getElem?_set_ne (fun e => hj (by rw [e]; exact List.mem_singleton.mpr rfl))) fun B2 H2 ex S2 => S2.setD (r.mono ex)
theorem tgs_nil {xs : List D} : TgsS G gNil [] xs ρ (match xs with | [] => .ok ρ | _ => .bad) := fun ρ' e pn H0 B H σ vs S r Q q => by
  split at e <;> cases e
  cases r
  exact ⟨rfl, q σ S rfl (fun _ _ => rfl) fun _ _ _ s => s⟩
theorem tgs_cons {g : TG} {gs : TGs} {js ks : List Nat} {xs : List D} {fg : D → En → R En} {fgs : List D → En → R En} (h1 : ∀ x ρ, TgS G g js x ρ (fg x ρ)) (h2 : ∀ xs ρ, TgsS G gs ks xs ρ (fgs xs ρ)) :
    TgsS G (gCons g gs) (js ++ ks) xs ρ (match xs with | x :: r => (fg x ρ).bind fun ρ' => fgs r ρ' | [] => .bad) := fun ρ' e pn H0 B H σ vs S r Q q => by
  cases r with
  | nil => cases e
  | cons r1 r2 =>
    rename_i v vs x xs
    cases e1 : fg x ρ with
    | ok ρ1 =>
      simp only [e1, R.bind_ok] at e
      refine ⟨_, _, rfl, ?_⟩
      refine h1 x ρ ρ1 e1 pn H0 B H σ _ S r1 _ fun σ1 S1 l1 k1 m1 => ?_
      exact h2 xs ρ1 ρ' e pn H0 B H σ1 _ S1 r2 _ fun σ2 S2 l2 k2 m2 => q σ2 S2 (l2.trans l1) (fun i hi => (k2 i fun z => hi (List.mem_append_right _ z)).trans (k1 i fun z => hi (List.mem_append_left _ z))) fun B2 H2 ex s => m2 B2 H2 ex (m1 B2 H2 ex s)
    | err a b => simp only [e1, R.bind_err] at e; cases e
    | bad => simp only [e1, R.bind_bad] at e; cases e
theorem tg_tup {gs : TGs} {n : Nat} {js : List Nat} {x : D} {fgs : List D → En → R En} (h : ∀ xs ρ, TgsS G gs js xs ρ (fgs xs ρ)) : TgS G (gTup G.K n gs) js x ρ (match x with | .tup ds => if ds.length = n then fgs ds ρ else .bad | _ => .bad) := fun ρ' e pn H0 B H σ v S r Q q => by
  split at e <;> first | (cases e; done) | skip
  split at e <;> first | (cases e; done) | skip
  rename_i hn
  cases r with
  | tup s r => exact ⟨_, _, rfl, ex_t S.ex s, r.len.trans hn, h _ ρ ρ' e pn H0 B H σ _ S r Q q⟩
theorem tg_lst {gs : TGs} {n : Nat} {js : List Nat} {x : D} {fgs : List D → En → R En} (h : ∀ xs ρ, TgsS G gs js xs ρ (fgs xs ρ)) : TgS G (gLst G.K n gs) js x ρ (match x with | .lst ds => if ds.length = n then fgs ds ρ else .bad | _ => .bad) := fun ρ' e pn H0 B H σ v S r Q q => by
  split at e <;> first | (cases e; done) | skip
  split at e <;> first | (cases e; done) | skip
  rename_i hn
  cases r with
  | lst s r => exact ⟨_, _, rfl, sq_of (S.ex _ _ s), r.len.trans hn, h _ ρ ρ' e pn H0 B H σ _ S r Q q⟩
/-! ### comprehensions -/
theorem wipeE_length (ρ : En) : ∀ vs : List Nat, (wipeE ρ vs).length = ρ.length
  | [] => rfl
  | v :: vs => by unfold wipeE; rw [List.length_set, wipeE_length ρ vs]
theorem wipe_get {σ : L2.St} {i : Nat} : ∀ {vs : List Nat}, i ∉ vs → (wipe σ vs)[i]? = σ[i]?
  | [], _ => rfl
  | v :: vs, h => by
    unfold wipe
    rw [List.getElem?_set_ne (fun e => h (by rw [e]; exact List.mem_cons_self)), wipe_get fun z => h (List.mem_cons_of_mem _ z)]
theorem wipe_in {σ : L2.St} {i : Nat} : ∀ {vs : List Nat}, i ∈ vs → i < σ.length → (wipe σ vs)[i]? = some none
  | [], h, _ => by cases h
  | v :: vs, h, hl => by
    unfold wipe
    by_cases e : v = i
    · subst e
      rw [List.getElem?_set_self (by rw [wipe_length]; exact hl)]
    · rw [List.getElem?_set_ne e]
      exact wipe_in ((List.mem_cons.mp h).resolve_left fun z => e z.symm) hl
theorem wipe_same {σ σ' : L2.St} {vs : List Nat} (hl : σ'.length = σ.length) (h : ∀ i, i ∉ vs → σ'[i]? = σ[i]?) : wipe σ' vs = wipe σ vs := by
  apply List.ext_getElem?
  intro i
  by_cases c : i ∈ vs
  · by_cases hi : i < σ.length
    · rw [wipe_in c hi, wipe_in c (by rw [hl]; exact hi)]
    · rw [List.getElem?_eq_none (by rw [wipe_length]; omega), List.getElem?_eq_none (by rw [wipe_length]; omega)]
  · rw [wipe_get c, wipe_get c, h i c]
theorem wipeE_some {s : SV} {i : Nat} : ∀ {vs : List Nat}, (wipeE ρ vs)[i]? = some (some s) → ρ[i]? = some (some s) ∧ i ∉ vs
  | [], h => ⟨h, by simp⟩
  | v :: vs, h => by
    unfold wipeE at h
    by_cases hi : v = i
    · subst hi
      by_cases hv : v < (wipeE ρ vs).length
      · rw [List.getElem?_set_self hv] at h
        cases h
      · rw [List.getElem?_eq_none (by rw [List.length_set]; omega)] at h
        cases h
    · rw [List.getElem?_set_ne hi] at h
      obtain ⟨h1, h2⟩ := wipeE_some h
      exact ⟨h1, fun z => (List.mem_cons.mp z).elim (fun e => hi e.symm) h2⟩
theorem Slots.wipe {H0 B H : Hp} {σ : L2.St} (S : Slots G pn H0 B H σ ρ) (vs : List Nat) : Slots G pn H0 B H (L2.wipe σ vs) (wipeE ρ vs) := by
  obtain ⟨ow, S⟩ := S
  refine ⟨ow, by rw [wipe_length, wipeE_length]; exact S.len, S.ex0, S.ex, fun i s h => ?_, fun i j si sj a h1 h2 => ?_, S.tb⟩
  · obtain ⟨h1, h2⟩ := wipeE_some h
    obtain ⟨v, h3, h4⟩ := S.ok i s h1
    exact ⟨v, by rw [wipe_get h2]; exact h3, h4⟩
  · obtain ⟨k1, n1⟩ := wipeE_some h1
    obtain ⟨k2, n2⟩ := wipeE_some h2
    exact S.ap i j si sj a k1 k2
/-- only the slots' names for what is forgotten -/
theorem Slots.kill {H0 B H : Hp} {σ : L2.St} (S : Slots G pn H0 B H σ ρ) : ∀ vs : List Nat, Slots G pn H0 B H σ (wipeE ρ vs)
  | [] => S
  | v :: vs => (Slots.kill S vs).drop v
theorem lcF_ok {step : D → R (Option D)} : ∀ {xs ds : List D}, lcF step xs = .ok ds → ∃ os : List (Option D), os.length = xs.length ∧ (∀ (i : Nat) (x : D), xs[i]? = some x → ∃ o, os[i]? = some o ∧ step x = .ok o) ∧ ds = os.filterMap id
  | [], ds, h => by
    cases h
    exact ⟨[], rfl, fun i x h => by simp at h, rfl⟩
  | x :: r, ds, h => by
    unfold lcF at h
    cases e : step x with
    | ok o =>
      rw [e, R.bind_ok] at h
      cases e2 : lcF step r with
      | ok es =>
        rw [e2, R.bind_ok] at h
        cases h
        obtain ⟨os, h1, h2, h3⟩ := lcF_ok e2
        refine ⟨o :: os, by rw [List.length_cons, List.length_cons, h1], fun i y hy => ?_, ?_⟩
        · cases i with
          | zero =>
            cases (Option.some.inj hy)
            exact ⟨o, rfl, e⟩
          | succ i => exact h2 i y hy
        · rw [h3]
          cases o <;> rfl
      | err a b => rw [e2] at h; cases h
      | bad => rw [e2] at h; cases h
    | err a b => rw [e] at h; cases h
    | bad => rw [e] at h; cases h
theorem quiet_ok {α : Type} {r : R α} {a : α} (h : r.quiet = .ok a) : r = .ok a := by
  cases r <;> first | exact h | cases h
theorem lcF_noerr {step : D → R (Option D)} (hq : ∀ x a b, step x ≠ .err a b) : ∀ {xs : List D} {a : Nat} {b : Option (Str × D)}, lcF step xs ≠ .err a b
  | [], a, b => fun h => by cases h
  | x :: r, a, b => fun h => by
    unfold lcF at h
    cases e : step x with
    | ok o =>
      rw [e, R.bind_ok] at h
      cases e2 : lcF step r with
      | ok es => rw [e2] at h; cases h
      | err a b => exact lcF_noerr hq e2
      | bad => rw [e2] at h; cases h
    | err a b => exact hq _ _ _ e
    | bad => rw [e] at h; cases h
theorem do_lc {wi : TI} {ri : R (Bool × List D)} {g : TG} {js vs : List Nat} {tt : TT} {te : TE} {fg : D → En → R En} {ft : En → R Bool} {fe : En → R RV} (hi : Does G E (relI G) wi ρ ri) (hg : ∀ x ρ, TgS G g js x ρ (fg x ρ)) (hjs : ∀ j, j ∈ js → j ∈ vs)
    (ht : ∀ ρ, Does G E0 relT tt ρ (ft ρ)) (he : ∀ ρ, Does G E0 (relV G) te ρ (fe ρ)) :
    Does G E (relV G) (tLc wi g tt te vs) ρ (ri.bind fun xs => if xs.2.length ≤ 1000000 then (lcF (fun x => ((fg x (wipeE ρ vs)).bind fun ρ2 => (ft ρ2).bind fun k => if k then (fe ρ2).bind fun y => y.toD.bind fun d => .ok (some d) else .ok none).quiet) xs.2).bind fun ds => .ok (ov (.lst ds)) else .bad) := fun pn H0 B H σ S Q P =>
  hi pn H0 B H σ S _ (P.bind fun xs exs P J B1 H1 g1 st => by
    by_cases hz : xs.2.length ≤ 1000000
    rotate_left
    · rw [if_neg hz] at P
      exact P.elim
    rw [if_pos hz] at P
    cases hl : lcF (fun x => ((fg x (wipeE ρ vs)).bind fun ρ2 => (ft ρ2).bind fun k => if k then (fe ρ2).bind fun y => y.toD.bind fun d => .ok (some d) else .ok none).quiet) xs.2 with
    | bad => rw [hl] at P; exact P.elim
    | err a b =>
      exfalso
      refine lcF_noerr (fun x a b h => ?_) hl
      generalize ((fg x (wipeE ρ vs)).bind fun ρ2 => (ft ρ2).bind fun k => if k then (fe ρ2).bind fun y => y.toD.bind fun d => R.ok (some d) else R.ok none) = z at h
      cases z <;> cases h
    | ok ds =>
      rw [hl, R.bind_ok] at P
      obtain ⟨os, l1, l2, l3⟩ := lcF_ok hl
      obtain ⟨fl, xs⟩ := xs
      simp only at hz l1 l2 st
      intro Dl hD
      have S1 := (S.go g1).wipe vs
      have hB : B1 Dl = none := none_of_ex g1.bh hD
      have hH : H Dl = none := g1.hx.n _ hD
      refine ⟨fun i m H' => m = xs.length - i ∧ i ≤ xs.length ∧ ∃ B' us, Go G B H B' H' ∧ Ex B1 B' ∧ Go G B1 H1 B' H' ∧ B' Dl = none ∧ H' Dl = some (.lst us) ∧ Reps G B' us ((os.take i).filterMap id),
        ⟨_, rfl, Nat.zero_le _, B1, [], g1.trans (Go.newO g1.bh hD), Ex.refl _, Go.newO g1.bh hD, hB, upd_same, .nil⟩, ?_⟩
      rintro i m H' ⟨rfl, hi, B', us, g2, e1, g1', hn, hl, rs⟩
      have exs : ExT G (if fl then H0 else H1) H' := by
        cases fl with
        | true => exact S.ex0.trans g2.hx
        | false => exact g1'.hx
      by_cases hlt : i < xs.length
      · obtain ⟨hgo, hy⟩ := (st i B' H' e1 g2.bh exs).2 xs[i] (List.getElem?_eq_getElem hlt)
        obtain ⟨o, ho, hst⟩ := l2 i _ (List.getElem?_eq_getElem hlt)
        have hst := quiet_ok hst
        have htake : (os.take (i + 1)).filterMap id = (os.take i).filterMap id ++ o.toList := by
          rw [List.take_add_one, ho, List.filterMap_append]
          clear hst ho
          cases o <;> rfl
        cases e2 : fg xs[i] (wipeE ρ vs) with
        | err a b => rw [e2] at hst; cases hst
        | bad => rw [e2] at hst; cases hst
        | ok ρ2 =>
        rw [e2, R.bind_ok] at hst
        cases e3 : ft ρ2 with
        | err a b => rw [e3] at hst; cases hst
        | bad => rw [e3] at hst; cases hst
        | ok k =>
        rw [e3, R.bind_ok] at hst
        refine .inr ⟨hgo, fun H2 => ∃ B' us, Go G B H B' H2 ∧ Ex B1 B' ∧ Go G B1 H1 B' H2 ∧ B' Dl = none ∧ H2 Dl = some (.lst us) ∧ Reps G B' us ((os.take (i + 1)).filterMap id), fun H2 h => ⟨_, by omega, rfl, hlt, h⟩, fun v H2 hv => ?_⟩
        obtain ⟨B2, g3, rv⟩ := hy v H2 hv
        refine hg _ _ ρ2 e2 pn H0 B2 H2 _ v (S1.go (g1'.trans g3)) rv _ fun σ3 S3 l3 e4 _ => ?_
        refine ⟨wipe_same (l3.trans (wipe_length _ _)) fun j hj => (e4 j fun z => hj (hjs j z)).trans (wipe_get hj), ?_⟩
        refine ht ρ2 pn H0 B2 H2 σ3 S3 _ ?_
        rw [e3]
        intro b B3 H3 g4 hb
        cases hb
        have g5 := g3.trans g4
        cases k with
        | true =>
          refine iteT ?_
          simp only [if_true] at hst
          cases e5 : fe ρ2 with
          | err a b => rw [e5] at hst; cases hst
          | bad => rw [e5] at hst; cases hst
          | ok y =>
          rw [e5, R.bind_ok] at hst
          cases e6 : y.toD with
          | err a b => exact (toD_noerr e6).elim
          | bad => rw [e6] at hst; cases hst
          | ok d =>
          rw [e6, R.bind_ok] at hst
          cases hst
          refine he ρ2 pn H0 B3 H3 σ3 (S3.go g4) _ ?_
          rw [e5]
          intro w B4 H4 g6 ry
          cases y with
          | vw q => cases e6
          | sv s =>
          cases e6
          obtain ⟨B5, a1, a2, a3, a4⟩ := ry.toD g6.bh
          have g6 : Go G B3 H3 B5 H4 := ⟨g6.bb.trans a2, a3, g6.hx, fun a o q1 q2 => a4 a o q1 (g6.fr a o q1 q2)⟩
          have g7 := g5.trans g6
          have hl4 := g7.hh _ _ hl
          have hz4 : us.length < sizeLine := by
            rw [rs.len]
            have h1 := List.length_filterMap_le id (os.take i)
            rw [List.length_take] at h1
            refine Nat.lt_of_le_of_lt h1 (Nat.lt_of_le_of_lt (Nat.min_le_left _ _) ?_)
            exact Nat.lt_of_lt_of_le (Nat.lt_of_lt_of_le hlt hz) (by decide)
          have hn4 : B5 Dl = none := g7.fr _ _ hl hn
          have exU : Ex B5 (upd H4 Dl (.lst (us ++ [w]))) := fun a u q => by rw [upd_ne (ne_of_none q hn4)]; exact g7.bh a u q
          have hhU : ∀ {Hx : Hp}, ExT G Hx H4 → Hx Dl = none → ExT G Hx (upd H4 Dl (.lst (us ++ [w]))) := fun ex hx => updT ex hx hl4
          refine ⟨us, hl4, hz4, B5, us ++ [w], ?_, e1.trans g7.bb, ?_, hn4, upd_same, ?_⟩
          · have gg := g2.trans g7
            exact ⟨gg.bb, exU, hhU gg.hx hH, gg.fr⟩
          · have gg := g1'.trans g7
            exact ⟨gg.bb, exU, hhU gg.hx hD, gg.fr⟩
          · rw [htake]
            exact (rs.mono g7.bb).app (.cons a1 .nil)
        | false =>
          refine iteF ?_
          simp only [Bool.false_eq_true, if_false] at hst
          cases hst
          refine ⟨B3, us, g2.trans g5, e1.trans g5.bb, g1'.trans g5, g5.fr _ _ hl hn, g5.hh _ _ hl, ?_⟩
          rw [htake]
          show Reps G B3 us (_ ++ [])
          rw [List.append_nil]
          exact rs.mono g5.bb
      · refine .inl ⟨(st i B' H' e1 g2.bh exs).1 (by show xs.length = i; omega), ?_⟩
        have hil : i = xs.length := by omega
        subst hil
        rw [← l1, List.take_length, ← l3] at rs
        exact P _ B' H' g2 (.new hH hn hl (.lst rs)))
/-! dict comprehensions -/
theorem dcF_ok {step : D → R (Option (Key × D))} : ∀ {xs : List D} {ds : List (Key × D)}, dcF step xs = .ok ds → ∃ os : List (Option (Key × D)), os.length = xs.length ∧ (∀ (i : Nat) (x : D), xs[i]? = some x → ∃ o, os[i]? = some o ∧ step x = .ok o) ∧ ds = os.filterMap id
  | [], ds, h => by
    cases h
    exact ⟨[], rfl, fun i x h => by simp at h, rfl⟩
  | x :: r, ds, h => by
    unfold dcF at h
    cases e : step x with
    | ok o =>
      rw [e, R.bind_ok] at h
      cases e2 : dcF step r with
      | ok es =>
        rw [e2, R.bind_ok] at h
        cases h
        obtain ⟨os, h1, h2, h3⟩ := dcF_ok e2
        refine ⟨o :: os, by rw [List.length_cons, List.length_cons, h1], fun i y hy => ?_, ?_⟩
        · cases i with
          | zero =>
            cases (Option.some.inj hy)
            exact ⟨o, rfl, e⟩
          | succ i => exact h2 i y hy
        · rw [h3]
          cases o <;> rfl
      | err a b => rw [e2] at h; cases h
      | bad => rw [e2] at h; cases h
    | err a b => rw [e] at h; cases h
    | bad => rw [e] at h; cases h
theorem dcF_noerr {step : D → R (Option (Key × D))} (hq : ∀ x a b, step x ≠ .err a b) : ∀ {xs : List D} {a : Nat} {b : Option (Str × D)}, dcF step xs ≠ .err a b
  | [], a, b => fun h => by cases h
  | x :: r, a, b => fun h => by
    unfold dcF at h
    cases e : step x with
    | ok o =>
      rw [e, R.bind_ok] at h
      cases e2 : dcF step r with
      | ok es => rw [e2] at h; cases h
      | err a b => exact dcF_noerr hq e2
      | bad => rw [e2] at h; cases h
    | err a b => exact hq _ _ _ e
    | bad => rw [e] at h; cases h
theorem setD_len : ∀ {kvs : Kd} {k : Key} {x : D}, (setD kvs k x).length = kvs.length
  | [], _, _ => rfl
  | _ :: r, k, x => congrArg Nat.succ (setD_len (kvs := r))
theorem putD_len {kvs : Kd} {k : Key} {x : D} : (putD kvs k x).length ≤ kvs.length + 1 := by
  unfold putD
  split
  · rw [setD_len]; omega
  · rw [List.length_append]; exact Nat.le_refl _
theorem mergeD_len : ∀ {more kvs : Kd}, (mergeD kvs more).length ≤ kvs.length + more.length
  | [], kvs => Nat.le_refl _
  | p :: r, kvs => by
    have h1 := mergeD_len (more := r) (kvs := putD kvs p.1 p.2)
    have h2 := @putD_len kvs p.1 p.2
    show (mergeD (putD kvs p.1 p.2) r).length ≤ _
    rw [List.length_cons]
    omega
theorem mergeD_app {a b kvs : Kd} : mergeD kvs (a ++ b) = mergeD (mergeD kvs a) b := by
  unfold mergeD
  rw [List.foldl_append]
theorem key_kV {B : Hp} {w : V} {d : D} {q : Key} (r : Rep G B w d) (h : keyD d = some q) : w = kV q := by
  cases r <;> first | (cases h; done) | skip
  · cases h; rfl
  · cases h; rfl
theorem do_dcm {wi : TI} {ri : R (Bool × List D)} {g : TG} {js vs : List Nat} {tt : TT} {tk te : TE} {fg : D → En → R En} {ft : En → R Bool} {fk fe : En → R RV} (hi : Does G E (relI G) wi ρ ri) (hg : ∀ x ρ, TgS G g js x ρ (fg x ρ)) (hjs : ∀ j, j ∈ js → j ∈ vs)
    (ht : ∀ ρ, Does G E0 relT tt ρ (ft ρ)) (hk : ∀ ρ, Does G E0 (relV G) tk ρ (fk ρ)) (he : ∀ ρ, Does G E0 (relV G) te ρ (fe ρ)) :
    Does G E (relV G) (tDc wi g tt tk te vs) ρ (ri.bind fun xs => if xs.2.length ≤ 1000000 then (dcF (fun x => ((fg x (wipeE ρ vs)).bind fun ρ2 => (ft ρ2).bind fun b => if b then (fk ρ2).bind fun y => y.toD.bind fun d => (R.ofO (keyD d)).bind fun q => (fe ρ2).bind fun z => z.toD.bind fun d2 => .ok (some (q, d2)) else .ok none).quiet) xs.2).bind fun kvs => .ok (ov (.dk (mergeD [] kvs))) else .bad) := fun pn H0 B H σ S Q P =>
  hi pn H0 B H σ S _ (P.bind fun xs exs P J B1 H1 g1 st => by
    by_cases hz : xs.2.length ≤ 1000000
    rotate_left
    · rw [if_neg hz] at P
      exact P.elim
    rw [if_pos hz] at P
    cases hl : dcF (fun x => ((fg x (wipeE ρ vs)).bind fun ρ2 => (ft ρ2).bind fun b => if b then (fk ρ2).bind fun y => y.toD.bind fun d => (R.ofO (keyD d)).bind fun q => (fe ρ2).bind fun z => z.toD.bind fun d2 => .ok (some (q, d2)) else .ok none).quiet) xs.2 with
    | bad => rw [hl] at P; exact P.elim
    | err a b =>
      exfalso
      refine dcF_noerr (fun x a b h => ?_) hl
      generalize ((fg x (wipeE ρ vs)).bind fun ρ2 => (ft ρ2).bind fun b => if b then (fk ρ2).bind fun y => y.toD.bind fun d => (R.ofO (keyD d)).bind fun q => (fe ρ2).bind fun z => z.toD.bind fun d2 => R.ok (some (q, d2)) else R.ok none) = z at h
      cases z <;> cases h
    | ok ds =>
      rw [hl, R.bind_ok] at P
      obtain ⟨os, l1, l2, l3⟩ := dcF_ok hl
      obtain ⟨fl, xs⟩ := xs
      simp only at hz l1 l2 st
      intro Dl hD
      have S1 := (S.go g1).wipe vs
      have hB : B1 Dl = none := none_of_ex g1.bh hD
      have hH : H Dl = none := g1.hx.n _ hD
      refine ⟨fun i m H' => m = xs.length - i ∧ i ≤ xs.length ∧ ∃ B' kv, Go G B H B' H' ∧ Ex B1 B' ∧ Go G B1 H1 B' H' ∧ B' Dl = none ∧ H' Dl = some (.dK kv) ∧ RepK G B' kv (mergeD [] ((os.take i).filterMap id)),
        ⟨_, rfl, Nat.zero_le _, B1, [], g1.trans (Go.newO g1.bh hD), Ex.refl _, Go.newO g1.bh hD, hB, upd_same, .nil⟩, ?_⟩
      rintro i m H' ⟨rfl, hi, B', kv, g2, e1, g1', hn, hl, rs⟩
      have exs : ExT G (if fl then H0 else H1) H' := by
        cases fl with
        | true => exact S.ex0.trans g2.hx
        | false => exact g1'.hx
      by_cases hlt : i < xs.length
      · obtain ⟨hgo, hy⟩ := (st i B' H' e1 g2.bh exs).2 xs[i] (List.getElem?_eq_getElem hlt)
        obtain ⟨o, ho, hst⟩ := l2 i _ (List.getElem?_eq_getElem hlt)
        have hst := quiet_ok hst
        have htake : mergeD [] ((os.take (i + 1)).filterMap id) = mergeD (mergeD [] ((os.take i).filterMap id)) o.toList := by
          rw [← mergeD_app, List.take_add_one, ho, List.filterMap_append]
          clear hst ho
          cases o <;> rfl
        cases e2 : fg xs[i] (wipeE ρ vs) with
        | err a b => rw [e2] at hst; cases hst
        | bad => rw [e2] at hst; cases hst
        | ok ρ2 =>
        rw [e2, R.bind_ok] at hst
        cases e3 : ft ρ2 with
        | err a b => rw [e3] at hst; cases hst
        | bad => rw [e3] at hst; cases hst
        | ok k =>
        rw [e3, R.bind_ok] at hst
        refine .inr ⟨hgo, fun H2 => ∃ B' kv, Go G B H B' H2 ∧ Ex B1 B' ∧ Go G B1 H1 B' H2 ∧ B' Dl = none ∧ H2 Dl = some (.dK kv) ∧ RepK G B' kv (mergeD [] ((os.take (i + 1)).filterMap id)), fun H2 h => ⟨_, by omega, rfl, hlt, h⟩, fun v H2 hv => ?_⟩
        obtain ⟨B2, g3, rv⟩ := hy v H2 hv
        refine hg _ _ ρ2 e2 pn H0 B2 H2 _ v (S1.go (g1'.trans g3)) rv _ fun σ3 S3 l3 e4 _ => ?_
        refine ⟨wipe_same (l3.trans (wipe_length _ _)) fun j hj => (e4 j fun z => hj (hjs j z)).trans (wipe_get hj), ?_⟩
        refine ht ρ2 pn H0 B2 H2 σ3 S3 _ ?_
        rw [e3]
        intro b B3 H3 g4 hb
        cases hb
        have g5 := g3.trans g4
        cases k with
        | true =>
          refine iteT ?_
          simp only [if_true] at hst
          cases e5 : fk ρ2 with
          | err a b => rw [e5] at hst; cases hst
          | bad => rw [e5] at hst; cases hst
          | ok y =>
          rw [e5, R.bind_ok] at hst
          cases e6 : y.toD with
          | err a b => exact (toD_noerr e6).elim
          | bad => rw [e6] at hst; cases hst
          | ok d =>
          rw [e6, R.bind_ok] at hst
          cases e7 : keyD d with
          | none => rw [e7] at hst; cases hst
          | some q =>
          rw [e7] at hst
          replace hst : ((fe ρ2).bind fun z => z.toD.bind fun d2 => R.ok (some (q, d2))) = R.ok o := hst
          refine hk ρ2 pn H0 B3 H3 σ3 (S3.go g4) _ ?_
          rw [e5]
          intro w B4 H4 g6 ry
          cases y with
          | vw q => cases e6
          | sv s =>
          cases e6
          obtain ⟨B5, a1, a2, a3, a4⟩ := ry.toD g6.bh
          have g6 : Go G B3 H3 B5 H4 := ⟨g6.bb.trans a2, a3, g6.hx, fun a o q1 q2 => a4 a o q1 (g6.fr a o q1 q2)⟩
          have ekey := key_kV a1 e7
          cases e8 : fe ρ2 with
          | err a b => rw [e8] at hst; cases hst
          | bad => rw [e8] at hst; cases hst
          | ok y2 =>
          rw [e8, R.bind_ok] at hst
          cases e9 : y2.toD with
          | err a b => exact (toD_noerr e9).elim
          | bad => rw [e9] at hst; cases hst
          | ok d2 =>
          rw [e9, R.bind_ok] at hst
          cases hst
          refine he ρ2 pn H0 B5 H4 σ3 ((S3.go g4).go g6) _ ?_
          rw [e8]
          intro w2 B6 H6 g8 ry2
          cases y2 with
          | vw q => cases e9
          | sv s2 =>
          cases e9
          obtain ⟨B7, c1, c2, c3, c4⟩ := ry2.toD g8.bh
          have g8 : Go G B5 H4 B7 H6 := ⟨g8.bb.trans c2, c3, g8.hx, fun a o q1 q2 => c4 a o q1 (g8.fr a o q1 q2)⟩
          have g7 := (g5.trans g6).trans g8
          have hl4 := g7.hh _ _ hl
          have hz4 : kv.length < sizeLine := by
            rw [rs.len]
            have h0 := mergeD_len (more := (os.take i).filterMap id) (kvs := [])
            have h1 := List.length_filterMap_le id (os.take i)
            rw [List.length_take] at h1
            rw [List.length_nil, Nat.zero_add] at h0
            refine Nat.lt_of_le_of_lt (Nat.le_trans h0 h1) (Nat.lt_of_le_of_lt (Nat.min_le_left _ _) ?_)
            exact Nat.lt_of_lt_of_le (Nat.lt_of_lt_of_le hlt hz) (by decide)
          have hn4 : B7 Dl = none := g7.fr _ _ hl hn
          have exU : Ex B7 (upd H6 Dl (.dK (putK kv q w2))) := fun a u z => by rw [upd_ne (ne_of_none z hn4)]; exact g7.bh a u z
          have hhU : ∀ {Hx : Hp}, ExT G Hx H6 → Hx Dl = none → ExT G Hx (upd H6 Dl (.dK (putK kv q w2))) := fun ex hx => updT ex hx hl4
          refine ⟨kv, q, ekey, hl4, hz4, B7, putK kv q w2, ?_, e1.trans g7.bb, ?_, hn4, upd_same, ?_⟩
          · have gg := g2.trans g7
            exact ⟨gg.bb, exU, hhU gg.hx hH, gg.fr⟩
          · have gg := g1'.trans g7
            exact ⟨gg.bb, exU, hhU gg.hx hD, gg.fr⟩
          · rw [htake]
            exact RepK.put (rs.mono g7.bb) c1
        | false =>
          refine iteF ?_
          simp only [Bool.false_eq_true, if_false] at hst
          cases hst
          refine ⟨B3, kv, g2.trans g5, e1.trans g5.bb, g1'.trans g5, g5.fr _ _ hl hn, g5.hh _ _ hl, ?_⟩
          rw [htake]
          exact rs.mono g5.bb
      · refine .inl ⟨(st i B' H' e1 g2.bh exs).1 (by show xs.length = i; omega), ?_⟩
        have hil : i = xs.length := by omega
        subst hil
        rw [← l1, List.take_length, ← l3] at rs
        exact P _ B' H' g2 (.new hH hn hl (.dk rs)))
/-! two fors -/
theorem lcA_ok {step : D → R (List D)} : ∀ {xs ds : List D}, lcA step xs = .ok ds → ∃ os : List (List D), os.length = xs.length ∧ (∀ (i : Nat) (x : D), xs[i]? = some x → ∃ o, os[i]? = some o ∧ step x = .ok o) ∧ ds = os.flatten
  | [], ds, h => by
    cases h
    exact ⟨[], rfl, fun i x h => by simp at h, rfl⟩
  | x :: r, ds, h => by
    unfold lcA at h
    cases e : step x with
    | err a b => rw [e] at h; cases h
    | bad => rw [e] at h; cases h
    | ok o =>
      cases e2 : lcA step r with
      | err a b => rw [e, R.bind_ok, e2] at h; cases h
      | bad => rw [e, R.bind_ok, e2] at h; cases h
      | ok es =>
        rw [e, R.bind_ok, e2, R.bind_ok] at h
        cases h
        obtain ⟨os, h1, h2, h3⟩ := lcA_ok e2
        refine ⟨o :: os, congrArg Nat.succ h1, fun i y hy => ?_, by rw [h3, List.flatten_cons]⟩
        cases i with
        | zero => cases hy; exact ⟨o, rfl, e⟩
        | succ i => exact h2 i y hy
theorem lcA_noerr {step : D → R (List D)} (hq : ∀ x a b, step x ≠ .err a b) : ∀ {xs : List D} {a : Nat} {b : Option (Str × D)}, lcA step xs ≠ .err a b
  | [], a, b => fun h => by cases h
  | x :: r, a, b => fun h => by
    unfold lcA at h
    cases e : step x with
    | err a b => exact hq _ _ _ e
    | bad => rw [e] at h; cases h
    | ok o =>
      cases e2 : lcA step r with
      | ok es => rw [e, R.bind_ok, e2] at h; cases h
      | err a b => exact lcA_noerr hq e2
      | bad => rw [e, R.bind_ok, e2] at h; cases h
theorem quiet_noerr {α : Type} {r : R α} {a : Nat} {b : Option (Str × D)} : r.quiet ≠ .err a b := by cases r <;> intro h <;> cases h
theorem take_flat {os : List (List D)} {i : Nat} {o : List D} (h : os[i]? = some o) : (os.take (i + 1)).flatten = (os.take i).flatten ++ o := by
  rw [List.take_add_one, h, List.flatten_append]
  show _ ++ (o ++ []) = _
  rw [List.append_nil]
theorem take_all {os : List (List D)} {i : Nat} (h : os.length = i) : (os.take i).flatten = os.flatten := by rw [← h, List.take_length]
theorem flat_pre {os : List (List D)} {i : Nat} {o : List D} (h : os[i]? = some o) : (os.take i).flatten.length + o.length ≤ os.flatten.length := by
  have e : os.flatten = (os.take i).flatten ++ (os.drop i).flatten := by rw [← List.flatten_append, List.take_append_drop]
  have e2 : os.drop i = o :: os.drop (i + 1) := by
    obtain ⟨hl, hx⟩ := List.getElem?_eq_some_iff.mp h
    rw [List.drop_eq_getElem_cons hl, hx]
  rw [e, e2, List.flatten_cons, List.length_append, List.length_append]
  omega
theorem do_lc2 {wi wi1 : TI} {ri : R (Bool × List D)} {fi1 : En → R (Bool × List D)} {g g1 : TG} {js js1 vs vs1 : List Nat} {te : TE} {fg fg1 : D → En → R En} {fe : En → R RV} (hi : Does G E (relI G) wi ρ ri) (hg : ∀ x ρ, TgS G g js x ρ (fg x ρ)) (hjs : ∀ j, j ∈ js → j ∈ vs) (hi1 : ∀ ρ, Does G E0 (relI G) wi1 ρ (fi1 ρ)) (hg1 : ∀ x ρ, TgS G g1 js1 x ρ (fg1 x ρ)) (hjs1 : ∀ j, j ∈ js1 → j ∈ vs1) (he : ∀ ρ, Does G E0 (relV G) te ρ (fe ρ)) :
    Does G E (relV G) (tLc2 wi g tYes wi1 g1 tYes te vs vs1) ρ (ri.bind fun xs => if xs.2.length ≤ 1000000 then (lcA (fun x => ((fg x (wipeE ρ vs)).bind fun ρ2 => (fi1 ρ2).bind fun ys => if ys.1 = true ∧ ys.2.length ≤ 1000000 then lcA (fun y => ((fg1 y (wipeE ρ2 vs1)).bind fun ρ3 => (fe ρ3).bind fun v => v.toD.bind fun d => .ok [d]).quiet) ys.2 else .bad).quiet) xs.2).bind fun ds => if ds.length ≤ 1000000 then .ok (ov (.lst ds)) else .bad else .bad) := fun pn H0 B H σ S Q P =>
  hi pn H0 B H σ S _ (P.bind fun xs exs P J B1 H1 ga st => by
    by_cases hz : xs.2.length ≤ 1000000
    rotate_left
    · rw [if_neg hz] at P
      exact P.elim
    rw [if_pos hz] at P
    cases hl : lcA (fun x => ((fg x (wipeE ρ vs)).bind fun ρ2 => (fi1 ρ2).bind fun ys => if ys.1 = true ∧ ys.2.length ≤ 1000000 then lcA (fun y => ((fg1 y (wipeE ρ2 vs1)).bind fun ρ3 => (fe ρ3).bind fun v => v.toD.bind fun d => .ok [d]).quiet) ys.2 else .bad).quiet) xs.2 with
    | bad => rw [hl] at P; exact P.elim
    | err a b => exact (lcA_noerr (fun _ _ _ => quiet_noerr) hl).elim
    | ok ds =>
      rw [hl, R.bind_ok] at P
      by_cases hdz : ds.length ≤ 1000000
      rotate_left
      · rw [if_neg hdz] at P
        exact P.elim
      rw [if_pos hdz] at P
      obtain ⟨os, l1, l2, l3⟩ := lcA_ok hl
      obtain ⟨fl, xs⟩ := xs
      simp only at hz l1 l2 st
      intro Dl hD
      have S1 := (S.go ga).wipe vs
      have hB : B1 Dl = none := none_of_ex ga.bh hD
      have hH : H Dl = none := ga.hx.n _ hD
      refine ⟨fun i m H' => m = xs.length - i ∧ i ≤ xs.length ∧ ∃ B' us, Go G B H B' H' ∧ Ex B1 B' ∧ Go G B1 H1 B' H' ∧ B' Dl = none ∧ H' Dl = some (.lst us) ∧ Reps G B' us (os.take i).flatten,
        ⟨_, rfl, Nat.zero_le _, B1, [], ga.trans (Go.newO ga.bh hD), Ex.refl _, Go.newO ga.bh hD, hB, upd_same, .nil⟩, ?_⟩
      rintro i m H' ⟨rfl, hi, B', us, g2, e1, g1', hn, hl, rs⟩
      have exs : ExT G (if fl then H0 else H1) H' := by
        cases fl with
        | true => exact S.ex0.trans g2.hx
        | false => exact g1'.hx
      by_cases hlt : i < xs.length
      · obtain ⟨hgo, hy⟩ := (st i B' H' e1 g2.bh exs).2 xs[i] (List.getElem?_eq_getElem hlt)
        obtain ⟨o, ho, hst⟩ := l2 i _ (List.getElem?_eq_getElem hlt)
        have hst := quiet_ok hst
        cases e2 : fg xs[i] (wipeE ρ vs) with
        | err a b => rw [e2] at hst; cases hst
        | bad => rw [e2] at hst; cases hst
        | ok ρ2 =>
        rw [e2, R.bind_ok] at hst
        cases e3 : fi1 ρ2 with
        | err a b => rw [e3] at hst; cases hst
        | bad => rw [e3] at hst; cases hst
        | ok ys =>
        rw [e3, R.bind_ok] at hst
        by_cases hyz : ys.1 = true ∧ ys.2.length ≤ 1000000
        rotate_left
        · rw [if_neg hyz] at hst
          cases hst
        rw [if_pos hyz] at hst
        obtain ⟨ps, p1, p2, p3⟩ := lcA_ok hst
        refine .inr ⟨hgo, fun H2 => ∃ B' us, Go G B H B' H2 ∧ Ex B1 B' ∧ Go G B1 H1 B' H2 ∧ B' Dl = none ∧ H2 Dl = some (.lst us) ∧ Reps G B' us (os.take (i + 1)).flatten, fun H2 h => ⟨_, by omega, rfl, hlt, h⟩, fun v H2 hv => ?_⟩
        obtain ⟨B2, g3, rv⟩ := hy v H2 hv
        refine hg _ _ ρ2 e2 pn H0 B2 H2 _ v (S1.go (g1'.trans g3)) rv _ fun σ3 S3 l3' e4 m3 => ?_
        refine ⟨wipe_same (l3'.trans (wipe_length _ _)) fun j hj => (e4 j fun z => hj (hjs j z)).trans (wipe_get hj), ?_⟩
        simp only [tYes, if_true]
        refine hi1 ρ2 pn H0 B2 H2 σ3 S3 _ ?_
        rw [e3]
        intro J1 B4 H4 g4 st4
        obtain ⟨fl1, ys⟩ := ys
        simp only at hyz p1 p2 st4
        obtain ⟨rfl, hyz⟩ := hyz
        have st4 : Steady G J1 B4 H0 ys := st4
        have g34 := g3.trans g4
        refine ⟨fun j k H5 => k = ys.length - j ∧ j ≤ ys.length ∧ ∃ B5 us5, Go G B H B5 H5 ∧ Ex B1 B5 ∧ Go G B1 H1 B5 H5 ∧ Ex B4 B5 ∧ B5 Dl = none ∧ H5 Dl = some (.lst us5) ∧ Reps G B5 us5 ((os.take i).flatten ++ (ps.take j).flatten),
          ⟨_, rfl, Nat.zero_le _, B4, us, g2.trans g34, e1.trans g34.bb, g1'.trans g34, Ex.refl _, g34.fr _ _ hl hn, g34.hh _ _ hl, by rw [List.take_zero, List.flatten_nil, List.append_nil]; exact rs.mono g34.bb⟩, ?_⟩
        rintro j k H5 ⟨rfl, hj, B5, us5, q2, q1, q1', q4, qn, ql, qs⟩
        have exs1 : ExT G H0 H5 := S.ex0.trans q2.hx
        by_cases hjt : j < ys.length
        · obtain ⟨hgo1, hy1⟩ := (st4 j B5 H5 q4 q2.bh exs1).2 ys[j] (List.getElem?_eq_getElem hjt)
          obtain ⟨o1, ho1, hst1⟩ := p2 j _ (List.getElem?_eq_getElem hjt)
          have hst1 := quiet_ok hst1
          cases d2 : fg1 ys[j] (wipeE ρ2 vs1) with
          | err a b => rw [d2] at hst1; cases hst1
          | bad => rw [d2] at hst1; cases hst1
          | ok ρ3 =>
          rw [d2, R.bind_ok] at hst1
          refine .inr ⟨hgo1, fun H6 => ∃ B6 us6, Go G B H B6 H6 ∧ Ex B1 B6 ∧ Go G B1 H1 B6 H6 ∧ Ex B4 B6 ∧ B6 Dl = none ∧ H6 Dl = some (.lst us6) ∧ Reps G B6 us6 ((os.take i).flatten ++ (ps.take (j + 1)).flatten), fun H6 h => ⟨_, by omega, rfl, hjt, h⟩, fun v1 H6 hv1 => ?_⟩
          obtain ⟨B6, g6, rv1⟩ := hy1 v1 H6 hv1
          refine hg1 _ _ ρ3 d2 pn H0 B6 H6 _ v1 ((m3 B6 H6 ((g4.bb.trans q4).trans g6.bb) (S1.go (q1'.trans g6))).wipe vs1) rv1 _ fun σ5 S5 l5 e5 _ => ?_
          refine ⟨wipe_same (l5.trans (wipe_length _ _)) fun j' hj' => (e5 j' fun z => hj' (hjs1 j' z)).trans (wipe_get hj'), ?_⟩
          cases d3 : fe ρ3 with
          | err a b => rw [d3] at hst1; cases hst1
          | bad => rw [d3] at hst1; cases hst1
          | ok y =>
          rw [d3, R.bind_ok] at hst1
          cases d4 : y.toD with
          | err a b => exact (toD_noerr d4).elim
          | bad => rw [d4] at hst1; cases hst1
          | ok d =>
          rw [d4, R.bind_ok] at hst1
          cases hst1
          refine he ρ3 pn H0 B6 H6 σ5 S5 _ ?_
          rw [d3]
          intro w B7 H7 g7 ry
          cases y with
          | vw z => cases d4
          | sv z =>
          cases d4
          obtain ⟨B8, a1, a2, a3, a4⟩ := ry.toD g7.bh
          have g7 : Go G B6 H6 B8 H7 := ⟨g7.bb.trans a2, a3, g7.hx, fun a o z1 z2 => a4 a o z1 (g7.fr a o z1 z2)⟩
          have g8 := g6.trans g7
          have hl4 := g8.hh _ _ ql
          have hz4 : us5.length < sizeLine := by
            rw [qs.len, List.length_append]
            have f1 := flat_pre ho
            have f2 := flat_pre ho1
            rw [p3] at f1
            rw [List.length_singleton] at f2
            rw [l3] at hdz
            have sz : (1000000 : Nat) ≤ sizeLine := by decide
            omega
          have hn4 : B8 Dl = none := g8.fr _ _ ql qn
          have exU : Ex B8 (upd H7 Dl (.lst (us5 ++ [w]))) := fun a u z => by rw [upd_ne (ne_of_none z hn4)]; exact g8.bh a u z
          have hhU : ∀ {Hx : Hp}, ExT G Hx H7 → Hx Dl = none → ExT G Hx (upd H7 Dl (.lst (us5 ++ [w]))) := fun ex hx => updT ex hx hl4
          refine ⟨us5, hl4, hz4, B8, us5 ++ [w], ?_, q1.trans g8.bb, ?_, q4.trans g8.bb, hn4, upd_same, ?_⟩
          · have gg := q2.trans g8
            exact ⟨gg.bb, exU, hhU gg.hx hH, gg.fr⟩
          · have gg := q1'.trans g8
            exact ⟨gg.bb, exU, hhU gg.hx hD, gg.fr⟩
          · rw [take_flat ho1, ← List.append_assoc]
            exact (qs.mono g8.bb).app (.cons a1 .nil)
        · refine .inl ⟨(st4 j B5 H5 q4 q2.bh exs1).1 (by show ys.length = j; omega), B5, us5, q2, q1, q1', qn, ql, ?_⟩
          have ej : j = ys.length := by omega
          rw [take_all (os := ps) (by rw [p1, ej]), ← p3] at qs
          rw [take_flat ho]
          exact qs
      · refine .inl ⟨(st i B' H' e1 g2.bh exs).1 (by show xs.length = i; omega), ?_⟩
        have hil : i = xs.length := by omega
        rw [take_all (by rw [l1, hil]), ← l3] at rs
        exact P _ B' H' g2 (.new hH hn hl (.lst rs)))
/-! ### lent lists -/
def cutA (B : Hp) (l : Addr) : Hp := fun a => if a = l then none else B a
mutual
theorem Rep.cut {B : Hp} {l : Addr} {us : List V} (hl : B l = some (.lst us)) {v : V} : ∀ {d : D}, noL d = true → Rep G B v d → Rep G (cutA B l) v d
  | .non, _, .non => .non
  | .bl b, _, .bl _ => .bl b
  | .int i, _, .int _ => .int i
  | .str s, _, .str _ h => .str s h
  | .tup ds, n, .tup h r => .tup (by
      rcases h with (h | ⟨o, h⟩) | h
      · refine .inl (.inl ?_)
        unfold cutA
        rw [if_neg]
        · exact h
        · intro z
          rw [z, hl] at h
          cases h
      · refine .inl (.inr ⟨o, ?_⟩)
        unfold cutA
        rw [if_neg]
        · exact h
        · intro z
          rw [z, hl] at h
          cases h
      · exact .inr h) (Reps.cut hl n r)
  | .lst ds, n, _ => by cases n
  | .ins C fs, n, _ => by cases n
  | .scr ns, n, _ => by cases n
  | .dk ns, n, _ => by cases n
  | .dt ns, n, _ => by cases n
theorem Reps.cut {B : Hp} {l : Addr} {us : List V} (hl : B l = some (.lst us)) {vs : List V} : ∀ {ds : List D}, noL.noLs ds = true → Reps G B vs ds → Reps G (cutA B l) vs ds
  | [], _, .nil => .nil
  | d :: ds, n, .cons h r => by
    have n' : (noL d && noL.noLs ds) = true := n
    rw [Bool.and_eq_true] at n'
    exact .cons (Rep.cut hl n'.1 h) (Reps.cut hl n'.2 r)
end
theorem do_lend {fa : En → R RV} (ha : ∀ ρ, Does G E (relV G) ta ρ (fa ρ)) : Does G E (relV G) ta ρ (match ρ[i]? with
    | some (some (.fv (.lst ds))) => lentR (fa (ρ.set i (some (.d (.lst ds)))))
    | _ => .bad) := fun pn H0 B H σ S Q P => by
  split at P <;> first | exact P.elim | skip
  rename_i ds e
  obtain ⟨a, o, h1, h2, h3, h4⟩ := S.own e (fun y z => nomatch z)
  cases h4 with
  | @lst us _ r =>
  obtain ⟨ow, S'⟩ := S
  have eB : Ex B (upd B a (.lst us)) := Ex.new h2
  obtain ⟨v, k1, k2⟩ := S'.ok i _ e
  rw [h1] at k1
  have ke := Option.some.inj (Option.some.inj k1)
  subst ke
  have S2 : Slots G pn H0 (upd B a (.lst us)) H σ (ρ.set i (some (.d (.lst ds)))) := by
    refine ⟨_, S'.others (as' := []) e ⟨eB, fun b o _ nb hb => ?_, offT⟩ S'.ex0 (upd_ex2 S'.ex h3) (fun t q => ?_) fun a m => nomatch m⟩
    · rw [upd_ne]
      · exact hb
      · intro z
        apply nb
        rw [z]
        generalize ow i = cs at k2
        cases k2 with
        | fv k2 =>
          cases k2 with
          | own _ _ _ _ => exact List.mem_singleton.mpr rfl
    · cases q
      exact ⟨_, h1, .fv (.d (.lst upd_same (r.mono eB)))⟩
  have go : ∀ B' H', Go G (upd B a (.lst us)) H B' H' → B' a = some (.lst us) ∧ Go G B H (cutA B' a) H' := fun B' H' g => by
    have hb := g.bb _ _ upd_same
    refine ⟨hb, fun b u q => ?_, fun b u q => ?_, g.hx, fun b u q1 q2 => ?_⟩
    · unfold cutA
      have ne : b ≠ a := ne_of_none q h2
      rw [if_neg ne]
      exact g.bb b u (by rw [upd_ne ne]; exact q)
    · unfold cutA at q
      by_cases c : b = a
      · rw [if_pos c] at q; cases q
      · rw [if_neg c] at q
        exact g.bh b u q
    · unfold cutA
      by_cases c : b = a
      · rw [if_pos c]
      · rw [if_neg c]
        exact g.fr b u q1 (by rw [upd_ne c]; exact q2)
  refine ha _ pn H0 _ H σ S2 _ ?_
  cases hr : fa (ρ.set i (some (.d (.lst ds)))) with
  | bad => rw [hr] at P; exact P.elim
  | err x f =>
    rw [hr] at P
    cases f with
    | none => exact fun B' H' g => P _ H' (go B' H' g).2
    | some p =>
      unfold lentR at P
      by_cases c : noL p.2 = true
      · simp only [if_pos c] at P
        exact fun B' H' dd v g a1 a2 => P _ H' dd v (go B' H' g).2 a1 (a2.cut (go B' H' g).1 c)
      · simp only [if_neg c] at P
        exact P.elim
  | ok x =>
    rw [hr] at P
    unfold lentR at P
    intro v B' H' g rr
    obtain ⟨hb, g'⟩ := go B' H' g
    by_cases c : x.noL = true
    · simp only [if_pos c] at P
      refine P v _ H' g' ?_
      unfold RV.noL at c
      split at c <;> first | (cases c; done) | skip
      · exact .d (rr.dat.cut hb c)
      · cases rr with
        | sv nb q =>
          cases q with
          | fv q =>
            cases q with
            | own z1 z2 z3 q =>
              cases q with
              | lst q =>
                refine .new z1 ?_ z3 (.lst (q.cut hb c))
                unfold cutA
                split
                · rfl
                · exact z2
    · simp only [if_neg c] at P
      exact P.elim
end
section
variable {G : Gm} {E : XE2} {ρ : En} {ta tb : TE} {ra rb : R RV} {as : TA} {rs : R (List D)} {ms : List Bool}
theorem do_tm {o : Tm} (ha : Does G E (relV G) ta ρ ra) (hb : Does G E (relV G) tb ρ rb) : Does G E (relV G) (tM1 (o.den G.K) ta tb) ρ (ra.bind fun x => x.rd.bind fun d => (asStr d).bind fun s => rb.bind fun y => y.rd.bind fun b => o.fn s b) := fun pn H0 B H σ S Q P =>
  ha pn H0 B H σ S _ (P.bind fun x ex P v B1 H1 g1 r1 => by
    cases e1 : x.rd with
    | ok d =>
      rw [e1, R.bind_ok] at P
      cases d with
      | str s =>
        obtain ⟨rfl, hs⟩ := (r1.rd e1).str
        have P : Post G (E σ) (relV G H0) B H (rb.bind fun y => y.rd.bind fun b => o.fn s b) Q := P
        refine ⟨⟨s, rfl⟩, hb pn H0 B1 H1 σ (S.go g1) _ ((P.go (early_V (H0 := H0)) g1).bind fun y ey P u B2 H2 g2 r2 => ?_)⟩
        cases e2 : y.rd with
        | ok b =>
          rw [e2, R.bind_ok] at P
          exact o.ok (E := E σ) g2.bh hs (r2.rd e2) (P.go RvOk.early g2)
        | err a b => exact (rd_noerr e2).elim
        | bad => rw [e2] at P; exact P.elim
      | _ => exact P.elim
    | err a b => exact (rd_noerr e1).elim
    | bad => rw [e1] at P; exact P.elim)
theorem do_fn {j : Nat} : Does G E (relV G) (tC (.ref (G.ft j))) ρ (.ok (dv (.fnc j))) := fun pn H0 B H σ S Q P => P _ B H (Go.refl S.ex) (.d .fnc)
theorem do_callv {i j : Nat} {f : List D → R RV} (h : Does G E (relM G ms) as ρ rs) : Does G E (relV G) (cCallL i (G.ft j) (Pr G ms f) E as) ρ (if isFn j ρ[i]? = true then rs.bind f else .bad) := fun pn H0 B H σ S Q P => by
  cases c : isFn j ρ[i]? with
  | false => rw [c] at P; exact P.elim
  | true =>
    rw [c, if_pos rfl] at P
    have e : ρ[i]? = some (some (.d (.fnc j))) := by
      unfold isFn at c
      split at c
      · next k e => rw [eq_of_beq c] at e; exact e
      · cases c
    have hv : getV ρ i = .ok (dv (.fnc j)) := by unfold getV; rw [e]
    obtain ⟨v, h1, h2⟩ := getV_ok S hv
    have h3 := (RvOk.rd h2 (d := .fnc j) rfl).plain rfl
    refine ⟨?_, do_call h pn H0 B H σ S Q P⟩
    cases h3
    exact h1
theorem do_fmt (ha : Does G E (relV G) ta ρ ra) : Does G E (relV G) (tFmt ta) ρ (ra.bind fun x => x.rd.bind fmtF) := fun pn H0 B H σ S Q P =>
  ha pn H0 B H σ S _ (P.bind fun x ex P v B1 H1 g1 r1 => by
    cases e1 : x.rd with
    | ok d =>
      rw [e1, R.bind_ok] at P
      have P := P.go (early_V (H0 := H0)) g1
      unfold fmtF at P
      split at P <;> first | exact P.elim | skip
      · obtain ⟨rfl, hs⟩ := (r1.rd e1).str
        split at P
        · next c => exact .inl ⟨_, rfl, c, Post.dat P g1.bh (.str _ hs)⟩
        · exact P.elim
      · rw [(r1.rd e1).int]
        split at P
        · next c => exact .inr ⟨_, rfl, c, Post.dat P g1.bh (.str _ (sok_lit _))⟩
        · exact P.elim
    | err a b => exact (rd_noerr e1).elim
    | bad => rw [e1] at P; exact P.elim)
def relF : Hp → Hp → Hp → Str → Str → Prop := fun _ _ _ b a => b = a ∧ SOk a
theorem early_F : Early G relF := fun _ _ _ _ _ _ _ h => h
def DoesF (G : Gm) (E : XE2) (ts : List TE) (ρ : En) (r : Str → R Str) : Prop := ∀ pn H0 B H σ acc, SOk acc → Slots G pn H0 B H σ ρ → ∀ Q : Str → Hp → Prop, Post G (E σ) relF B H (r acc) Q → tJs ts acc σ H Q
theorem do_fnil : DoesF G E [] ρ fun acc => .ok acc := fun pn H0 B H σ acc ha S Q P => P _ B H (Go.refl S.ex) ⟨rfl, ha⟩
theorem do_fcons {ts : List TE} {r : Str → R Str} (ha : Does G E (relV G) ta ρ ra) (hs : DoesF G E ts ρ r) : DoesF G E (ta :: ts) ρ fun acc => ra.bind fun x => x.rd.bind fun d => (asStr d).bind fun s => if (acc ++ s).length ≤ sizeLine then r (acc ++ s) else .bad := fun pn H0 B H σ acc hc S Q P =>
  ha pn H0 B H σ S _ (P.bind fun x ex P v B1 H1 g1 r1 => by
    cases e1 : x.rd with
    | ok d =>
      rw [e1, R.bind_ok] at P
      cases d with
      | str s =>
        obtain ⟨rfl, hs'⟩ := (r1.rd e1).str
        have P : Post G (E σ) relF B H (if (acc ++ s).length ≤ sizeLine then r (acc ++ s) else .bad) Q := P
        split at P
        · next c => exact ⟨s, rfl, c, hs pn H0 B1 H1 σ _ (hc.app hs') (S.go g1) Q (P.go early_F g1)⟩
        · exact P.elim
      | _ => exact P.elim
    | err a b => exact (rd_noerr e1).elim
    | bad => rw [e1] at P; exact P.elim)
theorem do_fstr {ts : List TE} {r : Str → R Str} (hs : DoesF G E ts ρ r) : Does G E (relV G) (fun σ H Q => tJs ts Str.empty σ H fun out H1 => Q (.str out) H1) ρ ((r Str.empty).bind fun s => .ok (dv (.str s))) := fun pn H0 B H σ S Q P =>
  hs pn H0 B H σ _ (sok_iff.mpr fun c m => by simp [Str.empty] at m) S _ (P.bind fun x ex P v B1 H1 g1 r1 => by
    obtain ⟨rfl, h⟩ := r1
    exact Post.dat (P.go (early_V (H0 := H0)) g1) g1.bh (.str _ h))
theorem do_noE : Does G E (relV G) tNo ρ .bad := fun pn H0 B H σ S Q P => P.elim
end
end Ci
end

section
set_option Elab.async false
set_option linter.all false
set_option maxRecDepth 100000
set_option maxHeartbeats 2000000
/-! ## dicts, places in a tuple of texts, objects that are lent -/
namespace Ci
open PySem PySem.Spec PyProof.Rows L2 Evl
section
variable {G : Gm} {E : XE2} {ρ : En} {ta tb tc : TE} {ra rb rc : R RV} {i : Nat} {as : TA} {rs : R (List D)}
theorem pl_noerr {x : RV} {a : Nat} {b : Option (Str × D)} (h : x.pl = .err a b) : False := by
  unfold RV.pl at h
  split at h <;> cases h
theorem RvOk.pl {Hi B H : Hp} {v : V} {x : RV} {d : D} (r : RvOk G Hi B H v x) (h : x.pl = .ok d) : Rep G B v d := by
  unfold RV.pl at h
  split at h <;> cases h
  exact r.dat
theorem do_dnew : Does G E (relV G) tDNewK ρ (.ok (ov (.dk []))) := fun pn H0 B H σ S Q P => fun p hp => Post.new P S.ex hp (.dk .nil)
/-- what the dict holds -/
theorem dk_at {B H : Hp} {v u : V} {kvs : Kd} {y : D} {k : Key} (e : Ex B H) (r : Rdb G B H v (.dk kvs)) (r2 : Rdb G B H u y) (hk : keyD y = some k) : ∃ a vs, v = .ref a ∧ H a = some (.dK vs) ∧ RepK G B vs kvs ∧ u = kV k ∧ DGet H a u (valV vs k) := by
  obtain ⟨a, vs, rfl, h1, h2⟩ := r.dk e
  have z := key_rep r2 hk
  subst z
  exact ⟨a, vs, rfl, h1, h2, rfl, DGet.k h1⟩
theorem do_dget (ha : Does G E (relV G) ta ρ ra) (hb : Does G E (relV G) tb ρ rb) : Does G E (relV G) (tDGet ta tb) ρ (ra.bind fun x => rb.bind fun y => x.rd.bind fun d => y.rd.bind fun y => dgetF d y) := fun pn H0 B H σ S Q P =>
  ha pn H0 B H σ S _ (P.bind fun x ex P v B1 H1 g1 r1 => hb pn H0 B1 H1 σ (S.go g1) _ ((P.go (early_V (H0 := H0)) g1).bind fun y ey P u B2 H2 g2 r2 => by
    cases e1 : x.rd with
    | ok x' =>
      cases e2 : y.rd with
      | ok y' =>
        rw [e1, R.bind_ok, e2, R.bind_ok] at P
        unfold dgetF at P
        split at P <;> first | exact P.elim | skip
        rename_i kvs
        cases e3 : keyD y' with
        | none => rw [e3] at P; exact P.elim
        | some k =>
          rw [e3] at P
          have P : Post G (E σ) (relV G H0) B1 H1 ((R.ofO (valD kvs k)).bind fun d => .ok (dv d)) Q := P
          cases e4 : valD kvs k with
          | none => rw [e4] at P; exact P.elim
          | some d =>
            rw [e4] at P
            obtain ⟨a, vs, rfl, h1, h2, _, dg⟩ := dk_at g2.bh ((r1.rd e1).go g2) (r2.rd e2) e3
            obtain ⟨w, h3, h4⟩ := h2.valS e4
            rw [h3] at dg
            exact ⟨a, w, rfl, dg, P _ B2 H2 g2 (.d h4)⟩
      | err a b => exact (rd_noerr e2).elim
      | bad => rw [e1, R.bind_ok, e2] at P; exact P.elim
    | err a b => exact (rd_noerr e1).elim
    | bad => rw [e1] at P; exact P.elim))
theorem dk_opt {B : Hp} {vs : List (Key × V)} {kvs : Kd} {k : Key} (r : RepK G B vs kvs) : (valV vs k).isSome = (valD kvs k).isSome ∧ ∀ {w : V} {d : D}, Rep G B w d → Rep G B ((valV vs k).getD w) ((valD kvs k).getD d) := by
  cases e : valD kvs k with
  | none =>
    rw [r.valN e]
    exact ⟨rfl, fun h => h⟩
  | some d =>
    obtain ⟨w, h1, h2⟩ := r.valS e
    rw [h1]
    exact ⟨rfl, fun _ => h2⟩
theorem do_dget1 (ha : Does G E (relV G) ta ρ ra) (hb : Does G E (relV G) tb ρ rb) : Does G E (relV G) (tDGet1 ta tb) ρ (ra.bind fun x => x.rd.bind fun d => (asDk d).bind fun kvs => rb.bind fun y => y.rd.bind fun y => dget1F kvs y) := fun pn H0 B H σ S Q P =>
  ha pn H0 B H σ S _ (P.bind fun x ex P v B1 H1 g1 r1 => by
    cases e1 : x.rd with
    | ok x' =>
      rw [e1, R.bind_ok] at P
      unfold asDk at P
      split at P <;> first | exact P.elim | skip
      rename_i kvs
      rw [R.bind_ok] at P
      obtain ⟨a, vs, rfl, h1, h2⟩ := (r1.rd e1).dk g1.bh
      refine ⟨a, rfl, .inl ⟨vs, .inl h1⟩, ?_⟩
      refine hb pn H0 B1 H1 σ (S.go g1) _ ((P.go (early_V (H0 := H0)) g1).bind fun y ey P u B2 H2 g2 r2 => ?_)
      cases e2 : y.rd with
      | ok y' =>
        rw [e2, R.bind_ok] at P
        unfold dget1F at P
        cases e3 : keyD y' with
        | none => rw [e3] at P; exact P.elim
        | some k =>
          rw [e3] at P
          have z := key_rep (r2.rd e2) e3
          subst z
          exact ⟨_, DGet.k (g2.hh _ _ h1), P _ B2 H2 g2 (.d ((dk_opt (h2.mono g2.bb)).2 .non))⟩
      | err a b => exact (rd_noerr e2).elim
      | bad => rw [e2] at P; exact P.elim
    | err a b => exact (rd_noerr e1).elim
    | bad => rw [e1] at P; exact P.elim)
theorem do_dget2 (ha : Does G E (relV G) ta ρ ra) (hb : Does G E (relV G) tb ρ rb) (hc : Does G E (relV G) tc ρ rc) : Does G E (relV G) (tDGet2 ta tb tc) ρ (ra.bind fun x => x.rd.bind fun d => (asDk d).bind fun kvs => rb.bind fun y => rc.bind fun z => y.rd.bind fun y => z.pl.bind fun z => dget2F kvs y z) := fun pn H0 B H σ S Q P =>
  ha pn H0 B H σ S _ (P.bind fun x ex P v B1 H1 g1 r1 => by
    cases e1 : x.rd with
    | ok x' =>
      rw [e1, R.bind_ok] at P
      unfold asDk at P
      split at P <;> first | exact P.elim | skip
      rename_i kvs
      rw [R.bind_ok] at P
      obtain ⟨a, vs, rfl, h1, h2⟩ := (r1.rd e1).dk g1.bh
      refine ⟨a, rfl, .inl ⟨vs, .inl h1⟩, ?_⟩
      refine hb pn H0 B1 H1 σ (S.go g1) _ ((P.go (early_V (H0 := H0)) g1).bind fun y ey P u B2 H2 g2 r2 => ?_)
      refine hc pn H0 B2 H2 σ (S.go (g1.trans g2)) _ ((P.go (early_V (H0 := H0)) g2).bind fun z ez P w B3 H3 g3 r3 => ?_)
      cases e2 : y.rd with
      | ok y' =>
        rw [e2, R.bind_ok] at P
        cases e4 : z.pl with
        | ok d =>
          rw [e4, R.bind_ok] at P
          unfold dget2F at P
          cases e3 : keyD y' with
          | none => rw [e3] at P; exact P.elim
          | some k =>
            rw [e3] at P
            have z := key_rep (r2.rd e2) e3
            subst z
            exact ⟨_, DGet.k (g3.hh _ _ (g2.hh _ _ h1)), P _ B3 H3 g3 (.d ((dk_opt ((h2.mono g2.bb).mono g3.bb)).2 (r3.pl e4)))⟩
        | err a b => exact (pl_noerr e4).elim
        | bad => rw [e4] at P; exact P.elim
      | err a b => exact (rd_noerr e2).elim
      | bad => rw [e2] at P; exact P.elim
    | err a b => exact (rd_noerr e1).elim
    | bad => rw [e1] at P; exact P.elim)
theorem do_din {neg : Bool} (hb : Does G E (relV G) tb ρ rb) (ha : Does G E (relV G) ta ρ ra) : Does G E (relV G) (tDInA neg tb ta) ρ (rb.bind fun y => ra.bind fun x => y.rd.bind fun y => x.rd.bind fun d => dinF neg y d) := fun pn H0 B H σ S Q P => by
  have key : tb σ H fun y H1 => ta σ H1 fun x H2 => ∃ a o, x = .ref a ∧ DGet H2 a y o ∧ Q (.bl (if neg then !o.isSome else o.isSome)) H2 :=
    hb pn H0 B H σ S _ (P.bind fun y ey P u B1 H1 g1 r1 => ha pn H0 B1 H1 σ (S.go g1) _ ((P.go (early_V (H0 := H0)) g1).bind fun x ex P v B2 H2 g2 r2 => by
      cases e1 : y.rd with
      | ok y' =>
        cases e2 : x.rd with
        | ok x' =>
          rw [e1, R.bind_ok, e2, R.bind_ok] at P
          unfold dinF at P
          split at P <;> first | exact P.elim | skip
          rename_i kvs
          cases e3 : keyD y' with
          | none => rw [e3] at P; exact P.elim
          | some k =>
            rw [e3] at P
            obtain ⟨a, vs, rfl, h1, h2, _, dg⟩ := dk_at g2.bh (r2.rd e2) ((r1.rd e1).go g2) e3
            refine ⟨a, _, rfl, dg, P _ B2 H2 g2 ?_⟩
            rw [(dk_opt h2).1]
            exact .d (.bl _)
        | err a b => exact (rd_noerr e2).elim
        | bad => rw [e1, R.bind_ok, e2] at P; exact P.elim
      | err a b => exact (rd_noerr e1).elim
      | bad => rw [e1] at P; exact P.elim))
  cases neg <;> exact key
theorem do_dictP (ha : Does G E (relV G) ta ρ ra) : Does G E (relV G) (tCB (rDictP G.K) (tCons ta tNil)) ρ (ra.bind fun x => x.rd.bind dictPF) := fun pn H0 B H σ S Q P =>
  ha pn H0 B H σ S _ (P.bind fun x ex P v B1 H1 g1 r1 => by
    cases e : x.rd with
    | ok d =>
      rw [e, R.bind_ok] at P
      have fin : ∀ (ds : List D) (a : Addr) (us : List V), Reps G B1 us ds → (SqL G.K H1 a us ∨ ∃ o : Obj, H1 a = some (.frz o (.tup us)) ∧ o.dict = none) → Post G (E σ) (relV G H0) B H ((R.ofO (pairsD ds)).bind fun kvs => .ok (ov (.dk (mergeD [] kvs)))) Q → rDictP G.K [.ref a] H1 Q := fun ds a us rs hq P => by
        cases e2 : pairsD ds with
        | none => rw [e2] at P; exact P.elim
        | some kd =>
          rw [e2] at P
          obtain ⟨ps, kvs, rfl, p2, rk⟩ := pairs_rep g1.bh rs e2
          exact ⟨a, ps, kvs, rfl, hq, p2, fun p hp => Post.new (P.go (early_V (H0 := H0)) g1) g1.bh hp (.dk (RepK.merge .nil rk))⟩
      unfold dictPF at P
      split at P <;> first | exact P.elim | skip
      · rename_i ds
        obtain ⟨a, us, rfl, h1, h2⟩ := (r1.rd e).lst g1.bh
        exact fin ds a us h2 (.inl (sq_of h1)) P
      · rename_i ds
        cases (r1.rd e).plain rfl with
        | tupN h1 h2 h3 => exact fin ds _ _ h3 (.inr ⟨_, g1.bh _ _ h1, h2⟩) P
    | err a b => exact (rd_noerr e).elim
    | bad => rw [e] at P; exact P.elim)
theorem do_nrmE (ha : Does G E (relV G) ta ρ ra) : Does G E (relV G) ta ρ (ra.bind nrmF) := fun pn H0 B H σ S Q P =>
  ha pn H0 B H σ S _ (P.bind fun x ex P v B1 H1 g1 r1 => by
    unfold nrmF at P
    split at P <;> first | exact P.elim | skip
    cases r1.dat with
    | tupN h1 h2 h3 => exact P _ B1 H1 g1 (.d (.tup (.inl (.inr ⟨_, h1⟩)) h3)))
theorem do_isC {c : Nat} (ha : Does G E (relV G) ta ρ ra) : Does G E (relV G) (tCB (rIsC (G.cm c)) (tCons ta (tCons (tC (.ref (G.cm c))) tNil))) ρ (ra.bind (isCF c)) := fun pn H0 B H σ S Q P =>
  ha pn H0 B H σ S _ (P.bind fun x ex P v B1 H1 g1 r1 => by
    unfold isCF at P
    split at P <;> first | exact P.elim | skip
    · rename_i c' fs
      by_cases e : c' = c
      · rw [if_pos e] at P
        have P2 := P
        subst e
        cases r1.dat with
        | ins h1 h2 => exact ⟨_, _, _, rfl, g1.bh _ _ h1, P2 _ B1 H1 g1 (.d (.bl _))⟩
      · rw [if_neg e] at P; exact P.elim
    · rename_i c' fs
      by_cases e : c' = c
      · rw [if_pos e] at P
        have P2 := P
        subst e
        cases r1 with
        | sv nb q =>
          cases q with
          | obj _ _ _ hl _ _ => exact ⟨_, _, _, rfl, hl, P2 _ B1 H1 g1 (.d (.bl _))⟩
      · rw [if_neg e] at P; exact P.elim)
theorem do_tix (ha : Does G E (relV G) ta ρ ra) (hb : Does G E (relV G) tb ρ rb) : Does G E (relV G) (tTix G.K ta (tCons tb tNil)) ρ (ra.bind fun x => (tnOf x).bind fun ds => rb.bind fun y => y.rd.bind fun y => tixF ds y) := fun pn H0 B H σ S Q P =>
  ha pn H0 B H σ S _ (P.bind fun x ex P v B1 H1 g1 r1 => by
    unfold tnOf at P
    split at P <;> first | exact P.elim | skip
    rename_i ds
    rw [R.bind_ok] at P
    cases r1.dat with
    | @tupN a o us _ h1 h2 h3 =>
      refine ⟨⟨a, o, us, rfl, g1.bh _ _ h1, h2⟩, hb pn H0 B1 H1 σ (S.go g1) _ ((P.go early_V g1).bind fun y ey P u B2 H2 g2 r2 => ?_)⟩
      cases e2 : y.rd with
      | ok y' =>
        rw [e2, R.bind_ok] at P
        unfold tixF at P
        split at P <;> first | exact P.elim | skip
        rename_i z
        obtain ⟨rfl, _⟩ := (r2.rd e2).str
        cases e3 : strsOf ds with
        | none => rw [e3] at P; exact P.elim
        | some ys =>
          rw [e3, R.ofO, R.bind_ok] at P
          rw [strsOf_eq e3] at h3
          cases e4 : idxN z ys with
          | none => rw [e4] at P; exact P.elim
          | some j =>
            rw [e4, R.ofO, R.bind_ok] at P
            obtain ⟨k1, k2⟩ := idxN_ok e4
            refine ⟨a, ys, z, j, rfl, rfl, ?_, k1, k2, P _ B2 H2 (g2) (.d (.int _))⟩
            rw [← h3.strs]
            exact .inl (.inr ⟨_, g2.hh _ _ (g1.bh _ _ h1)⟩)
      | err a b => exact (rd_noerr e2).elim
      | bad => rw [e2] at P; exact P.elim)
theorem do_tupNE (ha : Does G E (relV G) ta ρ ra) : Does G E (relV G) (tCB (rTupN G.K) (tCons ta tNil)) ρ (ra.bind fun x => x.rd.bind tupNF) := fun pn H0 B H σ S Q P =>
  ha pn H0 B H σ S _ (P.bind fun x ex P v B1 H1 g1 r1 => by
    cases e : x.rd with
    | ok d =>
      rw [e, R.bind_ok] at P
      unfold tupNF at P
      split at P <;> first | exact P.elim | skip
      rename_i ds
      obtain ⟨a, us, rfl, h1, h2⟩ := (r1.rd e).lst g1.bh
      refine ⟨a, us, rfl, sq_of h1, fun p o hp hd => ?_⟩
      have hb : B1 p = none := none_of_ex g1.bh hp
      refine P (.ref p) (upd B1 p (.frz o (.tup us))) (upd H1 p (.frz o (.tup us))) (g1.trans (Go.new g1.bh hp)) (.d (.tupN upd_same hd (h2.mono (Ex.new hb))))
    | err a b => exact (rd_noerr e).elim
    | bad => rw [e] at P; exact P.elim)
theorem do_kdG {j : Nat} {kvs : Kc} (ha : Does G E (relV G) ta ρ ra) : Does G E (relV G) (tOp (rKdG (G.kt j) kvs) (tC (.ref (G.kt j))) ta) ρ (ra.bind fun y => y.rd.bind (kdGF kvs)) := fun pn H0 B H σ S Q P =>
  ha pn H0 B H σ S _ (P.bind fun x ex P v B1 H1 g1 r1 => by
    cases e : x.rd with
    | ok d =>
      rw [e, R.bind_ok] at P
      unfold kdGF at P
      split at P <;> first | exact P.elim | skip
      rename_i z
      cases e2 : kvs.lookup z with
      | none => rw [e2] at P; exact P.elim
      | some c =>
        rw [e2] at P
        obtain ⟨rfl, _⟩ := (r1.rd e).str
        refine ⟨rfl, z, c, rfl, e2, P _ B1 H1 g1 ?_⟩
        cases c with
        | non => exact .d .non
        | bl b => exact .d (.bl b)
        | int n => exact .d (.int n)
        | str s => exact .d (.str _ (sok_lit s))
    | err a b => exact (rd_noerr e).elim
    | bad => rw [e] at P; exact P.elim)
theorem do_kdI {neg : Bool} {j : Nat} {kvs : Kc} (ha : Does G E (relV G) ta ρ ra) : Does G E (relV G) (tOp (rKdI neg (G.kt j) kvs) ta (tC (.ref (G.kt j)))) ρ (ra.bind fun y => y.rd.bind (kdIF neg kvs)) := fun pn H0 B H σ S Q P =>
  ha pn H0 B H σ S _ (P.bind fun x ex P v B1 H1 g1 r1 => by
    cases e : x.rd with
    | ok d =>
      rw [e, R.bind_ok] at P
      unfold kdIF at P
      split at P <;> first | exact P.elim | skip
      rename_i z
      obtain ⟨rfl, _⟩ := (r1.rd e).str
      exact ⟨rfl, z, rfl, P _ B1 H1 g1 (.d (.bl _))⟩
    | err a b => exact (rd_noerr e).elim
    | bad => rw [e] at P; exact P.elim)
theorem do_dictZ (h : Does G E (relR G) as ρ rs) : Does G E (relV G) (tCB (rDictZ G.K) as) ρ (rs.bind zipKF) := fun pn H0 B H σ S Q P =>
  h pn H0 B H σ S _ (P.bind fun ds eds P vs B1 H1 g1 r1 => by
    have fin : ∀ (ds es : List D) (a b : Addr) (us ws : List V), Reps G B1 us ds → Reps G B1 ws es → ((SqL G.K H1 a us ∧ SqL G.K H1 b ws) ∨ (SqT G.K H1 a us ∧ SqT G.K H1 b ws) ∨ (SqL G.K H1 a us ∧ SqT G.K H1 b ws)) →
        Post G (E σ) (relV G H0) B H ((R.ofO (zipKD ds es)).bind fun kvs => if ds.length ≤ sizeLine then .ok (ov (.dk (mergeD [] kvs))) else .bad) Q → rDictZ G.K [.ref a, .ref b] H1 Q := fun ds es a b us ws r2 r3 hq P => by
      cases e2 : zipKD ds es with
      | none => rw [e2] at P; exact P.elim
      | some kd =>
        rw [e2] at P
        have P : Post G (E σ) (relV G H0) B H (if ds.length ≤ sizeLine then .ok (ov (.dk (mergeD [] kd))) else .bad) Q := P
        by_cases c : ds.length ≤ sizeLine
        · rw [if_pos c] at P
          obtain ⟨ks, e3, e4, rk⟩ := zip_rep r2 r3 e2
          exact ⟨a, b, us, ws, ks, rfl, hq, e3, e4, by rw [r2.len]; exact c, fun p hp => Post.new (P.go (early_V (H0 := H0)) g1) g1.bh hp (.dk (RepK.merge .nil rk))⟩
        · rw [if_neg c] at P; exact P.elim
    unfold zipKF at P
    split at P <;> first | exact P.elim | skip
    · cases r1 with
      | cons r1 r2 =>
      cases r2 with
      | cons r2 r3 =>
      cases r3
      obtain ⟨a, us, rfl, a1, ru⟩ := r1.lst g1.bh
      obtain ⟨b, ws, rfl, b1, rw_⟩ := r2.lst g1.bh
      exact fin _ _ a b us ws ru rw_ (.inl ⟨sq_of a1, sq_of b1⟩) P
    · cases r1 with
      | cons r1 r2 =>
      cases r2 with
      | cons r2 r3 =>
      cases r3
      obtain ⟨a, us, rfl, a1, ru⟩ := r1.tup g1.bh
      obtain ⟨b, ws, rfl, b1, rw_⟩ := r2.tup g1.bh
      exact fin _ _ a b us ws ru rw_ (.inr (.inl ⟨a1, b1⟩)) P
    · cases r1 with
      | cons r1 r2 =>
      cases r2 with
      | cons r2 r3 =>
      cases r3
      obtain ⟨a, us, rfl, a1, ru⟩ := r1.lst g1.bh
      obtain ⟨b, ws, rfl, b1, rw_⟩ := r2.tup g1.bh
      exact fin _ _ a b us ws ru rw_ (.inr (.inr ⟨sq_of a1, b1⟩)) P)
theorem do_dictR (h : Does G E (relR G) as ρ rs) : Does G E (relV G) (tCB (rDictZr G.K) as) ρ (rs.bind zipRKF) := fun pn H0 B H σ S Q P =>
  h pn H0 B H σ S _ (P.bind fun ds eds P vs B1 H1 g1 r1 => by
    unfold zipRKF at P
    split at P <;> first | exact P.elim | skip
    rename_i xs lo hi
    split at P <;> first | exact P.elim | skip
    rename_i c
    cases e2 : zipKD xs ((List.range (hi - lo).toNat).map fun (k : Nat) => D.int (lo + (k : Int))) with
    | none => rw [e2] at P; exact P.elim
    | some kd =>
      rw [e2] at P
      have P : Post G (E σ) (relV G H0) B H (.ok (ov (.dk (mergeD [] kd)))) Q := P
      cases r1 with
      | cons r1 r2 =>
      cases r2 with
      | cons r2 r3 =>
      cases r3
      obtain ⟨a, us, rfl, a1, ru⟩ := r1.lst g1.bh
      obtain ⟨b, rfl, b1⟩ := r2.rng g1.bh
      obtain ⟨ks, e3, e4, rk⟩ := zip_rep ru rng_repV e2
      have el : (rngV lo (hi - lo).toNat).length = (hi - lo).toNat := by rw [rngV, List.length_map, List.length_range]
      exact ⟨a, b, us, ks, lo, hi, rfl, sq_of a1, b1, c.1, e3, by rw [e4, el], by rw [ru.len]; exact c.2, fun p hp => Post.new (P.go (early_V (H0 := H0)) g1) g1.bh hp (.dk (RepK.merge .nil rk))⟩)
/-! an object of ours is lent -/
def noTup : HO → Prop
  | .lst _ => True
  | .dK _ => True
  | .dT _ => True
  | .ins _ _ _ => True
  | _ => False
def cutL (B : Hp) (as : List Addr) : Hp := fun a => if a ∈ as then none else B a
theorem FvOk.noT {H0 B H : Hp} {v : V} {x : FV} {as : List Addr} (h : FvOk G H0 B H v x as) : ∀ a, a ∈ as → ∃ o, H a = some o ∧ noTup o := fun a m => by
  cases h with
  | d _ => cases m
  | own _ _ hl ho =>
    rw [List.mem_singleton.mp m]
    cases ho <;> exact ⟨_, hl, trivial⟩
theorem FsOk.noT {H0 B H : Hp} : ∀ {fv : List (Str × V)} {fs : List (Str × FV)} {as : List Addr}, FsOk G H0 B H fv fs as → ∀ a, a ∈ as → ∃ o, H a = some o ∧ noTup o
  | _, _, _, .nil, a, m => by cases m
  | _, _, _, .cons h r, a, m => (List.mem_append.mp m).elim (h.noT a) (FsOk.noT r a)
theorem SlotOk.noT {pn : Addr} {H0 B H : Hp} {v : V} {s : SV} {as : List Addr} (h : SlotOk G pn H0 B H v s as) : ∀ a, a ∈ as → ∃ o, H a = some o ∧ noTup o := fun a m => by
  cases h with
  | fv h => exact h.noT a m
  | obj _ _ _ hl r _ =>
    rcases List.mem_cons.mp m with z | z
    · rw [z]; exact ⟨_, hl, trivial⟩
    · exact r.noT a z
  | brw _ _ => cases m
  | nst _ hl hp _ hq _ _ =>
    simp only [List.mem_cons, List.not_mem_nil, or_false] at m
    rcases m with z | z | z <;> rw [z]
    · exact ⟨_, hl, trivial⟩
    · exact ⟨_, hp, trivial⟩
    · exact ⟨_, hq, trivial⟩
  | lam _ _ => cases m
  | tok _ _ => cases m
  | dob _ _ hl r _ =>
    rcases List.mem_cons.mp m with z | z
    · rw [z]; exact ⟨_, hl, trivial⟩
    · exact r.noT a z
section
variable {B H : Hp} {cs : List Addr} (e : Ex B H) (hl : ∀ a, a ∈ cs → ∃ o, H a = some o ∧ noTup o)
theorem sq_cut {a : Addr} {vs : List V} (h : SqT G.K B a vs) (e : Ex B H) (hl : ∀ a, a ∈ cs → ∃ o, H a = some o ∧ noTup o) : SqT G.K (cutL B cs) a vs := by
  rcases h with (h | ⟨o, h⟩) | h
  · refine .inl (.inl ?_)
    unfold cutL
    rw [if_neg fun m => ?_]
    · exact h
    · obtain ⟨o, h1, h2⟩ := hl a m
      rw [e _ _ h] at h1
      cases h1
      exact h2
  · refine .inl (.inr ⟨o, ?_⟩)
    unfold cutL
    rw [if_neg fun m => ?_]
    · exact h
    · obtain ⟨o, h1, h2⟩ := hl a m
      rw [e _ _ h] at h1
      cases h1
      exact h2
  · exact .inr h
mutual
theorem Rep.cutL (e : Ex B H) (hl : ∀ a, a ∈ cs → ∃ o, H a = some o ∧ noTup o) {v : V} : ∀ {d : D}, noL d = true → Rep G B v d → Rep G (Ci.cutL B cs) v d
  | .non, _, .non => .non
  | .bl _, _, .bl b => .bl b
  | .int _, _, .int i => .int i
  | .str _, _, .str s h => .str s h
  | .tup ds, n, .tup h r => .tup (sq_cut h e hl) (Reps.cutL e hl n r)
theorem Reps.cutL (e : Ex B H) (hl : ∀ a, a ∈ cs → ∃ o, H a = some o ∧ noTup o) {vs : List V} : ∀ {ds : List D}, noL.noLs ds = true → Reps G B vs ds → Reps G (Ci.cutL B cs) vs ds
  | [], _, .nil => .nil
  | d :: ds, n, .cons h r => by
    have n' : (noL d && noL.noLs ds) = true := n
    rw [Bool.and_eq_true] at n'
    exact .cons (Rep.cutL e hl n'.1 h) (Reps.cutL e hl n'.2 r)
end
end
theorem do_lendO {fa : En → R RV} (ha : ∀ ρ, Does G E (relV G) ta ρ (fa ρ)) : Does G E (relV G) ta ρ (match ρ[i]? with
    | some (some s) => if s.isBrw then .bad else lentR (fa (ρ.set i (some (.d s.dat))))
    | _ => .bad) := fun pn H0 B H σ S Q P => by
  split at P <;> first | exact P.elim | skip
  rename_i s es
  cases nb : s.isBrw with
  | true => simp only [nb, if_true] at P; exact P.elim
  | false =>
  simp only [nb, Bool.false_eq_true, if_false] at P
  obtain ⟨ow, S'⟩ := S
  obtain ⟨v, h1, h2⟩ := S'.ok i _ es
  obtain ⟨B1, a1, a2, a3, a4⟩ := h2.freeze nb S'.ex
  have own0 : ∀ a, a ∈ ow i → H0 a = none ∧ B a = none := fun a m => ⟨(h2.addr m).1, (h2.addr m).2.1⟩
  have S2 : Slots G pn H0 B1 H σ (ρ.set i (some (.d s.dat))) := by
    refine ⟨_, S'.others (as' := []) es ⟨a1, fun b o _ nb hb => a4 b nb hb, offT⟩ S'.ex0 a2 (fun t e => ?_) fun a m => nomatch m⟩
    cases e
    exact ⟨v, h1, .fv (.d a3)⟩
  have go : ∀ B' H', Go G B1 H B' H' → Go G B H (cutL B' (ow i)) H' ∧ ∀ a, a ∈ ow i → ∃ o, H' a = some o ∧ noTup o := fun B' H' g => by
    refine ⟨⟨fun b u q => ?_, fun b u q => ?_, g.hx, fun b u q1 q2 => ?_⟩, fun a m => ?_⟩
    · unfold cutL
      rw [if_neg fun m => by rw [(own0 b m).2] at q; cases q]
      exact g.bb b u (a1 b u q)
    · unfold cutL at q
      by_cases c : b ∈ ow i
      · rw [if_pos c] at q; cases q
      · rw [if_neg c] at q
        exact g.bh b u q
    · unfold cutL
      by_cases c : b ∈ ow i
      · rw [if_pos c]
      · rw [if_neg c]
        exact g.fr b u q1 (a4 b c q2)
    · obtain ⟨o, k1, k2⟩ := h2.noT a m
      exact ⟨o, g.hh _ _ k1 (h2.notTb m k1), k2⟩
  refine ha _ pn H0 _ H σ S2 _ ?_
  cases hr : fa (ρ.set i (some (.d s.dat))) with
  | bad => rw [hr] at P; exact P.elim
  | err x f =>
    rw [hr] at P
    cases f with
    | none => exact fun B' H' g => P _ H' (go B' H' g).1
    | some p =>
      unfold lentR at P
      by_cases c : noL p.2 = true
      · simp only [if_pos c] at P
        exact fun B' H' dd v g a1 a2 => P _ H' dd v (go B' H' g).1 a1 (a2.cutL g.bh (go B' H' g).2 c)
      · simp only [if_neg c] at P
        exact P.elim
  | ok x =>
    rw [hr] at P
    unfold lentR at P
    intro v B' H' g rr
    obtain ⟨g', hl⟩ := go B' H' g
    by_cases c : x.noL = true
    · simp only [if_pos c] at P
      refine P v _ H' g' ?_
      unfold RV.noL at c
      split at c <;> first | (cases c; done) | skip
      · exact .d (rr.dat.cutL g.bh hl c)
      · cases rr with
        | sv nb q =>
          cases q with
          | fv q =>
            cases q with
            | own z1 z2 z3 q =>
              cases q with
              | lst q =>
                refine .new z1 ?_ z3 (.lst (q.cutL g.bh hl c))
                unfold cutL
                split
                · rfl
                · exact z2
    · simp only [if_neg c] at P
      exact P.elim
end
end Ci
end

section
set_option Elab.async false
set_option linter.all false
set_option maxRecDepth 100000
set_option maxHeartbeats 2000000
/-! ## statements do what they compute -/
namespace Ci
open PySem PySem.Spec PyProof.Rows L2 Evl

section
variable {G : Gm} {E : XE2} {ρ : En} {ta : TE} {ra : R RV} {i : Nat} {as : TA} {rs : R (List D)} {pn : Addr} {ts tu : TS} {fs fu : En → SR}
theorem XEnd.x {B0 H0 B H : Hp} {σ : L2.St} {x : Nat} {f : Option (Str × D)} (g : Go G B0 H0 B H) (S : Slots G pn H0 B H σ ρ) (h : XEnd G pn E B0 H0 x ρ f) : XOk G (E σ) B H x f := by
  cases f with
  | none => exact fun B' H' g' => h B' H' σ (g.trans g') (S.go g')
  | some p => exact fun B' H' dd v g' a r => h B' H' σ dd v (g.trans g') (S.go g') a r
/-- an expression within a statement -/
theorem Sat.sr {α β : Type} {rel : Hp → Hp → Hp → β → α → Prop} {B0 H0 B H : Hp} {σ : L2.St} {D' : Ends} {r : R α} {k : α → SR} {Q : β → Hp → Prop} (s : Sat G pn E B0 H0 D' (r.sr ρ k)) (g : Go G B0 H0 B H) (S : Slots G pn H0 B H σ ρ)
    (hk : ∀ a, r = .ok a → Sat G pn E B0 H0 D' (k a) → ∀ b B' H', Go G B H B' H' → rel H B' H' b a → Q b H') : Post G (E σ) rel B H r Q := by
  cases r with
  | ok a => exact fun b B' H' g' q => hk a rfl s b B' H' g' q
  | err x f => exact XEnd.x g S s
  | bad => exact s
theorem Sat.gr {α : Type} {B0 H0 : Hp} {D' : Ends} {r : R α} {k : α → SR} (s : Sat G pn E B0 H0 D' (r.gr k)) : ∃ a, r = .ok a ∧ Sat G pn E B0 H0 D' (k a) := by
  cases r with
  | ok a => exact ⟨a, rfl, s⟩
  | err x f => exact s.elim
  | bad => exact s.elim
theorem Sat.imp {B0 H0 : Hp} {D' D2 : Ends} {r : SR} (s : Sat G pn E B0 H0 D' r) (hn : ∀ σ H, D'.nx σ H → D2.nx σ H) (hb : ∀ σ H, D'.bk σ H → D2.bk σ H) (hc : ∀ σ H, D'.ct σ H → D2.ct σ H) (hr : ∀ v H, D'.rt v H → D2.rt v H) : Sat G pn E B0 H0 D2 r := by
  cases r with
  | nx ρ => exact fun B H σ g S => hn _ _ (s B H σ g S)
  | bk ρ => exact fun B H σ g S => hb _ _ (s B H σ g S)
  | ct ρ => exact fun B H σ g S => hc _ _ (s B H σ g S)
  | rt v ρ => exact fun B H σ w t e nb g S => hr _ _ (s B H σ w t e nb g S)
  | err x f ρ => exact s
  | bad => exact s
theorem do_skip : Runs G E tNext ρ (.nx ρ) := fun pn B0 H0 B H σ g S D' s => s B H σ g S
theorem do_sq (ha : Runs G E ts ρ (fs ρ)) (hb : ∀ ρ, Runs G E tu ρ (fu ρ)) : Runs G E (tSeq ts tu) ρ (match fs ρ with | .nx ρ' => fu ρ' | o => o) := fun pn B0 H0 B H σ g S D' s => by
  refine ha pn B0 H0 B H σ g S _ ?_
  cases h : fs ρ with
  | nx ρ' =>
    rw [h] at s
    exact fun B1 H1 σ1 g1 S1 => hb ρ' pn B0 H0 B1 H1 σ1 g1 S1 D' s
  | bk ρ' => rw [h] at s; exact s
  | ct ρ' => rw [h] at s; exact s
  | rt v ρ' => rw [h] at s; exact s
  | err x f ρ' => rw [h] at s; exact s
  | bad => rw [h] at s; exact s
theorem do_asgN (ha : Does G E (relV G) ta ρ ra) : Runs G E (tAsg ta (gName i)) ρ (ra.sr ρ fun | .sv s => .nx (ρ.set i (some s)) | .vw _ => .bad) := fun pn B0 H0 B H σ g S D' s =>
  ha pn H0 B H σ S _ (s.sr g S fun x ex s v B1 H1 g1 r1 => by
    cases x with
    | vw y => exact s.elim
    | sv t =>
      cases r1 with
      | sv nb h => exact s B1 H1 _ (g.trans g1) ((SlotsV.mk S g1 nb (h.pin nb)).set i))
/-- an own value of an expression becomes data -/
theorem toData {B0 H0 B H B1 H1 : Hp} {σ : L2.St} {x : RV} {d : D} {v : V} (g : Go G B0 H0 B H) (S : Slots G pn H0 B H σ ρ) (g1 : Go G B H B1 H1) (r : RvOk G H B1 H1 v x) (e : x.toD = .ok d) : ∃ B2, Go G B H B2 H1 ∧ Rep G B2 v d := by
  cases x with
  | vw y => cases e
  | sv t =>
    cases e
    obtain ⟨B2, a1, a2, a3, a4⟩ := r.toD g1.bh
    exact ⟨B2, ⟨g1.bb.trans a2, a3, g1.hx, fun a o q1 q2 => a4 a o q1 (g1.fr a o q1 q2)⟩, a1⟩
theorem do_asgG {tg : TG} {js : List Nat} {fg : D → En → R En} (ha : Does G E (relV G) ta ρ ra) (hg : ∀ x ρ, TgS G tg js x ρ (fg x ρ)) : Runs G E (tAsg ta tg) ρ (ra.sr ρ fun x => x.toD.gr fun d => (fg d ρ).gr .nx) := fun pn B0 H0 B H σ g S D' s =>
  ha pn H0 B H σ S _ (s.sr g S fun x ex s v B1 H1 g1 r1 => by
    obtain ⟨d, e1, s⟩ := s.gr
    obtain ⟨ρ', e2, s⟩ := s.gr
    obtain ⟨B2, g2, r2⟩ := toData g S g1 r1 e1
    exact hg d ρ ρ' e2 pn H0 B2 H1 σ v (S.go g2) r2 _ fun σ' S' _ _ _ => s B2 H1 σ' (g.trans g2) S')
theorem do_asgF {c' : Nat} {f : Str} (ha : Does G E (relV G) ta ρ ra) (hc : Cls G.K (G.cm c')) (hn : NoAttr G.K (G.cm c') f) : Runs G E (sFld G.K (tVar i) ta f) ρ (ra.sr ρ fun
    | .sv (.fv x) => match ρ[i]? with
      | some (some (.obj sf c fs)) => if c = c' ∧ fs.length < 900 then .nx (ρ.set i (some (.obj sf c (putX f x fs)))) else .bad
      | _ => .bad
    | _ => .bad) := fun pn B0 H0 B H σ g S D' s0 =>
  ha pn H0 B H σ S _ (s0.sr g S fun x ex s v B1 H1 g1 r1 => by
    rcases x with (x | _ | _) | x <;> first | exact s.elim | skip
    cases ho : ρ[i]? with
    | none => rw [ho] at s; exact s.elim
    | some t =>
    rw [ho] at s
    rcases t with _ | (_ | ⟨sf, c, fs⟩ | _) <;> first | exact s.elim | skip
    by_cases cond : c = c' ∧ fs.length < 900
    · simp only [if_pos cond] at s
      obtain ⟨rfl, hl⟩ := cond
      cases r1 with
      | sv nb h =>
      obtain ⟨l, dx, fv, e1, e2, e3, S2⟩ := (SlotsV.mk S g1 nb (h.pin nb)).fld f ho
      refine ⟨.ref l, e1, l, _, dx, fv, rfl, e2, hc, hn, by rw [e3]; omega, ?_⟩
      have g2 := g.trans g1
      exact s B1 _ _ ⟨g2.bb, S2.ex, S2.ex0, g2.fr⟩ S2
    · simp only [if_neg cond] at s
      exact s.elim)
/-! places -/
theorem getP_var {i : Nat} {x : FV} (h : getP ρ (.pvar i) = .ok x) : ρ[i]? = some (some (.fv x)) ∧ ∀ y, x ≠ .d y := by
  simp only [getP] at h
  cases e : ρ[i]? with
  | none => rw [e] at h; cases h
  | some t =>
    rw [e] at h
    rcases t with _ | (y | _ | _ | _) <;> first | (cases h; done) | skip
    cases y <;> cases h <;> exact ⟨rfl, fun y z => nomatch z⟩
theorem getP_fld {c i : Nat} {f : Str} {x : FV} (h : getP ρ (.pfld c i f) = .ok x) : ∃ sf fs, ρ[i]? = some (some (.obj sf c fs)) ∧ fs.lookup f = some x ∧ ∀ y, x ≠ .d y := by
  simp only [getP] at h
  cases e : ρ[i]? with
  | none => rw [e] at h; cases h
  | some t =>
    rw [e] at h
    rcases t with _ | (_ | ⟨sf, c', fs⟩ | _ | _) <;> first | (cases h; done) | skip
    simp only at h
    by_cases ec : c' = c
    · rw [if_pos ec] at h
      subst ec
      refine ⟨sf, fs, rfl, ?_⟩
      cases el : fs.lookup f with
      | none => rw [el] at h; cases h
      | some y =>
        rw [el] at h
        cases y <;> cases h <;> exact ⟨rfl, fun y z => nomatch z⟩
    · rw [if_neg ec] at h
      cases h
theorem getN_ok {k : Bool} {o : Option (Option SV)} {ds : List D} (h : getN k o = .ok ds) : ∃ xs ys, o = some (some (.nst xs ys)) ∧ ds = if k then ys else xs := by
  unfold getN at h
  split at h
  · cases h
    exact ⟨_, _, rfl, rfl⟩
  · cases h
theorem toL_ok {Hi : Hp} {x : RV} {v : V} {ds : List D} (r : RvOk G Hi B H v x) (h : x.toL = .ok ds) : ∃ a vs, v = .ref a ∧ Hi a = none ∧ B a = none ∧ H a = some (.lst vs) ∧ Reps G B vs ds := by
  unfold RV.toL at h
  split at h
  · cases h
    cases r with
    | sv nb r =>
      cases r with
      | fv r =>
        cases r with
        | own h0 hb hl r =>
          cases r with
          | lst r => exact ⟨_, _, rfl, h0, hb, hl, r⟩
  · cases h
theorem nix_at {H : Hp} {σ : L2.St} {i : Nat} {l p q : Addr} {k : Bool} {Q : VK} (h1 : σ[i]? = some (some (.ref l))) (h2 : H l = some (.lst [.ref p, .ref q])) (h : Q (.ref (if k then q else p)) H) : tOp (rIx G.K) (tVar i) (tC (.int (if k then 1 else 0))) σ H Q := by
  refine ⟨_, h1, .inl ⟨l, _, _, .ref (if k then q else p), rfl, rfl, sq_of h2, ?_, h⟩⟩
  cases k <;> rfl
theorem do_nix {i : Nat} {k : Bool} : Does G E (relV G) (tOp (rIx G.K) (tVar i) (tC (.int (if k then 1 else 0)))) ρ ((getN k ρ[i]?).bind fun ds => .ok (.vw (.lst ds))) := fun pn H0 B H σ S Q P => by
  cases e : getN k ρ[i]? with
  | bad => rw [e] at P; exact P.elim
  | err x f => unfold getN at e; split at e <;> cases e
  | ok ds =>
    rw [e, R.bind_ok] at P
    obtain ⟨xs, ys, eo, rfl⟩ := getN_ok e
    obtain ⟨l, p, q, us, ws, ow, S', e1, e2, h0, hl, hp, rp, hq, rq, nd⟩ := S.nst eo
    refine nix_at e2 hl (P _ B H (Go.refl S.ex) ?_)
    cases k with
    | false => exact .vw hp (.lst rp)
    | true => exact .vw hq (.lst rq)
theorem do_lrg (ha : Does G E (relV G) ta ρ ra) : Does G E (relV G) (tLstRg (tRg1 ta)) ρ (ra.bind fun x => x.toI.bind lrgF) := fun pn H0 B H σ S Q P =>
  ha pn H0 B H σ S _ (P.bind fun x ex P v B1 H1 g1 r1 => by
    cases e : x.toI with
    | ok n =>
      rw [e, R.bind_ok] at P
      unfold lrgF at P
      by_cases c : -(2 ^ 62) ≤ n ∧ n ≤ 1000000
      · rw [if_pos c] at P
        refine ⟨n, toI_ok r1 e, ⟨by omega, by omega, c.1, by omega, by omega⟩, fun p hp => ?_⟩
        have er : rng 0 n.toNat = ((List.range n.toNat).map fun (k : Nat) => (0 + (k : Int))).map D.int := by unfold rng; rw [List.map_map]; rfl
        have ev' : rgV 0 n = ((List.range n.toNat).map fun (k : Nat) => (0 + (k : Int))).map V.int := by unfold rgV; rw [List.map_map, Int.sub_zero]; rfl
        rw [er] at P
        rw [ev']
        exact Post.new (P.go (early_V (H0 := H0)) g1) g1.bh hp (.lst (Reps.of_ints _))
      · rw [if_neg c] at P
        exact P.elim
    | err a b => exact (toI_noerr e).elim
    | bad => rw [e] at P; exact P.elim)
theorem do_nset {i : Nat} {tb : TE} {rb : R RV} (ha : Does G E (relV G) ta ρ ra) (hb : Does G E (relV G) tb ρ rb) : Runs G E (tAsg (tLst (tCons ta (tCons tb tNil))) (gName i)) ρ
    (ra.sr ρ fun x => x.toL.gr fun xs => rb.sr ρ fun y => y.toL.gr fun ys => .nx (ρ.set i (some (.nst xs ys)))) := fun pn B0 H0 B H σ g S D' s0 =>
  ha pn H0 B H σ S _ (s0.sr g S fun x ex s v B1 H1 g1 r1 => by
    obtain ⟨xs, e1, s1⟩ := s.gr
    obtain ⟨a1, us, rfl, p1, p2, p3, p4⟩ := toL_ok r1 e1
    refine hb pn H0 B1 H1 σ (S.go g1) _ (s1.sr (g.trans g1) (S.go g1) fun y ey s2 u B3 H3 g3 r3 => ?_)
    obtain ⟨ys, e2, s3⟩ := s2.gr
    obtain ⟨a2, ws, rfl, q1, q2, q3, q4⟩ := toL_ok r3 e2
    refine ⟨Nat.le_of_ble_eq_true rfl, fun l hl => ?_⟩
    have g4 := g1.trans g3
    have gl : Go G B3 H3 B3 (upd H3 l (.lst [.ref a1, .ref a2])) := Go.newO g3.bh hl
    have p5 := g3.hh _ _ p3
    have n1 : a1 ≠ l := ne_of_none p5 hl
    have n2 : a2 ≠ l := ne_of_none q3 hl
    have n3 : a1 ≠ a2 := ne_of_none p3 q1
    have ok : SlotOk G pn H B3 (upd H3 l (.lst [.ref a1, .ref a2])) (.ref l) (.nst xs ys) [l, a1, a2] :=
      .nst (nst_mem.mpr ⟨⟨g4.hx.n _ hl, none_of_ex g3.bh hl⟩, ⟨p1, g3.fr _ _ p3 p2⟩, g1.hx.n _ q1, q2⟩) upd_same (by rw [upd_ne n1]; exact p5) (p4.mono g3.bb) (by rw [upd_ne n2]; exact q3) q4
        (List.nodup_cons.mpr ⟨fun m => (List.mem_cons.mp m).elim (fun z => n1 z.symm) fun m => n2 (List.mem_singleton.mp m).symm, List.nodup_cons.mpr ⟨fun m => n3 (List.mem_singleton.mp m), List.nodup_cons.mpr ⟨List.not_mem_nil, List.nodup_nil⟩⟩⟩)
    exact s3 B3 _ _ (g.trans (g4.trans gl)) ((SlotsV.mk S (g4.trans gl) rfl ok).set i))
theorem _root_.Ci.Slots.noN {H0 B H B' H' : Hp} {σ : L2.St} {i : Nat} {xs ys : List D} {l p q : Addr} {k : Bool} {o : HO} (S : Slots G pn H0 B' H' σ ρ) (hi : ρ[i]? = some (some (.nst xs ys))) (hs : σ[i]? = some (some (.ref l))) (hl : H l = some (.lst [.ref p, .ref q])) (g : Go G B H B' H') :
    Slots G pn H0 B' (upd H' (if k then q else p) o) σ (ρ.set i none) := by
  obtain ⟨l', p', q', us, ws, ow, S', e1, e2, h0, hl', hp, rp, hq, rq, nd⟩ := S.nst hi
  rw [hs] at e2
  cases e2
  rw [g.hh _ _ hl] at hl'
  cases hl'
  have m : (if k then q else p) ∈ [l, p, q] := by
    cases k with
    | false => exact nst_p
    | true => exact nst_q
  exact ⟨_, S'.others (as' := []) hi (e1 ▸ Off.up m) (by cases k with | false => exact updT S'.ex0 (h0 _ m).1 hp | true => exact updT S'.ex0 (h0 _ m).1 hq) (upd_ex S'.ex (h0 _ m).2) (fun t e => nomatch e) fun a m => nomatch m⟩
theorem place_ok {H0 B H : Hp} {σ : L2.St} {p : P .p} {x : FV} (wf : Wf G p) (S : Slots G pn H0 B H σ ρ) (h : getP ρ p = .ok x) : ∃ a o, (∀ (H' : Hp) (Q : VK), ExT G H H' → Q (.ref a) H' → den G E p σ H' Q) ∧ B a = none ∧ H a = some o ∧ Ho G B o x ∧
    ∀ B' H' o' x', Go G B H B' H' → Ho G B' o' x' → Slots G pn H0 B' (upd H' a o') σ (putP ρ x' p) := by
  cases p with
  | pvar i =>
    obtain ⟨e, nd⟩ := getP_var h
    obtain ⟨a, o, h1, h2, h3, h4⟩ := S.own e nd
    refine ⟨a, o, fun H' Q e q => ⟨_, h1, q⟩, h2, h3, h4, fun B' H' o' x' g r => ?_⟩
    exact (S.go g).up e h1 (h4.mono g.bb) r
  | pfld c i f =>
    obtain ⟨sf, fs, e, el, nd'⟩ := getP_fld h
    obtain ⟨l, dx, fv, ow, as, zs, S', e1, e2, e3, e4, e5, e6, e7⟩ := S.obj e
    obtain ⟨v, bs, k1, k2, k3⟩ := e6.look el
    cases k2 with
    | d r => exact absurd rfl (nd' _)
    | @own a o _ h0 hb hl ho =>
      refine ⟨a, o, fun H' Q eh q => ⟨.ref l, e2, l, _, dx, fv, _, rfl, eh.k _ _ e5 rfl, wf.1, wf.2, k1, q⟩, hb, hl, ho, fun B' H' o' x' g r => ?_⟩
      obtain ⟨l', dx', fv', a', o2, q1, q2, q3, q4, q5, q6, q7⟩ := (S.go g).upF (x' := x') (o' := o') e el nd' r
      rw [e2] at q1
      cases q1
      rw [g.hh _ _ e5] at q2
      cases q2
      rw [k1] at q3
      cases q3
      simp only [putP, e]
      exact q7
  | pnst i k =>
    cases e : getN k ρ[i]? with
    | bad => simp only [getP, e] at h; cases h
    | err z f => unfold getN at e; split at e <;> cases e
    | ok ds =>
      simp only [getP, e, R.bind_ok] at h
      cases h
      obtain ⟨xs, ys, eo, rfl⟩ := getN_ok e
      obtain ⟨l, p, q, us, ws, ow, S', e1, e2, h0, hl, hp, rp, hq, rq, nd⟩ := S.nst eo
      refine ⟨if k then q else p, .lst (if k then ws else us), fun H' Q eh z => nix_at e2 (eh.k _ _ hl rfl) z, ?_, ?_, ?_, fun B' H' o' x' g r => ?_⟩
      · cases k with
        | false => exact (h0 _ nst_p).2
        | true => exact (h0 _ nst_q).2
      · cases k with
        | false => exact hp
        | true => exact hq
      · cases k with
        | false => exact .lst rp
        | true => exact .lst rq
      · cases r with
        | lst r =>
          obtain ⟨l', p', q', us', ws', z1, z2, z3, z4, z5⟩ := (S.go g).upN (k := k) eo r
          rw [e2] at z1
          cases z1
          rw [g.hh _ _ hl] at z2
          cases z2
          simp only [putP, putN, eo]
          exact z5
        | dk r => exact (S.go g).noN eo e2 hl g
        | dt r => exact (S.go g).noN eo e2 hl g
theorem putNext {B0 H0 B H B1 H1 : Hp} {σ : L2.St} {ρ' : En} {a : Addr} {o : HO} (g : Go G B0 H0 B H) (g1 : Go G B H B1 H1) (S1 : Slots G pn H0 B1 (upd H1 a o) σ ρ') : Go G B0 H0 B1 (upd H1 a o) := by
  have g2 := g.trans g1
  exact ⟨g2.bb, S1.ex, S1.ex0, g2.fr⟩
theorem getL_ok {p : P .p} {ds : List D} (h : getL ρ p = .ok ds) : getP ρ p = .ok (.lst ds) := by
  unfold getL at h
  split at h <;> cases h
  assumption
/-- a list at a place -/
theorem placeL {H0 B H : Hp} {σ : L2.St} {p : P .p} {ds : List D} (wf : Wf G p) (S : Slots G pn H0 B H σ ρ) (h : getL ρ p = .ok ds) : ∃ a vs, (∀ (H' : Hp) (Q : VK), ExT G H H' → Q (.ref a) H' → den G E p σ H' Q) ∧ H a = some (.lst vs) ∧ Reps G B vs ds ∧
    ∀ B' H' vs' ds', Go G B H B' H' → Reps G B' vs' ds' → Slots G pn H0 B' (upd H' a (.lst vs')) σ (putP ρ (.lst ds') p) := by
  obtain ⟨a, o, k1, k2, k3, k4, k5⟩ := place_ok (E := E) wf S (getL_ok h)
  cases k4 with
  | lst r => exact ⟨a, _, k1, k3, r, fun B' H' vs' ds' g r' => k5 B' H' _ _ g (.lst r')⟩
theorem ofO_ok {α : Type} {o : Option α} {a : α} (h : R.ofO o = .ok a) : o = some a := by
  cases o <;> cases h
  rfl
theorem do_asgI {p : P .p} {ti : TE} {ri : R RV} (wf : Wf G p) (ha : Does G E (relV G) ta ρ ra) (hi : Does G E (relV G) ti ρ ri) : Runs G E (tAsg ta (gSub (den G E p) ti rSetL)) ρ
    (ra.sr ρ fun x => x.toD.gr fun d => (getL ρ p).gr fun ds => ri.sr ρ fun y => y.toI.gr fun n => (R.ofO (ixN ds.length n)).gr fun j => .nx (putP ρ (.lst (ds.set j d)) p)) := fun pn B0 H0 B H σ g S D' s0 =>
  ha pn H0 B H σ S _ (s0.sr g S fun x ex s v B1 H1 g1 r1 => by
    obtain ⟨d, e1, s1⟩ := s.gr
    obtain ⟨B2, g2, r2⟩ := toData g S g1 r1 e1
    obtain ⟨ds, hp, s2⟩ := s1.gr
    obtain ⟨a, vs, k1, k3, r, k5⟩ := placeL (E := E) wf S hp
    refine k1 H1 _ g1.hx ?_
    refine hi pn H0 B2 H1 σ (S.go g2) _ (s2.sr (g.trans g2) (S.go g2) fun y ey s3 u B3 H3 g3 r3 => ?_)
    obtain ⟨n, e2, s4⟩ := s3.gr
    obtain ⟨j, hj, s5⟩ := s4.gr
    cases toI_ok r3 e2
    have g4 := g2.trans g3
    refine ⟨a, vs, n, j, rfl, rfl, g4.hh _ _ k3, by rw [r.len]; exact ofO_ok hj, ?_⟩
    have S2 := k5 B3 H3 (vs.set j v) (ds.set j d) g4 ((r.mono g4.bb).set (r2.mono g3.bb) j)
    exact s5 B3 _ _ (putNext g g4 S2) S2)
theorem getI_ok {ds : List D} {n v : Int} (h : getI ds n = .ok v) : 0 ≤ n ∧ n < 2 ^ 63 ∧ ds[n.toNat]? = some (.int v) := by
  unfold getI at h
  split at h
  · next c =>
    split at h <;> first | cases h | skip
    next e => exact ⟨c.1, c.2, e⟩
  · cases h
theorem do_augI {p : P .p} {ti : TE} {ri : R RV} {sub : Bool} (wf : Wf G p) (hi : Does G E (relV G) ti ρ ri) (ha : Does G E (relV G) ta ρ ra) : Runs G E (tAugS (den G E p) ti ta rGetL (ipI fun m n => if sub then m - n else m + n) rSetL) ρ
    ((getL ρ p).gr fun ds => ri.sr ρ fun y => y.toI.gr fun n => (getI ds n).gr fun v => ra.sr ρ fun z => z.toI.gr fun m => .nx (putP ρ (.lst (ds.set n.toNat (.int (if sub then v - m else v + m)))) p)) := fun pn B0 H0 B H σ g S D' s0 => by
  obtain ⟨ds, hp, s1⟩ := s0.gr
  obtain ⟨a, vs, k1, k3, r, k5⟩ := placeL (E := E) wf S hp
  refine k1 H _ (ExT.refl H) ?_
  refine hi pn H0 B H σ S _ (s1.sr g S fun y ey s2 u B1 H1 g1 r1 => ?_)
  obtain ⟨n, e2, s3⟩ := s2.gr
  cases toI_ok r1 e2
  obtain ⟨v, e3, s4⟩ := s3.gr
  obtain ⟨n0, n1, hv⟩ := getI_ok e3
  obtain ⟨w, w1, w2⟩ := r.get hv
  cases w2
  refine ⟨a, vs, n, _, rfl, rfl, g1.hh _ _ k3, n0, n1, w1, ?_⟩
  refine ha pn H0 B1 H1 σ (S.go g1) _ (s4.sr (g.trans g1) (S.go g1) fun z ez s5 u3 B3 H3 g3 r3 => ?_)
  obtain ⟨m, e5, s6⟩ := s5.gr
  cases toI_ok r3 e5
  refine ⟨v, m, rfl, rfl, ?_⟩
  have g4 := g1.trans g3
  have lt : n.toNat < vs.length := (List.getElem?_eq_some_iff.mp w1).1
  refine ⟨a, vs, n, n.toNat, rfl, rfl, g4.hh _ _ k3, ?_, ?_⟩
  · unfold ixN
    rw [if_pos n0, if_pos (by omega)]
  · have S2 := k5 B3 H3 (vs.set n.toNat _) (ds.set n.toNat _) g4 ((r.mono g4.bb).set (.int (if sub then v - m else v + m)) n.toNat)
    exact s6 B3 _ _ (putNext g g4 S2) S2
theorem do_mut {o : Mo} {p : P .p} (wf : Wf G p) (ha : Does G E (relA G) as ρ rs) : Runs G E (tDrop (tBM G.K "list" o.den (den G E p) as)) ρ ((getL ρ p).gr fun xs => rs.sr ρ fun ds => (o.fn xs ds).gr fun ys => .nx (putP ρ (.lst ys) p)) := fun pn B0 H0 B H σ g S D' s0 => by
  obtain ⟨es, hp, s1⟩ := s0.gr
  obtain ⟨a, us, k1, k3, r, k5⟩ := placeL (E := E) wf S hp
  refine k1 H _ (ExT.refl H) ⟨.inl ⟨rfl, _, sq_of k3⟩, ?_⟩
  refine ha pn H0 B H σ S _ (s1.sr g S fun ds eds s2 vs B1 H1 g1 r1 => ?_)
  obtain ⟨ys, e2, s3⟩ := s2.gr
  have hl := g1.hh _ _ k3
  cases o with
  | append =>
    rcases ds with _ | ⟨d, _ | ⟨_, _⟩⟩ <;> first | (cases e2; done) | skip
    simp only [Mo.fn] at e2
    by_cases c : es.length < sizeLine
    · rw [if_pos c] at e2
      cases e2
      cases r1 with
      | cons r1 r2 =>
      cases r2
      refine ⟨a, us, _, rfl, rfl, hl, by rw [r.len]; exact c, ?_⟩
      have S2 := k5 B1 H1 (us ++ [_]) (es ++ [d]) g1 ((r.mono g1.bb).app (.cons r1 .nil))
      exact s3 B1 _ _ (putNext g g1 S2) S2
    · rw [if_neg c] at e2
      cases e2
  | insert =>
    rcases ds with _ | ⟨d0, _ | ⟨d, _ | ⟨_, _⟩⟩⟩ <;> first | (cases e2; done) | (cases d0 <;> first | (cases e2; done) | skip)
    rename_i n
    simp only [Mo.fn] at e2
    by_cases c : es.length < sizeLine ∧ 0 ≤ n ∧ n < 2 ^ 63
    · rw [if_pos c] at e2
      cases e2
      cases r1 with
      | cons r1 r2 =>
      cases r2 with
      | cons r2 r3 =>
      cases r3
      cases r1
      refine ⟨a, us, n, _, rfl, rfl, hl, by rw [r.len]; exact c.1, c.2.1, c.2.2, ?_⟩
      have rr := r.mono g1.bb
      have S2 := k5 B1 H1 (us.take n.toNat ++ [_] ++ us.drop n.toNat) (es.take n.toNat ++ [d] ++ es.drop n.toNat) g1 (((rr.take n.toNat).app (.cons r2 .nil)).app (rr.drop n.toNat))
      exact s3 B1 _ _ (putNext g g1 S2) S2
    · rw [if_neg c] at e2
      cases e2
theorem do_ext {p : P .p} (wf : Wf G p) (ha : Does G E (relV G) ta ρ ra) : Runs G E (tDrop (tBM G.K "list" rExtend (den G E p) (tCons ta tNil))) ρ ((getL ρ p).gr fun ds => ra.sr ρ fun y => y.rd.gr fun d => match d with
    | .lst es => if ds.length + es.length ≤ sizeLine then .nx (putP ρ (.lst (ds ++ es)) p) else .bad
    | _ => .bad) := fun pn B0 H0 B H σ g S D' s0 => by
  obtain ⟨ds, hp, s1⟩ := s0.gr
  obtain ⟨a, us, k1, k3, r, k5⟩ := placeL (E := E) wf S hp
  refine k1 H _ (ExT.refl H) ⟨.inl ⟨rfl, _, sq_of k3⟩, ?_⟩
  refine ha pn H0 B H σ S _ (s1.sr g S fun y ey s2 v B1 H1 g1 r1 => ?_)
  obtain ⟨d, e2, s3⟩ := s2.gr
  cases d with
  | lst es =>
    by_cases c : ds.length + es.length ≤ sizeLine
    · simp only [if_pos c] at s3
      obtain ⟨b, ws, rfl, e3, r2⟩ := (r1.rd e2).lst g1.bh
      refine ⟨a, b, us, ws, rfl, rfl, g1.hh _ _ k3, e3, by rw [r.len, r2.len]; exact c, ?_⟩
      have S2 := k5 B1 H1 (us ++ ws) (ds ++ es) g1 ((r.mono g1.bb).app r2)
      exact s3 B1 _ _ (putNext g g1 S2) S2
    · simp only [if_neg c] at s3
      exact s3.elim
  | _ => exact s3.elim
theorem Reps.last {B : Hp} {vs : List V} {ds : List D} {d : D} (r : Reps G B vs ds) (h : ds.getLast? = some d) : ∃ v, vs[vs.length - 1]? = some v ∧ Rep G B v d := by
  rw [List.getLast?_eq_getElem?] at h
  rw [r.len]
  exact r.get h
theorem Reps.dropLast {B : Hp} {vs : List V} {ds : List D} (r : Reps G B vs ds) : Reps G B vs.dropLast ds.dropLast := by
  rw [List.dropLast_eq_take, List.dropLast_eq_take, r.len]
  exact r.take _
theorem do_popD {p : P .p} (wf : Wf G p) : Runs G E (tDrop (tBM0 G.K "list" rPop (den G E p))) ρ ((getL ρ p).gr fun ds => if ds.isEmpty then .bad else .nx (putP ρ (.lst ds.dropLast) p)) := fun pn B0 H0 B H σ g S D' s0 => by
  obtain ⟨ds, hp, s1⟩ := s0.gr
  obtain ⟨a, us, k1, k3, r, k5⟩ := placeL (E := E) wf S hp
  refine k1 H _ (ExT.refl H) ⟨.inl ⟨rfl, _, sq_of k3⟩, ?_⟩
  cases hl : ds.getLast? with
  | none =>
    rw [List.getLast?_eq_none_iff] at hl
    subst hl
    exact s1.elim
  | some d =>
    have ne : ds.isEmpty = false := by
      cases ds with
      | nil => cases hl
      | cons => rfl
    rw [ne] at s1
    obtain ⟨v, e1, r1⟩ := r.last hl
    refine ⟨a, us, v, rfl, rfl, k3, e1, ?_⟩
    have S2 := k5 B H _ _ (Go.refl S.ex) r.dropLast
    exact s1 B _ _ (putNext g (Go.refl S.ex) S2) S2
theorem do_popG {p : P .p} {tg : TG} {js : List Nat} {fg : D → En → R En} (wf : Wf G p) (hg : ∀ x ρ, TgS G tg js x ρ (fg x ρ)) : Runs G E (tAsg (tBM0 G.K "list" rPop (den G E p)) tg) ρ ((getL ρ p).gr fun ds => (R.ofO ds.getLast?).gr fun d => (fg d (putP ρ (.lst ds.dropLast) p)).gr .nx) := fun pn B0 H0 B H σ g S D' s0 => by
  obtain ⟨ds, hp, s1⟩ := s0.gr
  obtain ⟨a, us, k1, k3, r, k5⟩ := placeL (E := E) wf S hp
  refine k1 H _ (ExT.refl H) ⟨.inl ⟨rfl, _, sq_of k3⟩, ?_⟩
  obtain ⟨d, hl, s2⟩ := s1.gr
  obtain ⟨ρ', e2, s3⟩ := s2.gr
  obtain ⟨v, e1, r1⟩ := r.last (ofO_ok hl)
  refine ⟨a, us, v, rfl, rfl, k3, e1, ?_⟩
  have S2 := k5 B H _ _ (Go.refl S.ex) r.dropLast
  exact hg d _ ρ' e2 pn H0 B _ σ v S2 r1 _ fun σ' S' _ _ _ => s3 B _ σ' (putNext g (Go.refl S.ex) S2) S'
theorem do_aug {sub : Bool} (ha : Does G E (relV G) ta ρ ra) : Runs G E (tAug i ta (ipI fun m n => if sub then m - n else m + n)) ρ (match ρ[i]? with
    | some (some (.fv (.d (.int m)))) => ra.sr ρ fun x => x.toI.gr fun n => .nx (ρ.set i (some (.d (.int (if sub then m - n else m + n)))))
    | _ => .bad) := fun pn B0 H0 B H σ g S D' s0 => by
  cases ho : ρ[i]? with
  | none => rw [ho] at s0; exact s0.elim
  | some t =>
  rw [ho] at s0
  rcases t with _ | ((_ | _ | _ | _) | _ | _) <;> first | exact s0.elim | skip
  rename_i x
  cases x <;> first | exact s0.elim | skip
  rename_i m
  obtain ⟨v, h1, h2⟩ := S.data ho
  cases h2
  refine ⟨_, h1, ?_⟩
  refine ha pn H0 B H σ S _ (s0.sr g S fun x ex s1 v B1 H1 g1 r1 => ?_)
  obtain ⟨n, e2, s2⟩ := s1.gr
  cases toI_ok r1 e2
  exact ⟨m, n, rfl, rfl, s2 B1 H1 _ (g.trans g1) ((S.go g1).setD (.int _))⟩
theorem do_drop (ha : Does G E (relV G) ta ρ ra) : Runs G E (tDrop ta) ρ (ra.sr ρ fun _ => .nx ρ) := fun pn B0 H0 B H σ g S D' s0 =>
  ha pn H0 B H σ S _ (s0.sr g S fun x ex s v B1 H1 g1 r1 => s B1 H1 σ (g.trans g1) (S.go g1))
theorem do_ret (ha : Does G E (relV G) ta ρ ra) : Runs G E (tRet ta) ρ (ra.sr ρ fun | .sv s => .rt (.sv s) ρ | .vw _ => .bad) := fun pn B0 H0 B H σ g S D' s0 =>
  ha pn H0 B H σ S _ (s0.sr g S fun x ex s v B1 H1 g1 r1 => by
    cases x with
    | vw y => exact s.elim
    | sv t =>
      cases r1 with
      | sv nb h => exact s B1 H1 σ v t rfl nb (g.trans g1) (SlotsV.mk S g1 nb (h.pin nb)))
theorem do_retO : Runs G E (tRet (tVar i)) ρ (match ρ[i]? with
    | some (some s) => if s.isBrw then .bad else .rt (.sv s) (ρ.set i none)
    | _ => .bad) := fun pn B0 H0 B H σ g S D' s0 => by
  cases ho : ρ[i]? with
  | none => rw [ho] at s0; exact s0.elim
  | some t =>
  rw [ho] at s0
  cases t with
  | none => exact s0.elim
  | some t =>
    cases hb : t.isBrw with
    | true => simp only [hb, if_true] at s0; exact s0.elim
    | false =>
      simp only [hb, Bool.false_eq_true, if_false] at s0
      obtain ⟨v, h1, h2⟩ := S.move ho
      exact ⟨v, h1, s0 B H σ v t rfl hb g h2⟩
theorem do_retN : Runs G E tRetN ρ (.rt (dv .non) ρ) := fun pn B0 H0 B H σ g S D' s0 => s0 B H σ .non _ rfl rfl g (S.elim fun ow S => ⟨ow, [], S, .fv (.d .non), fun a m => nomatch m⟩)
theorem do_brk : Runs G E tBreak ρ (.bk ρ) := fun pn B0 H0 B H σ g S D' s => s B H σ g S
theorem do_cont : Runs G E tCont ρ (.ct ρ) := fun pn B0 H0 B H σ g S D' s => s B H σ g S
theorem do_raise {x : Nat} : Runs G E (fun _ σ H => E σ (.ref (G.ca x)) none H) ρ (.err x none ρ) := fun pn B0 H0 B H σ g S D' s => s B H σ g S
theorem do_ifS {tt : TT} {rt : R Bool} {r1 r2 : SR} (ht : Does G E relT tt ρ rt) (h1 : Runs G E ts ρ r1) (h2 : Runs G E tu ρ r2) : Runs G E (tIfS tt ts tu) ρ (rt.sr ρ fun k => if k then r1 else r2) := fun pn B0 H0 B H σ g S D' s0 =>
  ht pn H0 B H σ S _ (s0.sr g S fun k ek s b B1 H1 g1 hb => by
    cases hb
    cases k with
    | true => exact iteT (h1 pn B0 H0 B1 H1 σ (g.trans g1) (S.go g1) D' s)
    | false => exact iteF (h2 pn B0 H0 B1 H1 σ (g.trans g1) (S.go g1) D' s))
theorem do_frz : Runs G E tNext ρ (match ρ[i]? with
    | some (some s) => if s.isBrw then .bad else .nx (ρ.set i (some (.d s.dat)))
    | _ => .bad) := fun pn B0 H0 B H σ g S D' s0 => by
  cases ho : ρ[i]? with
  | none => rw [ho] at s0; exact s0.elim
  | some t =>
  rw [ho] at s0
  cases t with
  | none => exact s0.elim
  | some t =>
    cases hb : t.isBrw with
    | true => simp only [hb, if_true] at s0; exact s0.elim
    | false =>
      simp only [hb, Bool.false_eq_true, if_false] at s0
      obtain ⟨B1, e1, f1, S1⟩ := S.freeze ho hb
      exact s0 B1 H σ ⟨g.bb.trans e1, S1.ex, g.hx, fun a o q1 q2 => f1 a o q1 (g.fr a o q1 q2)⟩ S1
theorem do_kill {is : List Nat} : Runs G E tNext ρ (.nx (wipeE ρ is)) := fun pn B0 H0 B H σ g S D' s0 => s0 B H σ g (S.kill is)
/-! loops -/
theorem do_for {wi : TI} {ri : R (Bool × List D)} {tg : TG} {js kill : List Nat} {fg : D → En → R En} (hi : Does G E (relI G) wi ρ ri) (hg : ∀ x ρ, TgS G tg js x ρ (fg x ρ)) (hb : ∀ ρ, Runs G E ts ρ (fs ρ)) :
    Runs G E (tFor wi tg ts) ρ (ri.sr ρ fun xs => if xs.1 then forF (fun x ρ => (fg x ρ).gr fun ρ' => fs ρ') kill xs.2 ρ else .bad) := fun pn B0 H0 B H σ g0 S D' s0 =>
  hi pn H0 B H σ S _ (s0.sr g0 S fun xs exs s J B1 H1 g1 st => by
    obtain ⟨fl, xs⟩ := xs
    cases fl with
    | false => exact s.elim
    | true =>
    simp only [if_true] at s
    have st : Steady G J B1 H0 xs := st
    refine ⟨fun i m σ' H' => m = xs.length - i ∧ i ≤ xs.length ∧ ∃ r B', Sat G pn E B0 H0 D' (forF (fun x ρ => (fg x ρ).gr fun ρ' => fs ρ') kill (xs.drop i) r) ∧ Go G B0 H0 B' H' ∧ Ex B1 B' ∧ Slots G pn H0 B' H' σ' r, ⟨_, rfl, Nat.zero_le _, ρ, B1, s, g0.trans g1, Ex.refl B1, S.go g1⟩, ?_⟩
    rintro i m σ' H' ⟨rfl, hi, r, B', hI, g2, e1, S2⟩
    by_cases hlt : i < xs.length
    · obtain ⟨hgo, hy⟩ := (st i B' H' e1 g2.bh S2.ex0).2 xs[i] (List.getElem?_eq_getElem hlt)
      rw [List.drop_eq_getElem_cons hlt] at hI
      unfold forF at hI
      refine .inr ⟨hgo, fun σ2 H2 => ∃ r B', Sat G pn E B0 H0 D' (forF (fun x ρ => (fg x ρ).gr fun ρ' => fs ρ') kill (xs.drop (i + 1)) r) ∧ Go G B0 H0 B' H2 ∧ Ex B1 B' ∧ Slots G pn H0 B' H2 σ2 r, fun σ2 H2 ⟨r', B2, h1, h2, h3, h4⟩ => ⟨_, by omega, rfl, hlt, r', B2, h1, h2, h3, h4⟩, fun v H2 hv => ?_⟩
      obtain ⟨B2, g3, rv⟩ := hy v H2 hv
      cases e2 : fg xs[i] r with
      | err a b => simp only [e2, R.gr_err] at hI; exact hI.elim
      | bad => simp only [e2, R.gr_bad] at hI; exact hI.elim
      | ok r2 =>
      simp only [e2, R.gr_ok] at hI
      refine hg _ r r2 e2 pn H0 B2 H2 σ' v (S2.go g3) rv _ fun σ3 S3 _ _ _ => ?_
      have g4 := g2.trans g3
      have e4 : Ex B1 B2 := e1.trans g3.bb
      -- the turn, from B2 on
      refine hb r2 pn B2 H0 B2 H2 σ3 ⟨Ex.refl _, g4.bh, g4.hx, fun _ _ _ q => q⟩ S3 _ ?_
      have g6 : ∀ {B3 H3}, Go G B2 H0 B3 H3 → Go G B0 H0 B3 H3 := fun g5 => ⟨g4.bb.trans g5.bb, g5.bh, g5.hx, fun a o q1 q2 => g5.fr a o q1 (g4.fr a o q1 q2)⟩
      cases hr : fs r2 with
      | nx r3 =>
        simp only [hr] at hI
        exact fun B3 H3 σ4 g5 S4 => ⟨_, B3, hI, g6 g5, e4.trans g5.bb, S4.kill kill⟩
      | ct r3 =>
        simp only [hr] at hI
        exact fun B3 H3 σ4 g5 S4 => ⟨_, B3, hI, g6 g5, e4.trans g5.bb, S4.kill kill⟩
      | bk r3 =>
        simp only [hr] at hI
        exact fun B3 H3 σ4 g5 S4 => hI B3 H3 σ4 (g6 g5) (S4.kill kill)
      | rt v r3 =>
        simp only [hr] at hI
        exact fun B3 H3 σ4 w t et nb g5 S4 => hI B3 H3 σ4 w t et nb (g6 g5) S4
      | err x f r3 =>
        simp only [hr] at hI
        cases f with
        | none => exact fun B3 H3 σ4 g5 S4 => hI B3 H3 σ4 (g6 g5) S4
        | some p => exact fun B3 H3 σ4 dd v g5 S4 a1 a2 => hI B3 H3 σ4 dd v (g6 g5) S4 a1 a2
      | bad => simp only [hr] at hI; exact hI.elim
    · refine .inl ⟨(st i B' H' e1 g2.bh S2.ex0).1 (by omega), ?_⟩
      rw [List.drop_eq_nil_of_le (by omega)] at hI
      exact hI B' H' σ' g2 S2)
theorem do_while {tt : TT} {ft : En → R Bool} {kill : List Nat} {n : Nat} (ht : ∀ ρ, Does G E relT tt ρ (ft ρ)) (hb : ∀ ρ, Runs G E ts ρ (fs ρ)) : Runs G E (tWhile tt ts) ρ (whF ft fs kill n ρ) := fun pn B0 H0 B H σ g0 S D' s0 => by
  refine ⟨fun m σ' H' => ∃ r B', Sat G pn E B0 H0 D' (whF ft fs kill m r) ∧ Go G B0 H0 B' H' ∧ Slots G pn H0 B' H' σ' r, ⟨n, ρ, B, s0, g0, S⟩, ?_⟩
  rintro m σ' H' ⟨r, B', hI, g2, S2⟩
  cases m with
  | zero => exact hI.elim
  | succ m =>
  unfold whF at hI
  have hsr : ∀ {k : Bool → SR}, Sat G pn E B0 H0 D' ((ft r).sr r k) → _ := fun {k} h => Sat.sr (rel := relT H0) (Q := fun b H1 => if b = true then ∃ N : L2.St → Hp → Prop, (∀ σ' H', N σ' H' → ∃ m', m' < m + 1 ∧ ∃ r B', Sat G pn E B0 H0 D' (whF ft fs kill m' r) ∧ Go G B0 H0 B' H' ∧ Slots G pn H0 B' H' σ' r) ∧ ts { D' with nx := N, ct := N, bk := D'.nx } σ' H1 else D'.nx σ' H1) h g2 S2
  refine ht r pn H0 B' H' σ' S2 _ (hsr hI fun k ek s b B2 H2 g3 hb' => ?_)
  cases hb'
  have g4 := g2.trans g3
  cases k with
  | true =>
    simp only [if_true] at s
    refine iteT ⟨fun σ2 H2 => ∃ m', m' < m + 1 ∧ ∃ r B', Sat G pn E B0 H0 D' (whF ft fs kill m' r) ∧ Go G B0 H0 B' H2 ∧ Slots G pn H0 B' H2 σ2 r, fun σ2 H2 h => h, ?_⟩
    refine hb r pn B0 H0 B2 H2 σ' g4 (S2.go g3) _ ?_
    cases hr : fs r with
    | nx r3 =>
      simp only [hr] at s
      exact fun B3 H3 σ4 g5 S4 => ⟨m, Nat.lt_succ_self m, _, B3, s, g5, S4.kill kill⟩
    | ct r3 =>
      simp only [hr] at s
      exact fun B3 H3 σ4 g5 S4 => ⟨m, Nat.lt_succ_self m, _, B3, s, g5, S4.kill kill⟩
    | bk r3 =>
      simp only [hr] at s
      exact fun B3 H3 σ4 g5 S4 => s B3 H3 σ4 g5 (S4.kill kill)
    | rt v r3 => simp only [hr] at s; exact s
    | err x f r3 => simp only [hr] at s; exact s
    | bad => simp only [hr] at s; exact s.elim
  | false => exact iteF (s B2 H2 σ' g4 (S2.go g3))
/-! try, a method that changes self -/
theorem do_raiseF {x : Nat} {f : Str} (ha : Does G E (relV G) ta ρ ra) : Runs G E (fun _ σ H => tMkO (G.ca x) (PrE G x f) [] (tCons ta tNil) σ H fun cl d H' => E σ cl d H') ρ (ra.sr ρ fun v => v.toD.gr fun d => .err x (some (f, d)) ρ) := fun pn B0 H0 B H σ g S D' s0 =>
  ha pn H0 B H σ S _ (s0.sr g S fun v ex s w B1 H1 g1 r1 => by
    obtain ⟨d, e1, s⟩ := s.gr
    obtain ⟨B2, g2, r2⟩ := toData g S g1 r1 e1
    refine ⟨by show 1 ≤ 1000; decide, fun a hn => ⟨a, w, rfl, upd_same, fun dx h1 h2 => ?_⟩⟩
    have hd : H1 dx = none := by
      rw [upd_ne h2] at h1
      exact h1
    have e2 : (upd (L2.del (upd (upd (upd H1 a (exo a (G.ca x) none)) dx (exd dx [(f, w)])) a (exo a (G.ca x) (some dx))) a) dx (.xd [(f, w)])) = upd H1 dx (.xd [(f, w)]) := by
      funext b
      by_cases c1 : b = dx
      · rw [c1, upd_same, upd_same]
      · rw [upd_ne c1, upd_ne c1]
        by_cases c2 : b = a
        · rw [c2, L2.del_same, hn]
        · rw [L2.del_ne c2, upd_ne c2, upd_ne c1, upd_ne c2]
    refine ⟨rfl, dx, [(f, w)], upd_same, by rw [upd_ne h2, upd_same], hd, ?_⟩
    rw [e2]
    have g3 := g2.trans (Go.newO (o := .xd [(f, w)]) g2.bh hd)
    exact s B2 _ σ dx w (g.trans g3) (S.go g3) upd_same r2)
/-- what is known of the exception that a suite names -/
def XIs (G : Gm) (B H : Hp) (cls : Value) (d : Option Addr) (x : Nat) : Option (Str × D) → Prop
  | none => cls = .ref (G.ca x) ∧ d = none
  | some (f, y) => cls = .ref (G.ca x) ∧ ∃ dd v, d = some dd ∧ H dd = some (.xd [(f, v)]) ∧ Rep G B v y
theorem XIs.go {B H B1 H1 : Hp} {cls : Value} {d : Option Addr} {x : Nat} {fo : Option (Str × D)} (g : Go G B H B1 H1) (h : XIs G B H cls d x fo) : XIs G B1 H1 cls d x fo := by
  cases fo with
  | none => exact h
  | some p =>
    obtain ⟨h1, dd, v, h2, h3, h4⟩ := h
    exact ⟨h1, dd, v, h2, g.hh _ _ h3, h4.mono g.bb⟩
theorem XIs.cls {B H : Hp} {cls : Value} {d : Option Addr} {x : Nat} {fo : Option (Str × D)} (h : XIs G B H cls d x fo) : cls = .ref (G.ca x) := by
  cases fo with
  | none => exact h.1
  | some p => exact h.1
theorem XIs.dict {B H : Hp} {cls : Value} {d : Option Addr} {x : Nat} {fo : Option (Str × D)} (h : XIs G B H cls d x fo) : d = none ∨ ∃ dd fs, d = some dd ∧ H dd = some (.xd fs) := by
  cases fo with
  | none => exact .inl h.2
  | some p =>
    obtain ⟨_, dd, v, h2, h3, _⟩ := h
    exact .inr ⟨dd, _, h2, h3⟩
def DoesX (G : Gm) (E : XE2) {α β : Type} (rel : Hp → Hp → Hp → Hp → β → α → Prop) (t : Nat → Addr → Value → Option Addr → L2.St → Hp → (β → Hp → Prop) → Prop) (r : Nat → Option (Str × D) → En → R α) : Prop :=
  ∀ pn H0 B H σ ρ i a cls d x fo, Slots G pn H0 B H σ ρ → σ[i]? = some (some (.ref a)) → XIs G B H cls d x fo → ∀ Q, Post G (E σ) (rel H0) B H (r x fo ρ) Q → t i a cls d σ H Q
def RunsX (G : Gm) (E : XE2) (t : Nat → Addr → Value → Option Addr → TS) (r : Nat → Option (Str × D) → En → SR) : Prop :=
  ∀ pn B0 H0 B H σ ρ i a cls d x fo, Go G B0 H0 B H → Slots G pn H0 B H σ ρ → σ[i]? = some (some (.ref a)) → XIs G B H cls d x fo → ∀ D' : Ends, Sat G pn E B0 H0 D' (r x fo ρ) → t i a cls d D' σ H
theorem dx_e {r : En → R RV} (h : ∀ ρ, Does G E (relV G) ta ρ (r ρ)) : DoesX G E (relV G) (fun _ _ _ _ => ta) (fun _ _ => r) := fun pn H0 B H σ ρ i a cls d x fo S hi hx Q P => h ρ pn H0 B H σ S Q P
theorem dx_f {x : Nat} {f : Str} : DoesX G E (relV G) (fun i a cls d => tXf a cls d (G.ca x) f (tVar i)) (fun x' fo _ => xfF x f x' fo) := fun pn H0 B H σ ρ i a cls d x' fo S hi hx Q P => by
  cases fo with
  | none => exact P.elim
  | some q =>
  obtain ⟨g, y⟩ := q
  replace P : Post G (E σ) (relV G H0) B H (if x' = x ∧ g = f then .ok (dv y) else .bad) Q := P
  split at P <;> first | exact P.elim | skip
  rename_i c
  obtain ⟨rfl, rfl⟩ := c
  obtain ⟨h1, dd, v, h2, h3, h4⟩ := hx
  exact ⟨.ref a, hi, rfl, h1, dd, _, v, h2, h3, by simp [List.lookup], Post.dat P S.ex h4⟩
theorem isX_noerr {ys : List (Nat × Bool)} {x a : Nat} {f : Option (Str × D)} (h : isX ys x = .err a f) : False := by
  unfold isX at h
  cases e : ys.lookup x <;> rw [e] at h <;> cases h
theorem isX_ok {ys : List (Nat × Bool)} {x : Nat} {b : Bool} (h : isX ys x = .ok b) : ys.lookup x = some b := by
  unfold isX at h
  cases e : ys.lookup x with
  | none => rw [e] at h; cases h
  | some c => rw [e] at h; cases h; rfl
theorem dx_i {y : Nat} {ys : List (Nat × Bool)} : DoesX G E (relV G) (fun i a cls d => tIsX i a cls d G.ca y ys) (fun x _ _ => (isX ys x).bind fun b => .ok (dv (.bl b))) := fun pn H0 B H σ ρ i a cls d x fo S hi hx Q P => by
  replace P : Post G (E σ) (relV G H0) B H ((isX ys x).bind fun b => .ok (dv (.bl b))) Q := P
  cases e : isX ys x with
  | err p q => exact (isX_noerr e).elim
  | bad => rw [e] at P; exact P.elim
  | ok b =>
    rw [e] at P
    exact ⟨.ref a, hi, x, b, isX_ok e, hx.cls, rfl, hx.dict, Post.dat P S.ex (.bl b)⟩
section
variable {ta' tb' : Nat → Addr → Value → Option Addr → TE} {ts' : Nat → Addr → Value → Option Addr → TA} {ra' rb' : Nat → Option (Str × D) → En → R RV} {rs' : Nat → Option (Str × D) → En → R (List D)}
theorem dx_tup (h : DoesX G E (relA G) ts' rs') : DoesX G E (relV G) (fun i a cls d => tTup (ts' i a cls d)) (fun x fo ρ => (rs' x fo ρ).bind fun ds => if ds.length ≤ sizeLine then .ok (dv (.tup ds)) else .bad) := fun pn H0 B H σ ρ i a cls d x fo S hi hx Q P =>
  h pn H0 B H σ ρ i a cls d x fo S hi hx _ (P.bind fun ds eds P vs B1 H1 g1 r1 => by
    by_cases c : ds.length ≤ sizeLine
    · rw [if_pos c] at P
      exact ⟨by rw [Reps.len r1]; exact c, fun p hp => Post.tup (P.go (early_V (H0 := H0)) g1) g1.bh hp r1⟩
    · rw [if_neg c] at P
      exact P.elim)
theorem dx_and (ha : DoesX G E (relV G) ta' ra') (hb : DoesX G E (relV G) tb' rb') : DoesX G E (relV G) (fun i a cls d => tAndV (ta' i a cls d) (tb' i a cls d)) (fun x fo ρ => (ra' x fo ρ).bind fun v => v.toB.bind fun k => if k then rb' x fo ρ else .ok (dv (.bl false))) := fun pn H0 B H σ ρ i a cls d x fo S hi hx Q P =>
  ha pn H0 B H σ ρ i a cls d x fo S hi hx _ (P.bind fun v ex P w B1 H1 g1 r1 => by
    cases e : v.toB with
    | ok k =>
      rw [e] at P
      refine ⟨k, toB_ok r1 e, ?_⟩
      cases k with
      | true => exact iteT (hb pn H0 B1 H1 σ ρ i a cls d x fo (S.go g1) hi (hx.go g1) Q (P.go early_V g1))
      | false => exact iteF (P _ B1 H1 g1 (.d (.bl _)))
    | err a b => exact (toB_noerr e).elim
    | bad => rw [e] at P; exact P.elim)
theorem dx_nil : DoesX G E (relA G) (fun _ _ _ _ => tNil) (fun _ _ _ => .ok []) := fun pn H0 B H σ ρ i a cls d x fo S hi hx Q P => P [] B H (Go.refl S.ex) Reps.nil
theorem dx_cons (ha : DoesX G E (relV G) ta' ra') (hs : DoesX G E (relA G) ts' rs') : DoesX G E (relA G) (fun i a cls d => tCons (ta' i a cls d) (ts' i a cls d)) (fun x fo ρ => (ra' x fo ρ).bind fun v => v.toD.bind fun y => (rs' x fo ρ).bind fun ds => .ok (y :: ds)) := fun pn H0 B H σ ρ i a cls d x fo S hi hx Q P =>
  ha pn H0 B H σ ρ i a cls d x fo S hi hx _ (P.bind fun v ex P w B1 H1 g1 r1 => by
    cases e : v.toD with
    | ok y =>
      rw [e, R.bind_ok] at P
      cases v with
      | vw y => cases e
      | sv s =>
        cases e
        obtain ⟨B2, a1, a2, a3, a4⟩ := r1.toD g1.bh
        have g2 : Go G B H B2 H1 := ⟨g1.bb.trans a2, a3, g1.hx, fun a o q1 q2 => a4 a o q1 (g1.fr a o q1 q2)⟩
        exact hs pn H0 B2 H1 σ ρ i a cls d x fo (S.go g2) hi (hx.go g2) _ ((P.go early_A g2).bind fun ds eds P vs B3 H3 g3 r3 => P _ B3 H3 g3 (Reps.cons (a1.mono g3.bb) r3))
    | err a b => exact (toD_noerr e).elim
    | bad => rw [e] at P; exact P.elim)
theorem rx_ret (ha : DoesX G E (relV G) ta' ra') : RunsX G E (fun i a cls d => tRet (ta' i a cls d)) (fun x fo ρ => (ra' x fo ρ).sr ρ fun | .sv s => .rt (.sv s) ρ | .vw _ => .bad) := fun pn B0 H0 B H σ ρ i a cls d x fo g S hi hx D' s0 =>
  ha pn H0 B H σ ρ i a cls d x fo S hi hx _ (s0.sr g S fun v ex s w B1 H1 g1 r1 => by
    cases v with
    | vw y => exact s.elim
    | sv t =>
      cases r1 with
      | sv nb h => exact s B1 H1 σ w t rfl nb (g.trans g1) (SlotsV.mk S g1 nb (h.pin nb)))
theorem args_d {B H : Hp} : ∀ {vs : List V} {ds : List D}, Reps G B vs ds → ArgsOk G B H (vs.map fun _ => false) vs ds
  | _, _, .nil => .nil
  | _, _, .cons r rs => .d r (args_d rs)
theorem dx_call {f : List D → R RV} {ms : List Bool} (hs : DoesX G E (relA G) ts' rs') (hm : ∀ x fo ρ ds, rs' x fo ρ = .ok ds → ms = ds.map fun _ => false) : DoesX G E (relV G) (fun i a cls d => cCall (Pr G ms f) E0 (ts' i a cls d)) (fun x fo ρ => (rs' x fo ρ).bind fun ds => noErr (f ds)) := fun pn H0 B H σ ρ i a cls d x fo S hi hx Q P => by
  refine hs pn H0 B H σ ρ i a cls d x fo S hi hx _ (P.bind fun ds eds P vs B1 H1 g1 r1 => ?_)
  refine ⟨B1, ds, g1.bh, ?_, S.tb.go g1, ?_⟩
  · have e : ms = vs.map fun _ => false := by
      rw [hm x fo ρ ds eds]
      have l := Reps.len r1
      rw [List.map_const', List.map_const', l]
    rw [e]
    exact args_d r1
  · cases e : f ds with
    | ok v =>
      rw [e] at P
      exact (show Post G (E σ) (relV G H0) B H (.ok v) Q from P).go (early_V (H0 := H0)) g1
    | err p q => rw [e] at P; exact P.elim
    | bad => rw [e] at P; exact P.elim
theorem dx_ife {y : Nat} {ys : List (Nat × Bool)} (ha : DoesX G E (relV G) ta' ra') (hb : DoesX G E (relV G) tb' rb') : DoesX G E (relV G) (fun i a cls d => tIf (tTest (tIsX i a cls d G.ca y ys)) (ta' i a cls d) (tb' i a cls d)) (fun x fo ρ => (isX ys x).bind fun k => if k then ra' x fo ρ else rb' x fo ρ) := fun pn H0 B H σ ρ i a cls d x fo S hi hx Q P => by
  replace P : Post G (E σ) (relV G H0) B H ((isX ys x).bind fun k => if k then ra' x fo ρ else rb' x fo ρ) Q := P
  cases e : isX ys x with
  | err p q => exact (isX_noerr e).elim
  | bad => rw [e] at P; exact P.elim
  | ok b =>
    rw [e] at P
    refine ⟨.ref a, hi, x, b, isX_ok e, hx.cls, rfl, hx.dict, b, rfl, ?_⟩
    cases b with
    | true => exact iteT (ha pn H0 B H σ ρ i a cls d x fo S hi hx Q P)
    | false => exact iteF (hb pn H0 B H σ ρ i a cls d x fo S hi hx Q P)
theorem dx_bin {o : B2} (ha : DoesX G E (relV G) ta' ra') (hb : DoesX G E (relV G) tb' rb') : DoesX G E (relV G) (fun i a cls d => tOp (o.den G.K) (ta' i a cls d) (tb' i a cls d)) (fun x fo ρ => (ra' x fo ρ).bind fun u => (rb' x fo ρ).bind fun v => u.rd.bind fun u => v.rd.bind fun v => o.fn u v) := fun pn H0 B H σ ρ i a cls d x fo S hi hx Q P =>
  ha pn H0 B H σ ρ i a cls d x fo S hi hx _ (P.bind fun u ex P w B1 H1 g1 r1 => hb pn H0 B1 H1 σ ρ i a cls d x fo (S.go g1) hi (hx.go g1) _ ((P.go early_V g1).bind fun v ey P z B2 H2 g2 r2 => by
    cases e1 : u.rd with
    | ok x' =>
      cases e2 : v.rd with
      | ok y' =>
        rw [e1, R.bind_ok, e2, R.bind_ok] at P
        exact o.ok (E σ) B2 H2 w z x' y' g2.bh ((r1.rd e1).go g2) (r2.rd e2) Q (P.go RvOk.early g2)
      | err a b => exact (rd_noerr e2).elim
      | bad => rw [e1, R.bind_ok, e2] at P; exact P.elim
    | err a b => exact (rd_noerr e1).elim
    | bad => rw [e1] at P; exact P.elim))
theorem rx_if {y : Nat} {ys : List (Nat × Bool)} {t1 t2 : Nat → Addr → Value → Option Addr → TS} {r1 r2 : Nat → Option (Str × D) → En → SR} (h1 : RunsX G E t1 r1) (h2 : RunsX G E t2 r2) :
    RunsX G E (fun i a cls d => sHif (tTest (tIsX i a cls d G.ca y ys)) (t1 i a cls d) (t2 i a cls d)) (fun x fo ρ => (isX ys x).sr ρ fun k => if k then onlyRt (r1 x fo ρ) else r2 x fo ρ) := fun pn B0 H0 B H σ ρ i a cls d x fo g S hi hx D' s0 => by
  replace s0 : Sat G pn E B0 H0 D' ((isX ys x).sr ρ fun k => if k then onlyRt (r1 x fo ρ) else r2 x fo ρ) := s0
  cases e : isX ys x with
  | err p q => exact (isX_noerr e).elim
  | bad => rw [e] at s0; exact s0.elim
  | ok b =>
    rw [e] at s0
    refine ⟨.ref a, hi, x, b, isX_ok e, hx.cls, rfl, hx.dict, b, rfl, ?_⟩
    cases b with
    | true =>
      refine iteT (h1 pn B0 H0 B H σ ρ i a cls d x fo g S hi hx _ ?_)
      replace s0 : Sat G pn E B0 H0 D' (onlyRt (r1 x fo ρ)) := s0
      cases hq : r1 x fo ρ with
      | rt v ρ' => rw [hq] at s0; exact s0
      | _ => rw [hq] at s0; exact s0.elim
    | false => exact iteF (h2 pn B0 H0 B H σ ρ i a cls d x fo g S hi hx D' s0)
theorem rx_ifx {t1 t2 : Nat → Addr → Value → Option Addr → TS} {q1 q2 : Nat → Option (Str × D) → En → SR} (ht : DoesX G E (relV G) ta' ra') (h1 : RunsX G E t1 q1) (h2 : RunsX G E t2 q2) :
    RunsX G E (fun i a cls d => sHif (tTest (ta' i a cls d)) (t1 i a cls d) (t2 i a cls d)) (fun x fo ρ => (ra' x fo ρ).sr ρ fun v => v.toB.gr fun k => if k then onlyRt (q1 x fo ρ) else q2 x fo ρ) := fun pn B0 H0 B H σ ρ i a cls d x fo g S hi hx D' s0 =>
  ht pn H0 B H σ ρ i a cls d x fo S hi hx _ (s0.sr g S fun v ex s w B1 H1 g1 r1 => by
    cases e : v.toB with
    | ok k =>
      rw [e] at s
      refine ⟨k, toB_ok r1 e, ?_⟩
      cases k with
      | true =>
        refine iteT (h1 pn B0 H0 B1 H1 σ ρ i a cls d x fo (g.trans g1) (S.go g1) hi (hx.go g1) _ ?_)
        replace s : Sat G pn E B0 H0 D' (onlyRt (q1 x fo ρ)) := s
        cases hq : q1 x fo ρ with
        | rt v ρ' => rw [hq] at s; exact s
        | _ => rw [hq] at s; exact s.elim
      | false => exact iteF (h2 pn B0 H0 B1 H1 σ ρ i a cls d x fo (g.trans g1) (S.go g1) hi (hx.go g1) D' s)
    | err p q => exact (toB_noerr e).elim
    | bad => rw [e] at s; exact s.elim)
end
theorem Slots.setN {H0 B H : Hp} {σ : L2.St} {i : Nat} {v : Option V} (S : Slots G pn H0 B H σ ρ) : Slots G pn H0 B H (σ.set i v) (ρ.set i none) := by
  obtain ⟨ow, S'⟩ := S.drop i
  refine ⟨ow, ⟨?_, S'.ex0, S'.ex, fun j s h => ?_, S'.ap, S'.tb⟩⟩
  · rw [List.length_set]
    exact S'.len
  · obtain ⟨w, h1, h2⟩ := S'.ok j s h
    refine ⟨w, ?_, h2⟩
    by_cases c : i = j
    · subst c
      by_cases l : i < ρ.length
      · rw [List.getElem?_set_self l] at h
        cases h
      · rw [List.getElem?_eq_none (by rw [List.length_set]; omega)] at h
        cases h
    · rw [List.getElem?_set_ne c]
      exact h1
theorem do_tryA {c i : Nat} {subs : List Nat} {tb : WX → TS} {th : Nat → Addr → Value → Option Addr → TS} {fb : En → SR} {fh : Nat → Option (Str × D) → En → SR} (hx : ∀ x, x ∈ subs → PySem.W.exmOne G.K (.ref (G.ca x)) (.ref (G.ca c)) = some true) (hb : ∀ W, Runs G (WE W) (tb W) ρ (fb ρ)) (hh : RunsX G E th fh) :
    Runs G E (tTryA G.K (.ref (G.ca c)) i E tb (th i)) ρ (match fb ρ with | .err x f ρ' => if x ∈ subs ∧ i < ρ'.length then onlyRt (fh x f (ρ'.set i none)) else .bad | o => o) := fun pn B0 H0 B H σ g S D' s0 => by
  refine hb _ pn B0 H0 B H σ g S D' ?_
  cases hr : fb ρ with
  | nx r3 => rw [hr] at s0; exact s0
  | ct r3 => rw [hr] at s0; exact s0
  | bk r3 => rw [hr] at s0; exact s0
  | rt v r3 => rw [hr] at s0; exact s0
  | bad => rw [hr] at s0; exact s0
  | err x f r3 =>
    rw [hr] at s0
    by_cases m : x ∈ subs ∧ i < r3.length
    · simp only [if_pos m] at s0
      have key : ∀ B1 H1 σ1 d, Go G B0 H0 B1 H1 → Slots G pn H0 B1 H1 σ1 r3 → XIs G B1 H1 (.ref (G.ca x)) d x f → ∀ a, H1 a = none → th i a (.ref (G.ca x)) d { nx := fun σ' H' => D'.nx (σ'.set i none) H', rt := D'.rt, bk := fun σ' H' => D'.bk (σ'.set i none) H', ct := fun σ' H' => D'.ct (σ'.set i none) H' } (σ1.set i (some (.ref a))) H1 := fun B1 H1 σ1 d g1 S1 z a ha => by
        refine hh pn B0 H0 B1 H1 _ _ i a _ d x f g1 S1.setN (List.getElem?_set_self (by rw [S1.choose_spec.len]; exact m.2)) z _ ?_
        cases hq : fh x f (r3.set i none) with
        | rt v ρ' => rw [hq] at s0; exact s0
        | _ => rw [hq] at s0; exact s0.elim
      cases f with
      | none => exact fun B1 H1 σ1 g1 S1 => ⟨true, hx x m.1, fun _ a ha => key B1 H1 σ1 none g1 S1 ⟨rfl, rfl⟩ a ha, fun z => nomatch z⟩
      | some p => exact fun B1 H1 σ1 dd v g1 S1 h1 h2 => ⟨true, hx x m.1, fun _ a ha => key B1 H1 σ1 (some dd) g1 S1 ⟨rfl, dd, v, rfl, h1, h2⟩ a ha, fun z => nomatch z⟩
    · simp only [if_neg m] at s0
      exact s0.elim
theorem do_try {c : Nat} {subs : List Nat} {tb : WX → TS} {th : TS} {fb fh : En → SR} (hx : ∀ x, x ∈ subs → PySem.W.exmOne G.K (.ref (G.ca x)) (.ref (G.ca c)) = some true) (hb : ∀ W, Runs G (WE W) (tb W) ρ (fb ρ)) (hh : ∀ ρ, Runs G E th ρ (fh ρ)) :
    Runs G E (tTry G.K (.ref (G.ca c)) E tb fun _ _ _ => th) ρ (match fb ρ with | .err x f ρ' => if x ∈ subs then fh ρ' else .bad | o => o) := fun pn B0 H0 B H σ g S D' s0 => by
  refine hb _ pn B0 H0 B H σ g S D' ?_
  cases hr : fb ρ with
  | nx r3 => rw [hr] at s0; exact s0
  | ct r3 => rw [hr] at s0; exact s0
  | bk r3 => rw [hr] at s0; exact s0
  | rt v r3 => rw [hr] at s0; exact s0
  | bad => rw [hr] at s0; exact s0
  | err x f r3 =>
    rw [hr] at s0
    by_cases m : x ∈ subs
    · simp only [if_pos m] at s0
      cases f with
      | none => exact fun B1 H1 σ1 g1 S1 => ⟨true, hx x m, fun _ a ha => hh r3 pn B0 H0 B1 H1 σ1 g1 S1 D' s0, fun z => nomatch z⟩
      | some p => exact fun B1 H1 σ1 dd v g1 S1 _ _ => ⟨true, hx x m, fun _ a ha => hh r3 pn B0 H0 B1 H1 σ1 g1 S1 D' s0, fun z => nomatch z⟩
    · simp only [if_neg m] at s0
      exact s0.elim
theorem do_try2 {c c2 : Nat} {tb : WX → TS} {th th2 : TS} {fb fh fh2 : En → SR} (h1 : PySem.W.exmOne G.K (.ref (G.ca c)) (.ref (G.ca c)) = some true) (h2 : PySem.W.exmOne G.K (.ref (G.ca c2)) (.ref (G.ca c)) = some false) (h3 : PySem.W.exmOne G.K (.ref (G.ca c2)) (.ref (G.ca c2)) = some true) (hb : ∀ W, Runs G (WE W) (tb W) ρ (fb ρ)) (hh : ∀ ρ, Runs G E th ρ (fh ρ)) (hh2 : ∀ ρ, Runs G E th2 ρ (fh2 ρ)) :
    Runs G E (tTry2 G.K (.ref (G.ca c)) (.ref (G.ca c2)) E tb (fun _ _ _ => th) fun _ _ _ => th2) ρ (match fb ρ with | .err x f ρ' => if x = c then fh ρ' else if x = c2 then fh2 ρ' else .bad | o => o) := fun pn B0 H0 B H σ g S D' s0 => by
  refine hb _ pn B0 H0 B H σ g S D' ?_
  cases hr : fb ρ with
  | nx r3 => rw [hr] at s0; exact s0
  | ct r3 => rw [hr] at s0; exact s0
  | bk r3 => rw [hr] at s0; exact s0
  | rt v r3 => rw [hr] at s0; exact s0
  | bad => rw [hr] at s0; exact s0
  | err x f r3 =>
    rw [hr] at s0
    by_cases m : x = c
    · simp only [if_pos m] at s0
      cases f with
      | none => exact fun B1 H1 σ1 g1 S1 => ⟨true, by rw [m]; exact h1, fun _ a ha => hh r3 pn B0 H0 B1 H1 σ1 g1 S1 D' s0, fun z => nomatch z⟩
      | some p => exact fun B1 H1 σ1 dd v g1 S1 _ _ => ⟨true, by rw [m]; exact h1, fun _ a ha => hh r3 pn B0 H0 B1 H1 σ1 g1 S1 D' s0, fun z => nomatch z⟩
    · simp only [if_neg m] at s0
      by_cases m2 : x = c2
      · simp only [if_pos m2] at s0
        cases f with
        | none => exact fun B1 H1 σ1 g1 S1 => ⟨false, by rw [m2]; exact h2, (fun z => nomatch z), fun _ => ⟨true, by rw [m2]; exact h3, fun _ a ha => hh2 r3 pn B0 H0 B1 H1 σ1 g1 S1 D' s0, fun z => nomatch z⟩⟩
        | some p => exact fun B1 H1 σ1 dd v g1 S1 _ _ => ⟨false, by rw [m2]; exact h2, (fun z => nomatch z), fun _ => ⟨true, by rw [m2]; exact h3, fun _ a ha => hh2 r3 pn B0 H0 B1 H1 σ1 g1 S1 D' s0, fun z => nomatch z⟩⟩
      · simp only [if_neg m2] at s0
        exact s0.elim
theorem do_try3 {c c2 c3 : Nat} {tb : WX → TS} {th th2 th3 : TS} {fb fh fh2 fh3 : En → SR} (h1 : PySem.W.exmOne G.K (.ref (G.ca c)) (.ref (G.ca c)) = some true) (h2 : PySem.W.exmOne G.K (.ref (G.ca c2)) (.ref (G.ca c)) = some false) (h3 : PySem.W.exmOne G.K (.ref (G.ca c2)) (.ref (G.ca c2)) = some true) (h4 : PySem.W.exmOne G.K (.ref (G.ca c3)) (.ref (G.ca c)) = some false) (h5 : PySem.W.exmOne G.K (.ref (G.ca c3)) (.ref (G.ca c2)) = some false) (h6 : PySem.W.exmOne G.K (.ref (G.ca c3)) (.ref (G.ca c3)) = some true) (hb : ∀ W, Runs G (WE W) (tb W) ρ (fb ρ)) (hh : ∀ ρ, Runs G E th ρ (fh ρ)) (hh2 : ∀ ρ, Runs G E th2 ρ (fh2 ρ)) (hh3 : ∀ ρ, Runs G E th3 ρ (fh3 ρ)) :
    Runs G E (tTry3 G.K (.ref (G.ca c)) (.ref (G.ca c2)) (.ref (G.ca c3)) E tb (fun _ _ _ => th) (fun _ _ _ => th2) fun _ _ _ => th3) ρ (match fb ρ with | .err x f ρ' => if x = c then fh ρ' else if x = c2 then fh2 ρ' else if x = c3 then fh3 ρ' else .bad | o => o) := fun pn B0 H0 B H σ g S D' s0 => by
  refine hb _ pn B0 H0 B H σ g S D' ?_
  cases hr : fb ρ with
  | nx r3 => rw [hr] at s0; exact s0
  | ct r3 => rw [hr] at s0; exact s0
  | bk r3 => rw [hr] at s0; exact s0
  | rt v r3 => rw [hr] at s0; exact s0
  | bad => rw [hr] at s0; exact s0
  | err x f r3 =>
    rw [hr] at s0
    by_cases m : x = c
    · simp only [if_pos m] at s0
      cases f with
      | none => exact fun B1 H1 σ1 g1 S1 => ⟨true, by rw [m]; exact h1, fun _ a ha => hh r3 pn B0 H0 B1 H1 σ1 g1 S1 D' s0, fun z => nomatch z⟩
      | some p => exact fun B1 H1 σ1 dd v g1 S1 _ _ => ⟨true, by rw [m]; exact h1, fun _ a ha => hh r3 pn B0 H0 B1 H1 σ1 g1 S1 D' s0, fun z => nomatch z⟩
    · simp only [if_neg m] at s0
      by_cases m2 : x = c2
      · simp only [if_pos m2] at s0
        cases f with
        | none => exact fun B1 H1 σ1 g1 S1 => ⟨false, by rw [m2]; exact h2, (fun z => nomatch z), fun _ => ⟨true, by rw [m2]; exact h3, fun _ a ha => hh2 r3 pn B0 H0 B1 H1 σ1 g1 S1 D' s0, fun z => nomatch z⟩⟩
        | some p => exact fun B1 H1 σ1 dd v g1 S1 _ _ => ⟨false, by rw [m2]; exact h2, (fun z => nomatch z), fun _ => ⟨true, by rw [m2]; exact h3, fun _ a ha => hh2 r3 pn B0 H0 B1 H1 σ1 g1 S1 D' s0, fun z => nomatch z⟩⟩
      · simp only [if_neg m2] at s0
        by_cases m3 : x = c3
        · simp only [if_pos m3] at s0
          cases f with
          | none => exact fun B1 H1 σ1 g1 S1 => ⟨false, by rw [m3]; exact h4, (fun z => nomatch z), fun _ => ⟨false, by rw [m3]; exact h5, (fun z => nomatch z), fun _ => ⟨true, by rw [m3]; exact h6, fun _ a ha => hh3 r3 pn B0 H0 B1 H1 σ1 g1 S1 D' s0, fun z => nomatch z⟩⟩⟩
          | some p => exact fun B1 H1 σ1 dd v g1 S1 _ _ => ⟨false, by rw [m3]; exact h4, (fun z => nomatch z), fun _ => ⟨false, by rw [m3]; exact h5, (fun z => nomatch z), fun _ => ⟨true, by rw [m3]; exact h6, fun _ a ha => hh3 r3 pn B0 H0 B1 H1 σ1 g1 S1 D' s0, fun z => nomatch z⟩⟩⟩
        · simp only [if_neg m3] at s0
          exact s0.elim
end
end Ci
end

section
set_option Elab.async false
set_option linter.all false
set_option maxRecDepth 100000
set_option maxHeartbeats 2000000
/-! ## dicts that change, values and tests that change an object of ours -/
namespace Ci
open PySem PySem.Spec PyProof.Rows L2 Evl
section
variable {G : Gm} {E : XE2} {ρ : En} {ta tb tc : TE} {ra rb rc : R RV} {i : Nat} {as : TA} {rs : R (List D)} {pn : Addr} {ts tu : TS} {fs fu : En → SR}
theorem getDk_ok {p : P .p} {ds : Kd} (h : getDk ρ p = .ok ds) : getP ρ p = .ok (.dk ds) := by
  unfold getDk at h
  split at h <;> cases h
  assumption
/-- a dict at a place -/
theorem placeK {H0 B H : Hp} {σ : L2.St} {p : P .p} {ds : Kd} (wf : Wf G p) (S : Slots G pn H0 B H σ ρ) (h : getDk ρ p = .ok ds) : ∃ a vs, (∀ (H' : Hp) (Q : VK), ExT G H H' → Q (.ref a) H' → den G E p σ H' Q) ∧ H a = some (.dK vs) ∧ RepK G B vs ds ∧
    ∀ B' H' vs' ds', Go G B H B' H' → RepK G B' vs' ds' → Slots G pn H0 B' (upd H' a (.dK vs')) σ (putP ρ (.dk ds') p) := by
  obtain ⟨a, o, k1, k2, k3, k4, k5⟩ := place_ok (E := E) wf S (getDk_ok h)
  cases k4 with
  | dk r => exact ⟨a, _, k1, k3, r, fun B' H' vs' ds' g r' => k5 B' H' _ _ g (.dk r')⟩
theorem do_dput {p : P .p} (wf : Wf G p) (hk : Does G E (relV G) tb ρ rb) (ha : Does G E (relV G) ta ρ ra) : Runs G E (sDPut (den G E p) tb ta) ρ
    (ra.sr ρ fun x => x.toD.gr fun d => (getDk ρ p).gr fun kvs => rb.sr ρ fun y => y.rd.gr fun y => (R.ofO (keyD y)).gr fun k => if kvs.length < sizeLine then .nx (putP ρ (.dk (putD kvs k d)) p) else .bad) := fun pn B0 H0 B H σ g S D' s0 =>
  ha pn H0 B H σ S _ (s0.sr g S fun x ex s v B1 H1 g1 r1 => by
    obtain ⟨d, e1, s1⟩ := s.gr
    obtain ⟨B2, g2, r2⟩ := toData g S g1 r1 e1
    obtain ⟨ds, hp, s2⟩ := s1.gr
    obtain ⟨a, vs, k1, k3, r, k5⟩ := placeK (E := E) wf S hp
    refine k1 H1 _ g1.hx ?_
    refine hk pn H0 B2 H1 σ (S.go g2) _ (s2.sr (g.trans g2) (S.go g2) fun y ey s3 u B3 H3 g3 r3 => ?_)
    obtain ⟨y', e2, s4⟩ := s3.gr
    obtain ⟨k, hk', s5⟩ := s4.gr
    have z := key_rep (r3.rd e2) (ofO_ok hk')
    subst z
    have g4 := g2.trans g3
    by_cases c : ds.length < sizeLine
    · rw [if_pos c] at s5
      refine ⟨a, _, rfl, DPut.k (g4.hh _ _ k3) (by rw [r.len]; exact c), ?_⟩
      have S2 := k5 B3 H3 (putK vs k v) (putD ds k d) g4 ((r.mono g4.bb).put (r2.mono g3.bb))
      exact s5 B3 _ _ (putNext g g4 S2) S2
    · rw [if_neg c] at s5
      exact s5.elim)
theorem getDI_ok {kvs : Kd} {k : Key} {v : Int} (h : getDI kvs k = .ok v) : valD kvs k = some (.int v) := by
  unfold getDI at h
  split at h <;> cases h
  assumption
theorem do_daug {p : P .p} {sub : Bool} (wf : Wf G p) (hk : Does G E (relV G) tb ρ rb) (ha : Does G E (relV G) ta ρ ra) : Runs G E (sDAug (den G E p) tb ta (ipI fun m n => if sub then m - n else m + n)) ρ
    ((getDk ρ p).gr fun kvs => rb.sr ρ fun y => y.rd.gr fun y => (R.ofO (keyD y)).gr fun k => (getDI kvs k).gr fun v => ra.sr ρ fun z => z.toI.gr fun m => if kvs.length < sizeLine then .nx (putP ρ (.dk (putD kvs k (.int (if sub then v - m else v + m)))) p) else .bad) := fun pn B0 H0 B H σ g S D' s0 => by
  obtain ⟨ds, hp, s1⟩ := s0.gr
  obtain ⟨a, vs, k1, k3, r, k5⟩ := placeK (E := E) wf S hp
  refine k1 H _ (ExT.refl H) ?_
  refine hk pn H0 B H σ S _ (s1.sr g S fun y ey s2 u B1 H1 g1 r1 => ?_)
  obtain ⟨y', e2, s3⟩ := s2.gr
  obtain ⟨k, hk', s4⟩ := s3.gr
  have z := key_rep (r1.rd e2) (ofO_ok hk')
  subst z
  obtain ⟨v, e3, s5⟩ := s4.gr
  obtain ⟨w, w1, w2⟩ := r.valS (getDI_ok e3)
  cases w2
  refine ⟨a, .int v, rfl, w1 ▸ DGet.k (g1.hh _ _ k3), ?_⟩
  refine ha pn H0 B1 H1 σ (S.go g1) _ (s5.sr (g.trans g1) (S.go g1) fun z ez s6 u3 B3 H3 g3 r3 => ?_)
  obtain ⟨m, e5, s7⟩ := s6.gr
  cases toI_ok r3 e5
  have g4 := g1.trans g3
  by_cases c : ds.length < sizeLine
  · rw [if_pos c] at s7
    refine ⟨v, m, rfl, rfl, _, DPut.k (g4.hh _ _ k3) (by rw [r.len]; exact c), ?_⟩
    have S2 := k5 B3 H3 (putK vs k _) (putD ds k _) g4 ((r.mono g4.bb).put (.int (if sub then v - m else v + m)))
    exact s7 B3 _ _ (putNext g g4 S2) S2
  · rw [if_neg c] at s7
    exact s7.elim
/-! a list is popped within what is appended to it -/
theorem den_det {p : P .p} {σ : L2.St} {H : Hp} {Q1 Q2 : VK} (n : isNst p = false) (h1 : den G E p σ H Q1) (h2 : den G E p σ H Q2) : ∃ v, Q1 v H ∧ Q2 v H := by
  cases p with
  | pnst i k => cases n
  | pvar i =>
    obtain ⟨v, e1, q1⟩ := h1
    obtain ⟨u, e2, q2⟩ := h2
    rw [e1] at e2
    cases e2
    exact ⟨v, q1, q2⟩
  | pfld c i f =>
    obtain ⟨v, e1, l, C, dx, fv, w, rfl, a1, a2, a3, a4, q1⟩ := h1
    obtain ⟨v', e2, l', C', dx', fv', w', rfl, b1, b2, b3, b4, q2⟩ := h2
    rw [e1] at e2
    cases e2
    rw [a1] at b1
    cases b1
    rw [a4] at b4
    cases b4
    exact ⟨w, q1, q2⟩
theorem lookup_putX {f : Str} {d : FV} : ∀ {fs : List (Str × FV)}, (putX f d fs).lookup f = some d
  | [] => by
    unfold putX
    rw [List.lookup_cons, beq_self_eq_true]
  | (g, x) :: r => by
    unfold putX
    by_cases c : g = f
    · rw [if_pos c, List.lookup_cons, c, beq_self_eq_true]
    · rw [if_neg c, List.lookup_cons]
      have z : (f == g) = false := by
        rw [Bool.eq_false_iff]
        intro h
        exact c (eq_of_beq h).symm
      rw [z]
      exact lookup_putX
theorem getL_put {p : P .p} {ds es : List D} (n : isNst p = false) (h : getL ρ p = .ok es) : getL (putP ρ (.lst ds) p) p = .ok ds := by
  have h := getL_ok h
  cases p with
  | pnst i k => cases n
  | pvar i =>
    obtain ⟨e, nd⟩ := getP_var h
    have lt : i < ρ.length := (List.getElem?_eq_some_iff.mp e).1
    have z : (ρ.set i (some (.fv (.lst ds))))[i]? = some (some (.fv (.lst ds))) := by
      rw [List.getElem?_set_self lt]
    unfold getL getP putP
    simp only [z]
  | pfld c i f =>
    obtain ⟨sf, fs, e, el, nd'⟩ := getP_fld h
    have lt : i < ρ.length := (List.getElem?_eq_some_iff.mp e).1
    have z : (ρ.set i (some (.obj sf c (putX f (.lst ds) fs))))[i]? = some (some (.obj sf c (putX f (.lst ds) fs))) := by
      rw [List.getElem?_set_self lt]
    unfold getL getP putP
    simp only [e, z, if_true, lookup_putX]
theorem do_appP {p : P .p} {f : List D → R RV} {fb : En → R RV} (wf : Wf G p) (ha : Does G E (relV G) ta ρ ra) (hb : ∀ ρ, Does G E (relV G) tb ρ (fb ρ)) :
    Runs G E (tDrop (tBM G.K "list" rAppend (den G E p) (tCons (cCall (Pr G [false, false, false] f) E (tCons ta (tCons (tBM0 G.K "list" rPop (den G E p)) (tCons tb tNil)))) tNil))) ρ
    (if isNst p then .bad else (getL ρ p).gr fun ds => ra.sr ρ fun x => x.pl.gr fun d1 => (R.ofO ds.getLast?).gr fun l => (fb (putP ρ (.lst ds.dropLast) p)).sr (putP ρ (.lst ds.dropLast) p) fun y => y.pl.gr fun d2 => (f [d1, l, d2]).sr (putP ρ (.lst ds.dropLast) p) fun r => r.toD.gr fun d => if ds.length < sizeLine then .nx (putP (putP ρ (.lst ds.dropLast) p) (.lst (ds.dropLast ++ [d])) p) else .bad) := fun pn B0 H0 B H σ g S D' s0 => by
  cases nn : isNst p with
  | true => simp only [nn, if_true] at s0; exact s0.elim
  | false =>
  simp only [nn, Bool.false_eq_true, if_false] at s0
  obtain ⟨es, hp, s1⟩ := s0.gr
  obtain ⟨a, us, k1, k3, r, k5⟩ := placeL (E := E) wf S hp
  refine k1 H _ (ExT.refl H) ⟨.inl ⟨rfl, _, sq_of k3⟩, ?_⟩
  refine ha pn H0 B H σ S _ (s1.sr g S fun x ex s2 v B1 H1 g1 r1 => ?_)
  obtain ⟨d1, e1, s3⟩ := s2.gr
  obtain ⟨l, hl, s4⟩ := s3.gr
  refine k1 H1 _ g1.hx ⟨.inl ⟨rfl, _, sq_of (g1.hh _ _ k3)⟩, ?_⟩
  obtain ⟨w, w1, rl⟩ := r.last (ofO_ok hl)
  refine ⟨a, us, w, rfl, rfl, g1.hh _ _ k3, w1, ?_⟩
  have S2 := k5 B1 H1 _ _ g1 (r.mono g1.bb).dropLast
  have g2 := putNext g g1 S2
  refine hb _ pn H0 B1 _ σ S2 _ (s4.sr g2 S2 fun y ey s5 u B3 H3 g3 r3 => ?_)
  obtain ⟨d2, e2, s6⟩ := s5.gr
  refine ⟨B3, [d1, l, d2], g3.bh, .d ((r1.pl e1).mono g3.bb) (.d (rl.mono (g1.bb.trans g3.bb)) (.d (r3.pl e2) .nil)), S2.tb.go g3, ?_⟩
  refine s6.sr (g2.trans g3) (S2.go g3) fun z ez s7 t B4 H4 g4 r4 => ?_
  obtain ⟨d, e4, s8⟩ := s7.gr
  obtain ⟨B5, g5, r5⟩ := toData (g2.trans g3) (S2.go g3) g4 r4 e4
  by_cases c : es.length < sizeLine
  rotate_left
  · rw [if_neg c] at s8
    exact s8.elim
  rw [if_pos c] at s8
  have S5 := S2.go (g3.trans g5)
  obtain ⟨a', us', k1', k3', r', k5'⟩ := placeL (E := E) wf S5 (getL_put nn hp)
  have ea : a' = a := by
    obtain ⟨a2, us2, m1, m3, _, _⟩ := placeL (E := E) wf S2 (getL_put nn hp)
    -- the place before and behind the pop
    have q1 : den G E p σ H1 (fun v _ => v = .ref a) := k1 H1 _ g1.hx rfl
    have q2 : den G E p σ (upd H1 a (.lst us.dropLast)) (fun v _ => v = .ref a2) := m1 _ _ (ExT.refl _) rfl
    have q3 : den G E p σ H4 (fun v _ => v = .ref a2) := m1 _ _ (g3.trans g5).hx rfl
    have q4 : den G E p σ H4 (fun v _ => v = .ref a') := k1' _ _ (ExT.refl _) rfl
    obtain ⟨v, z1, z2⟩ := den_det nn q3 q4
    have z3 : a2 = a' := by
      have := z1.symm.trans z2
      cases this
      rfl
    have z4 : a2 = a := by
      cases p with
      | pnst i k => cases nn
      | pvar i =>
        obtain ⟨v, f1, f2⟩ := q1
        obtain ⟨v', f3, f4⟩ := q2
        rw [f1] at f3
        cases f3
        have := f2.symm.trans f4
        cases this
        rfl
      | pfld c i f =>
        obtain ⟨v, f1, l1, C, dx, fv, w1, rfl, a1, a2', a3, a4, f2⟩ := q1
        obtain ⟨v', f3, l2, C', dx', fv', w2, rfl, b1, b2, b3, b4, f4⟩ := q2
        rw [f1] at f3
        cases f3
        have nl : l1 ≠ a := fun z => by
          rw [z, g1.hh _ _ k3] at a1
          cases a1
        rw [upd_ne nl, a1] at b1
        cases b1
        rw [a4] at b4
        cases b4
        have := f2.symm.trans f4
        cases this
        rfl
    rw [← z3, z4]
  subst ea
  have k3'' : H4 a' = some (.lst us.dropLast) := (g3.trans g5).hh _ _ upd_same
  rw [k3''] at k3'
  cases k3'
  have lu : us.dropLast.length < sizeLine := by
    rw [List.length_dropLast, r.len]
    omega
  refine ⟨a', us.dropLast, t, rfl, rfl, k3'', lu, ?_⟩
  have S6 := k5' B5 H4 _ _ (Go.refl S5.ex) (r'.app (.cons r5 .nil))
  exact s8 B5 _ σ (putNext (g2.trans (g3.trans g5)) (Go.refl S5.ex) S6) S6
/-! values that change an object of ours -/
def SatX (G : Gm) (pn : Addr) (E : XE2) (B0 H0 : Hp) (σ : L2.St) {α β : Type} (rel : Hp → Hp → β → α → Prop) (Q : β → Hp → Prop) : SX α → Prop
  | .ok a ρ => ∀ B H b, Go G B0 H0 B H → Slots G pn H0 B H σ ρ → rel B H b a → Q b H
  | .err x f ρ => XEnd G pn E B0 H0 x ρ f
  | .bad => False
def relW (G : Gm) : Hp → Hp → V → D → Prop := fun B H v d => Rep G B v d
def relU : Hp → Hp → Bool → Bool → Prop := fun B H v d => v = d
def DoesW (G : Gm) (E : XE2) (te : TE) (ρ : En) (r : SX D) : Prop := ∀ pn B0 H0 B H σ, Go G B0 H0 B H → Slots G pn H0 B H σ ρ → ∀ Q : VK, SatX G pn E B0 H0 σ (relW G) Q r → te σ H Q
def DoesU (G : Gm) (E : XE2) (tt : TT) (ρ : En) (r : SX Bool) : Prop := ∀ pn B0 H0 B H σ, Go G B0 H0 B H → Slots G pn H0 B H σ ρ → ∀ Q : Bool → Hp → Prop, SatX G pn E B0 H0 σ relU Q r → tt σ H Q
/-- an expression before it -/
theorem SatX.sx {α β γ δ : Type} {rel : Hp → Hp → Hp → β → α → Prop} {rel2 : Hp → Hp → δ → γ → Prop} {B0 H0 B H : Hp} {σ : L2.St} {Q2 : δ → Hp → Prop} {r : R α} {k : α → SX γ} {Q : β → Hp → Prop} (s : SatX G pn E B0 H0 σ rel2 Q2 (r.sx ρ k)) (g : Go G B0 H0 B H) (S : Slots G pn H0 B H σ ρ)
    (hk : ∀ a, r = .ok a → SatX G pn E B0 H0 σ rel2 Q2 (k a) → ∀ b B' H', Go G B H B' H' → rel H B' H' b a → Q b H') : Post G (E σ) rel B H r Q := by
  cases r with
  | ok a => exact fun b B' H' g' q => hk a rfl s b B' H' g' q
  | err x f => exact XEnd.x g S s
  | bad => exact s
theorem SatX.b {α γ δ ε : Type} {rel : Hp → Hp → ε → α → Prop} {rel2 : Hp → Hp → δ → γ → Prop} {B0 H0 : Hp} {σ : L2.St} {Q2 : δ → Hp → Prop} {r : SX α} {k : α → En → SX γ} {Q : ε → Hp → Prop} (s : SatX G pn E B0 H0 σ rel2 Q2 (r.b k))
    (hk : ∀ a ρ', SatX G pn E B0 H0 σ rel2 Q2 (k a ρ') → ∀ B H b, Go G B0 H0 B H → Slots G pn H0 B H σ ρ' → rel B H b a → Q b H) : SatX G pn E B0 H0 σ rel Q r := by
  cases r with
  | ok a ρ' => exact fun B H b g S q => hk a ρ' s B H b g S q
  | err x f ρ' => exact s
  | bad => exact s
theorem Sat.s {α ε : Type} {rel : Hp → Hp → ε → α → Prop} {B0 H0 : Hp} {D' : Ends} {σ : L2.St} {r : SX α} {k : α → En → SR} {Q : ε → Hp → Prop} (s : Sat G pn E B0 H0 D' (r.s k))
    (hk : ∀ a ρ', Sat G pn E B0 H0 D' (k a ρ') → ∀ B H b, Go G B0 H0 B H → Slots G pn H0 B H σ ρ' → rel B H b a → Q b H) : SatX G pn E B0 H0 σ rel Q r := by
  cases r with
  | ok a ρ' => exact fun B H b g S q => hk a ρ' s B H b g S q
  | err x f ρ' => exact s
  | bad => exact s
theorem SatX.r {γ δ α : Type} {rel2 : Hp → Hp → δ → γ → Prop} {B0 H0 : Hp} {σ : L2.St} {Q2 : δ → Hp → Prop} {r : R α} {k : α → SX γ} (ne : ∀ a b, r ≠ .err a b) (s : SatX G pn E B0 H0 σ rel2 Q2 (r.sx ρ k)) : ∃ a, r = .ok a ∧ SatX G pn E B0 H0 σ rel2 Q2 (k a) := by
  cases r with
  | ok a => exact ⟨a, rfl, s⟩
  | err x f => exact absurd rfl (ne x f)
  | bad => exact s.elim
theorem do_wpop {i : Nat} : DoesW G E (tBM0 G.K "list" rPop (tVar i)) ρ (match getL ρ (.pvar i) with
    | .ok ds => (match ds.getLast? with
      | some y => .ok y (putP ρ (.lst ds.dropLast) (.pvar i))
      | none => .bad)
    | _ => .bad) := fun pn B0 H0 B H σ g S Q s0 => by
  cases hp : getL ρ (.pvar i) with
  | err a b => rw [hp] at s0; exact s0.elim
  | bad => rw [hp] at s0; exact s0.elim
  | ok ds =>
  rw [hp] at s0
  cases hl : ds.getLast? with
  | none => simp only [hl] at s0; exact s0.elim
  | some y =>
  simp only [hl] at s0
  obtain ⟨a, us, k1, k3, r, k5⟩ := placeL (E := E) (p := .pvar i) trivial S hp
  refine k1 H _ (ExT.refl H) ⟨.inl ⟨rfl, _, sq_of k3⟩, ?_⟩
  obtain ⟨w, w1, rl⟩ := r.last hl
  refine ⟨a, us, w, rfl, rfl, k3, w1, ?_⟩
  have S2 := k5 B H _ _ (Go.refl S.ex) r.dropLast
  exact s0 B _ w (putNext g (Go.refl S.ex) S2) S2 rl
theorem do_wpop0 {i : Nat} : DoesW G E (tBM G.K "list" rPopAt (tVar i) (tCons (tC (.int 0)) tNil)) ρ (match getL ρ (.pvar i) with
    | .ok (y :: r) => .ok y (putP ρ (.lst r) (.pvar i))
    | _ => .bad) := fun pn B0 H0 B H σ g S Q s0 => by
  cases hp : getL ρ (.pvar i) with
  | err a b => rw [hp] at s0; exact s0.elim
  | bad => rw [hp] at s0; exact s0.elim
  | ok ds =>
  rw [hp] at s0
  cases ds with
  | nil => exact s0.elim
  | cons y rest =>
  obtain ⟨a, us, k1, k3, r, k5⟩ := placeL (E := E) (p := .pvar i) trivial S hp
  refine k1 H _ (ExT.refl H) ⟨.inl ⟨rfl, _, sq_of k3⟩, ?_⟩
  cases r with
  | cons rl rr =>
    rename_i w us'
    refine ⟨a, w :: us', 0, 0, w, rfl, rfl, k3, by decide, by decide, ?_, rfl, ?_⟩
    · show seqIndex? 0 (us'.length + 1) = some 0
      unfold seqIndex?
      simp
    · have S2 := k5 B H _ _ (Go.refl S.ex) rr
      exact s0 B _ w (putNext g (Go.refl S.ex) S2) S2 rl
theorem cn_rep {B : Hp} (k : Cn) : Rep G B k.v k.d := by
  cases k with
  | non => exact .non
  | bl b => exact .bl b
  | int n => exact .int n
  | str s => exact .str _ (sok_lit s)
theorem do_wbin {o : B2} {k : Cn} {tw : TE} {fw : En → SX D} (hw : ∀ ρ, DoesW G E tw ρ (fw ρ)) : DoesW G E (tOp (o.den G.K) (tC k.v) tw) ρ ((fw ρ).b fun d ρ2 => (o.fn k.d d).sx ρ2 fun y => y.toD.sx ρ2 fun d2 => .ok d2 ρ2) := fun pn B0 H0 B H σ g S Q s0 => by
  refine hw ρ pn B0 H0 B H σ g S _ (s0.b fun d ρ2 s2 B2 H2 u g2 S2 r2 => ?_)
  refine o.ok (E σ) B2 H2 k.v u k.d d S2.ex (.rep (cn_rep k)) (.rep r2) Q ?_
  refine s2.sx g2 S2 fun y ey s3 t B3 H3 g3 r3 => ?_
  obtain ⟨d2, e, s4⟩ := SatX.r (fun a b h => toD_noerr h) s3
  obtain ⟨B5, g5, r5⟩ := toData g2 S2 g3 r3 e
  exact s4 B5 H3 t (g2.trans g5) (S2.go g5) r5
theorem do_appW {i : Nat} {tw : TE} {fw : En → SX D} (hw : ∀ ρ, DoesW G E tw ρ (fw ρ)) : Runs G E (tDrop (tBM G.K "list" rAppend (tVar i) (tCons tw tNil))) ρ
    (match getL ρ (.pvar i) with
    | .ok _ => (fw ρ).s fun d ρ2 => (getL ρ2 (.pvar i)).gr fun ds => if ds.length < sizeLine then .nx (putP ρ2 (.lst (ds ++ [d])) (.pvar i)) else .bad
    | _ => .bad) := fun pn B0 H0 B H σ g S D' s0 => by
  cases hp : getL ρ (.pvar i) with
  | err a b => rw [hp] at s0; exact s0.elim
  | bad => rw [hp] at s0; exact s0.elim
  | ok ds0 =>
  rw [hp] at s0
  obtain ⟨a, us, k1, k3, r, k5⟩ := placeL (E := E) (p := .pvar i) trivial S hp
  refine k1 H _ (ExT.refl H) ⟨.inl ⟨rfl, _, sq_of k3⟩, ?_⟩
  refine hw ρ pn B0 H0 B H σ g S _ (Sat.s s0 fun d ρ2 s2 B2 H2 u g2 S2 r2 => ?_)
  obtain ⟨ds, hp2, s3⟩ := s2.gr
  by_cases c : ds.length < sizeLine
  rotate_left
  · rw [if_neg c] at s3
    exact s3.elim
  rw [if_pos c] at s3
  obtain ⟨a', us', k1', k3', r', k5'⟩ := placeL (E := E) (p := .pvar i) trivial S2 hp2
  have ea : a' = a := by
    have q1 : tVar i σ H (fun v _ => v = .ref a) := k1 H _ (ExT.refl H) rfl
    have q2 : tVar i σ H2 (fun v _ => v = .ref a') := k1' H2 _ (ExT.refl H2) rfl
    obtain ⟨v, f1, f2⟩ := q1
    obtain ⟨v', f3, f4⟩ := q2
    rw [f1] at f3
    cases f3
    have := f4.symm.trans f2
    cases this
    rfl
  subst ea
  refine ⟨a', us', u, rfl, rfl, k3', by rw [r'.len]; exact c, ?_⟩
  have S6 := k5' B2 H2 _ _ (Go.refl S2.ex) (r'.app (.cons r2 .nil))
  exact s3 B2 _ σ (putNext g2 (Go.refl S2.ex) S6) S6
theorem do_wand {tw : TE} {fw : En → SX D} (ha : Does G E (relV G) ta ρ ra) (hw : ∀ ρ, DoesW G E tw ρ (fw ρ)) : DoesW G E (tAndV ta tw) ρ (ra.sx ρ fun x => x.toB.sx ρ fun k => if k then fw ρ else .ok (.bl false) ρ) := fun pn B0 H0 B H σ g S Q s0 =>
  ha pn H0 B H σ S _ (s0.sx g S fun x ex s v B1 H1 g1 r1 => by
    obtain ⟨k, e1, s1⟩ := SatX.r (fun a b h => toB_noerr h) s
    refine ⟨k, toB_ok r1 e1, ?_⟩
    cases k with
    | true => exact iteT (hw ρ pn B0 H0 B1 H1 σ (g.trans g1) (S.go g1) Q s1)
    | false => exact iteF (s1 B1 H1 _ (g.trans g1) (S.go g1) (.bl _)))
variable {tt : TT} {rt : R Bool} {tu2 : TT} {fu2 : En → SX Bool}
theorem do_ut (ht : Does G E relT tt ρ rt) : DoesU G E tt ρ (rt.sx ρ fun k => .ok k ρ) := fun pn B0 H0 B H σ g S Q s0 =>
  ht pn H0 B H σ S _ (s0.sx g S fun k ek s v B1 H1 g1 r1 => s B1 H1 v (g.trans g1) (S.go g1) r1)
theorem asBl_noerr {d : D} {a : Nat} {b : Option (Str × D)} (h : asBl d = .err a b) : False := by
  unfold asBl at h
  split at h <;> cases h
theorem do_uw {tw : TE} {rw : SX D} (hw : DoesW G E tw ρ rw) : DoesU G E (tTest tw) ρ (rw.b fun d ρ => (asBl d).sx ρ fun k => .ok k ρ) := fun pn B0 H0 B H σ g S Q s0 =>
  hw pn B0 H0 B H σ g S _ (s0.b fun d ρ' s B1 H1 v g1 S1 r1 => by
    obtain ⟨k, e1, s1⟩ := SatX.r (fun a b h => asBl_noerr h) s
    unfold asBl at e1
    split at e1 <;> cases e1
    cases r1
    exact ⟨_, rfl, s1 B1 H1 _ g1 S1 rfl⟩)
theorem do_unot {ru : SX Bool} (hu : DoesU G E tt ρ ru) : DoesU G E (tNot tt) ρ (ru.b fun k ρ => .ok (!k) ρ) := fun pn B0 H0 B H σ g S Q s0 =>
  hu pn B0 H0 B H σ g S _ (s0.b fun k ρ' s B1 H1 v g1 S1 r1 => by
    have z : v = k := r1
    subst z
    exact s B1 H1 _ g1 S1 rfl)
theorem do_uor (ht : Does G E relT tt ρ rt) (hu : ∀ ρ, DoesU G E tu2 ρ (fu2 ρ)) : DoesU G E (tOr tt tu2) ρ (rt.sx ρ fun k => if k then .ok true ρ else fu2 ρ) := fun pn B0 H0 B H σ g S Q s0 =>
  ht pn H0 B H σ S _ (s0.sx g S fun k ek s v B1 H1 g1 r1 => by
    have z : v = k := r1
    subst z
    cases v with
    | true => exact iteT (s B1 H1 _ (g.trans g1) (S.go g1) rfl)
    | false => exact iteF (hu ρ pn B0 H0 B1 H1 σ (g.trans g1) (S.go g1) Q s))
theorem do_uand (ht : Does G E relT tt ρ rt) (hu : ∀ ρ, DoesU G E tu2 ρ (fu2 ρ)) : DoesU G E (tAnd tt tu2) ρ (rt.sx ρ fun k => if k then fu2 ρ else .ok false ρ) := fun pn B0 H0 B H σ g S Q s0 =>
  ht pn H0 B H σ S _ (s0.sx g S fun k ek s v B1 H1 g1 r1 => by
    have z : v = k := r1
    subst z
    cases v with
    | true => exact iteT (hu ρ pn B0 H0 B1 H1 σ (g.trans g1) (S.go g1) Q s)
    | false => exact iteF (s B1 H1 _ (g.trans g1) (S.go g1) rfl))
theorem slotsD {H0 B H : Hp} {σ : L2.St} {v : V} {d : D} (S : Slots G pn H0 B H σ ρ) (r : Rep G B v d) : SlotsV G pn H0 B H σ ρ v (.d d) := by
  obtain ⟨ow, S⟩ := S
  exact ⟨ow, [], S, .fv (.d r), fun a m => nomatch m⟩
theorem do_retW {tw : TE} {rw : SX D} (hw : DoesW G E tw ρ rw) : Runs G E (tRet tw) ρ (rw.s fun d ρ => .rt (dv d) ρ) := fun pn B0 H0 B H σ g S D' s0 =>
  hw pn B0 H0 B H σ g S _ (s0.s fun d ρ' s B1 H1 v g1 S1 r1 => s B1 H1 σ v (.d d) rfl rfl g1 (slotsD S1 r1))
theorem do_asgW {tw : TE} {rw : SX D} (hw : DoesW G E tw ρ rw) : Runs G E (tAsg tw (gName i)) ρ (rw.s fun d ρ => .nx (ρ.set i (some (.d d)))) := fun pn B0 H0 B H σ g S D' s0 =>
  hw pn B0 H0 B H σ g S _ (s0.s fun d ρ' s B1 H1 v g1 S1 r1 => s B1 H1 _ g1 ((slotsD S1 r1).set i))
theorem do_ifU {ru : SX Bool} (hu : DoesU G E tt ρ ru) (ha : ∀ ρ, Runs G E ts ρ (fs ρ)) (hb : ∀ ρ, Runs G E tu ρ (fu ρ)) : Runs G E (tIfS tt ts tu) ρ (ru.s fun k ρ => if k then fs ρ else fu ρ) := fun pn B0 H0 B H σ g S D' s0 =>
  hu pn B0 H0 B H σ g S _ (s0.s fun k ρ' s B1 H1 v g1 S1 r1 => by
    have z : v = k := r1
    subst z
    cases v with
    | true => exact iteT (ha ρ' pn B0 H0 B1 H1 σ g1 S1 D' s)
    | false => exact iteF (hb ρ' pn B0 H0 B1 H1 σ g1 S1 D' s))
end
end Ci
end

section
set_option Elab.async false
set_option linter.all false
set_option maxRecDepth 100000
set_option maxHeartbeats 4000000
/-! ## all of it is sound -/
namespace Ci
open PySem PySem.Spec PyProof.Rows L2 Evl
section
variable {G : Gm} {E : XE2} {ρ : En} {i : Nat} {as : TA} {rs : R (List D)}
theorem ArgsOk.go {B H B1 H1 : Hp} (g : Go G B H B1 H1) : ∀ {ms : List Bool} {vs : List V} {ds : List D}, ArgsOk G B H ms vs ds → ArgsOk G B1 H1 ms vs ds
  | _, _, _, .nil => .nil
  | _, _, _, .d h r => .d (h.mono g.bb) (ArgsOk.go g r)
  | _, _, _, .b h q r => .b (g.hh _ _ h) (q.mono g.bb) (ArgsOk.go g r)
theorem do_selfS {c : Nat} {m : Str} {ms : List Bool} {f : SelfF} (h : Does G E (relM G ms) as ρ rs) : Runs G E (tDrop (cMeth (G.cm c) m (PrS G c ms f) E (tVar i) as)) ρ (match ρ[i]? with
    | some (some (.obj sf c' fs)) => if c' = c then (match fs.lookup m with | none => rs.sr ρ fun ds => (f fs ds).sr (ρ.set i none) fun r => .nx (ρ.set i (some (.obj sf c r.2))) | some _ => .bad) else .bad
    | _ => .bad) := fun pn B0 H0 B H σ g S D' s0 => by
  cases ho : ρ[i]? with
  | none => rw [ho] at s0; exact s0.elim
  | some t =>
  rw [ho] at s0
  rcases t with _ | (_ | ⟨sf, c', fs⟩ | _) <;> first | exact s0.elim | skip
  by_cases ec : c' = c
  rotate_left
  · simp only [if_neg ec] at s0
    exact s0.elim
  subst ec
  simp only [if_true] at s0
  cases hm : fs.lookup m with
  | some q => simp only [hm] at s0; exact s0.elim
  | none =>
  simp only [hm] at s0
  obtain ⟨l, dx, fv, ow, bs, zs, S', e1, e2, e3, e4, e5, e6, e7⟩ := S.obj ho
  refine ⟨.ref l, e2, l, dx, fv, rfl, e5, e6.lookN hm, ?_⟩
  refine h pn H0 B H σ S _ (s0.sr g S fun ds eds s1 vs B1 H1 g1 r1 => ?_)
  have S1 := S'.go g1
  have e6' := e6.go g1
  have e5' := g1.hh _ _ e5
  have own0 : ∀ a, a ∈ l :: bs → H0 a = none := fun a m => by
    rcases List.mem_cons.mp m with z | z
    · rw [z]; exact e3
    · exact (e6.addr z).1
  refine ⟨B1, fs, ds, l, dx, vs, fv, bs, rfl, e5', g1.fr _ _ e5 e4, g1.bh, e6'.base fun _ _ => rfl, e7, r1, S1.tb, ?_⟩
  have go : ∀ B2 H2, Off G (l :: bs) B1 H1 B2 H2 → Ex B2 H2 → Go G B0 H0 B2 H2 := fun B2 H2 z a2 => by
    have g2 := g.trans g1
    refine ⟨g2.bb.trans z.bb, a2, g2.hx.offT z.hx (fun a o q m => ?_) (fun a m o q => ?_), fun a o q1 q2 => (g2.hx.has q1).elim fun o' h' => z.kb a o' h' (fun m => ?_) (g2.fr a o q1 q2)⟩
    · rw [own0 a m] at q; cases q
    · obtain ⟨v', _, w⟩ := S1.ok _ _ ho
      exact w.plain (e1 ▸ m) q
    · rw [own0 a m] at q1; cases q1
  cases hf : f fs ds with
  | bad => rw [hf] at s1; exact s1.elim
  | err x g0 =>
    rw [hf] at s1
    have sl : ∀ B2 H2, Off G (l :: bs) B1 H1 B2 H2 → Ex B2 H2 → Slots G pn H0 B2 H2 σ (ρ.set i none) := fun B2 H2 z a2 =>
      ⟨_, S1.others (as' := []) ho (e1 ▸ z) (S1.ex0.offT z.hx (fun a o q m => by rw [own0 a m] at q; cases q) (fun a m o q => by obtain ⟨v', _, w⟩ := S1.ok _ _ ho; exact w.plain (e1 ▸ m) q)) a2 (fun t q => nomatch q) fun a m => nomatch m⟩
    cases g0 with
    | none => exact fun B2 H2 z a2 => s1 B2 H2 σ (go B2 H2 z a2) (sl B2 H2 z a2)
    | some p => exact fun B2 H2 dd v z a2 a3 a4 => s1 B2 H2 σ dd v (go B2 H2 z a2) (sl B2 H2 z a2) a3 a4
  | ok r =>
    rw [hf] at s1
    obtain ⟨d, fs'⟩ := r
    intro v B2 H2 dy fv' as' z a2 a3 a4 a5 a6 a7 a8
    refine s1 B2 H2 σ (go B2 H2 z a2) ⟨_, S1.others (as' := l :: as') ho (e1 ▸ z) (S1.ex0.offT z.hx (fun a o q m => by rw [own0 a m] at q; cases q) (fun a m o q => by obtain ⟨v', _, w⟩ := S1.ok _ _ ho; exact w.plain (e1 ▸ m) q)) a2 (fun t q => ?_) fun a m => ?_⟩
    · cases q
      refine ⟨_, e2, .obj zs e3 a3 a4 (a5.base fun a m => ?_) a6⟩
      rcases a7 a m with w | w
      · exact own0 a (List.mem_cons_of_mem _ w)
      · exact S1.ex0.n _ w
    · rw [e1]
      rcases List.mem_cons.mp m with w | w
      · exact .inl (List.mem_cons.mpr (.inl w))
      · exact (a7 a w).imp (List.mem_cons_of_mem _) id
theorem do_wself {c : Nat} {m : Str} {ms : List Bool} {f : SelfF} (h : Does G E (relM G ms) as ρ rs) : DoesW G E (cMeth (G.cm c) m (PrS G c ms f) E (tVar i) as) ρ (match ρ[i]? with
    | some (some (.obj sf c' fs)) => if c' = c then (match fs.lookup m with | none => rs.sx ρ fun ds => (f fs ds).sx (ρ.set i none) fun r => .ok r.1 (ρ.set i (some (.obj sf c r.2))) | some _ => .bad) else .bad
    | _ => .bad) := fun pn B0 H0 B H σ g S Q s0 => by
  cases ho : ρ[i]? with
  | none => rw [ho] at s0; exact s0.elim
  | some t =>
  rw [ho] at s0
  rcases t with _ | (_ | ⟨sf, c', fs⟩ | _) <;> first | exact s0.elim | skip
  by_cases ec : c' = c
  rotate_left
  · simp only [if_neg ec] at s0
    exact s0.elim
  subst ec
  simp only [if_true] at s0
  cases hm : fs.lookup m with
  | some q => simp only [hm] at s0; exact s0.elim
  | none =>
  simp only [hm] at s0
  obtain ⟨l, dx, fv, ow, bs, zs, S', e1, e2, e3, e4, e5, e6, e7⟩ := S.obj ho
  refine ⟨.ref l, e2, l, dx, fv, rfl, e5, e6.lookN hm, ?_⟩
  refine h pn H0 B H σ S _ (s0.sx g S fun ds eds s1 vs B1 H1 g1 r1 => ?_)
  have S1 := S'.go g1
  have e6' := e6.go g1
  have e5' := g1.hh _ _ e5
  have own0 : ∀ a, a ∈ l :: bs → H0 a = none := fun a m => by
    rcases List.mem_cons.mp m with z | z
    · rw [z]; exact e3
    · exact (e6.addr z).1
  refine ⟨B1, fs, ds, l, dx, vs, fv, bs, rfl, e5', g1.fr _ _ e5 e4, g1.bh, e6'.base fun _ _ => rfl, e7, r1, S1.tb, ?_⟩
  have go : ∀ B2 H2, Off G (l :: bs) B1 H1 B2 H2 → Ex B2 H2 → Go G B0 H0 B2 H2 := fun B2 H2 z a2 => by
    have g2 := g.trans g1
    refine ⟨g2.bb.trans z.bb, a2, g2.hx.offT z.hx (fun a o q m => ?_) (fun a m o q => ?_), fun a o q1 q2 => (g2.hx.has q1).elim fun o' h' => z.kb a o' h' (fun m => ?_) (g2.fr a o q1 q2)⟩
    · rw [own0 a m] at q; cases q
    · obtain ⟨v', _, w⟩ := S1.ok _ _ ho
      exact w.plain (e1 ▸ m) q
    · rw [own0 a m] at q1; cases q1
  cases hf : f fs ds with
  | bad => rw [hf] at s1; exact s1.elim
  | err x g0 =>
    rw [hf] at s1
    have s1 : XEnd G pn E B0 H0 x (ρ.set i none) g0 := s1
    have sl : ∀ B2 H2, Off G (l :: bs) B1 H1 B2 H2 → Ex B2 H2 → Slots G pn H0 B2 H2 σ (ρ.set i none) := fun B2 H2 z a2 =>
      ⟨_, S1.others (as' := []) ho (e1 ▸ z) (S1.ex0.offT z.hx (fun a o q m => by rw [own0 a m] at q; cases q) (fun a m o q => by obtain ⟨v', _, w⟩ := S1.ok _ _ ho; exact w.plain (e1 ▸ m) q)) a2 (fun t q => nomatch q) fun a m => nomatch m⟩
    cases g0 with
    | none => exact fun B2 H2 z a2 => s1 B2 H2 σ (go B2 H2 z a2) (sl B2 H2 z a2)
    | some p => exact fun B2 H2 dd v z a2 a3 a4 => s1 B2 H2 σ dd v (go B2 H2 z a2) (sl B2 H2 z a2) a3 a4
  | ok r =>
    rw [hf] at s1
    obtain ⟨d, fs'⟩ := r
    intro v B2 H2 dy fv' as' z a2 a3 a4 a5 a6 a7 a8
    refine s1 B2 H2 v (go B2 H2 z a2) ⟨_, S1.others (as' := l :: as') ho (e1 ▸ z) (S1.ex0.offT z.hx (fun a o q m => by rw [own0 a m] at q; cases q) (fun a m o q => by obtain ⟨v', _, w⟩ := S1.ok _ _ ho; exact w.plain (e1 ▸ m) q)) a2 (fun t q => ?_) fun a m => ?_⟩ a8
    · cases q
      refine ⟨_, e2, .obj zs e3 a3 a4 (a5.base fun a m => ?_) a6⟩
      rcases a7 a m with w | w
      · exact own0 a (List.mem_cons_of_mem _ w)
      · exact S1.ex0.n _ w
    · rw [e1]
      rcases List.mem_cons.mp m with w | w
      · exact .inl (List.mem_cons.mpr (.inl w))
      · exact (a7 a w).imp (List.mem_cons_of_mem _) id
end
def Sound (G : Gm) : {s : Sr} → P s → Prop
  | .e, p => ∀ E ρ, Does G E (relV G) (den G E p) ρ (ev p ρ)
  | .a, p => ∀ E ρ, Does G E (relA G) (den G E p) ρ (ev p ρ)
  | .r, p => ∀ E ρ, Does G E (relR G) (den G E p) ρ (ev p ρ)
  | .m, p => ∀ E ρ, Does G E (relM G (Wf.modes p)) (den G E p) ρ (ev p ρ)
  | .t, p => ∀ E ρ, Does G E relT (den G E p) ρ (ev p ρ)
  | .o, p => ∀ E ρ, Does G E relO (den G E p) ρ (ev p ρ)
  | .i, p => ∀ E ρ, Does G E (relI G) (den G E p) ρ (ev p ρ)
  | .g, p => ∀ E x ρ, TgS G (den G E p) (Wf.names p) x ρ (ev p x ρ)
  | .gs, p => ∀ E xs ρ, TgsS G (den G E p) (Wf.names p) xs ρ (ev p xs ρ)
  | .p, _ => True
  | .s, p => ∀ E ρ, Runs G E (den G E p) ρ (ev p ρ)
  | .f, p => ∀ E ρ, DoesF G E (den G E p) ρ (fun acc => ev p acc ρ)
  | .x, p => ∀ E, DoesX G E (relV G) (den G E p) (ev p)
  | .xs, p => ∀ E, DoesX G E (relA G) (den G E p) (ev p)
  | .h, p => ∀ E, RunsX G E (den G E p) (ev p)
  | .w, p => ∀ E ρ, DoesW G E (den G E p) ρ (ev p ρ)
  | .u, p => ∀ E ρ, DoesU G E (den G E p) ρ (ev p ρ)
def SoundT (G : Gm) : {s : Sr} → P s → Prop
  | .g, p => ∀ E x ρ, TgS G (den G E p) (Wf.names p) x ρ (ev p x ρ)
  | .gs, p => ∀ E xs ρ, TgsS G (den G E p) (Wf.names p) xs ρ (ev p xs ρ)
  | _, _ => True
theorem soundT (G : Gm) : ∀ {s : Sr} (p : P s), SoundT G p
  | _, .gname i => fun E x ρ => tg_name
  | _, .gtup n gs => fun E x ρ => tg_tup (fun xs ρ => soundT G gs E xs ρ)
  | _, .gtl n gs => fun E x ρ => tg_lst (fun xs ρ => soundT G gs E xs ρ)
  | _, .gnil => fun E xs ρ => tgs_nil
  | _, .gcons g gs => fun E xs ρ => tgs_cons (fun x ρ => soundT G g E x ρ) (fun xs ρ => soundT G gs E xs ρ)
  | .e, _ => trivial
  | .a, _ => trivial
  | .r, _ => trivial
  | .m, _ => trivial
  | .t, _ => trivial
  | .o, _ => trivial
  | .i, _ => trivial
  | .p, _ => trivial
  | .s, _ => trivial
  | .f, _ => trivial
  | .x, _ => trivial
  | .xs, _ => trivial
  | .h, _ => trivial
  | .w, _ => trivial
  | .u, _ => trivial
def XMod : {s : Sr} → P s → Prop
  | .xs, p => ∀ (x : Nat) (fo : Option (Str × D)) (ρ : En) (ds : List D), ev p x fo ρ = .ok ds → Wf.modes p = ds.map fun _ => false
  | _, _ => True
theorem xmod_cons {a : P .x} {as : P .xs} (ih : XMod as) : XMod (.xcons a as) := fun x fo ρ ds h => by
  replace h : ((ev a x fo ρ).bind fun v => v.toD.bind fun d => (ev as x fo ρ).bind fun ds => .ok (d :: ds)) = .ok ds := h
  cases e1 : ev a x fo ρ with
  | ok v =>
    rw [e1, R.bind_ok] at h
    cases e2 : v.toD with
    | ok d =>
      rw [e2, R.bind_ok] at h
      cases e3 : ev as x fo ρ with
      | ok es =>
        rw [e3, R.bind_ok] at h
        cases h
        have z := ih x fo ρ es e3
        show false :: Wf.modes as = _
        rw [z, List.map_cons]
      | err p q => rw [e3] at h; cases h
      | bad => rw [e3] at h; cases h
    | err p q => rw [e2] at h; cases h
    | bad => rw [e2] at h; cases h
  | err p q => rw [e1] at h; cases h
  | bad => rw [e1] at h; cases h
theorem xmod {s : Sr} (p : P s) : XMod p := by
  induction p
  case xnil => exact fun x fo ρ ds h => by cases h; rfl
  case xcons a as _ ih => exact xmod_cons ih
  all_goals exact trivial
theorem xmodes (as : P .xs) (x : Nat) (fo : Option (Str × D)) (ρ : En) (ds : List D) (h : ev as x fo ρ = .ok ds) : Wf.modes as = ds.map fun _ => false := xmod as x fo ρ ds h
theorem sound (G : Gm) : ∀ {s : Sr} (p : P s), Wf G p → Sound G p
  | _, .var i, _ => fun E ρ => do_var
  | _, .c k, _ => fun E ρ => do_c
  | _, .kt j ds, w => fun E ρ pn H0 B H σ S Q P => by
    obtain ⟨vs, h1, h2⟩ := w B
    exact P _ B H (Go.refl S.ex) (.d (.tup h1 h2))
  | _, .bin o a b, w => fun E ρ => do_bin (sound G a w.1 E ρ) (sound G b w.2 E ρ)
  | _, .neg a, w => fun E ρ => do_neg (sound G a w E ρ)
  | _, .andV a b, w => fun E ρ => do_andV (sound G a w.1 E ρ) (sound G b w.2 E ρ)
  | _, .orV a b, w => fun E ρ => do_orV (sound G a w.1 E ρ) (sound G b w.2 E ρ)
  | _, .notV a, w => fun E ρ => do_notV (sound G a w E ρ)
  | _, .chain o o' a b c, w => fun E ρ => do_chain (sound G a w.1 E ρ) (sound G b w.2.1 E ρ) (sound G c w.2.2 E ρ)
  | _, .chain3 o o' o2 a b c d, w => fun E ρ => do_chain3 (sound G a w.1 E ρ) (sound G b w.2.1 E ρ) (sound G c w.2.2.1 E ρ) (sound G d w.2.2.2 E ρ)
  | _, .ife t a b, w => fun E ρ => do_ife (sound G t w.1 E ρ) (sound G a w.2.1 E ρ) (sound G b w.2.2 E ρ)
  | _, .tup as, w => fun E ρ => do_tup (sound G as w E ρ)
  | _, .lst as, w => fun E ρ => do_lst (sound G as w E ρ)
  | _, .fld cs a f, w => fun E ρ => do_fld (sound G a w.1 E ρ) w.2
  | _, .fldv cs i f, w => fun E ρ => do_fldv w
  | _, .sl a lo hi, w => fun E ρ => do_sl (sound G a w.1 E ρ) (sound G lo w.2.1 E ρ) (sound G hi w.2.2 E ρ)
  | _, .cb o as, w => fun E ρ => do_cb (sound G as w E ρ)
  | _, .isi a T, w => fun E ρ => do_isi (sound G a w E ρ)
  | _, .call ms f as, w => fun E ρ => do_call (w.1 ▸ sound G as w.2 E ρ)
  | _, .tm o a e, w => fun E ρ => do_tm (sound G a w.1 E ρ) (sound G e w.2 E ρ)
  | _, .fn j, _ => fun E ρ => do_fn
  | _, .callv i j ms f as, w => fun E ρ => do_callv (w.1 ▸ sound G as w.2 E ρ)
  | _, .fmt a, w => fun E ρ => do_fmt (sound G a w E ρ)
  | _, .fstr as, w => fun E ρ => do_fstr (sound G as w E ρ)
  | _, .fnil, _ => fun E ρ => do_fnil
  | _, .fcons a as, w => fun E ρ => do_fcons (sound G a w.1 E ρ) (sound G as w.2 E ρ)
  | _, .noE, _ => fun E ρ => do_noE
  | _, .noS, _ => fun E ρ => fun pn B0 H0 B H σ g S D' s0 => s0.elim
  | _, .meth c m ms f o as, w => fun E ρ => do_meth (sound G o w.2.1 E ρ) (w.1 ▸ sound G as w.2.2 E ρ)
  | _, .make c ms f as, w => fun E ρ => do_make (w.1 ▸ sound G as w.2 E ρ)
  | _, .lc it g t e vs, w => fun E ρ => do_lc (sound G it w.1 E ρ) (fun x ρ => soundT G g E0 x ρ) w.2.1 (fun ρ => sound G t w.2.2.1 E0 ρ) (fun ρ => sound G e w.2.2.2 E0 ρ)
  | _, .dcm it g t k e vs, w => fun E ρ => do_dcm (sound G it w.1 E ρ) (fun x ρ => soundT G g E0 x ρ) w.2.1 (fun ρ => sound G t w.2.2.1 E0 ρ) (fun ρ => sound G k w.2.2.2.1 E0 ρ) (fun ρ => sound G e w.2.2.2.2 E0 ρ)
  | _, .lc2 it g it2 g2 e vs vs1, w => fun E ρ => do_lc2 (sound G it w.1 E ρ) (fun x ρ => soundT G g E0 x ρ) w.2.1 (fun ρ => sound G it2 w.2.2.1 E0 ρ) (fun x ρ => soundT G g2 E0 x ρ) w.2.2.2.1 (fun ρ => sound G e w.2.2.2.2 E0 ρ)
  | _, .lend i a, w => fun E ρ => do_lend (fun ρ => sound G a w E ρ)
  | _, .rev a, w => fun E ρ => do_rev (sound G a w E ρ)
  | _, .anil, _ => fun E ρ => do_anil
  | _, .acons a as, w => fun E ρ => do_acons (sound G a w.1 E ρ) (sound G as w.2 E ρ)
  | _, .rnil, _ => fun E ρ => do_rnil
  | _, .rcons a as, w => fun E ρ => do_rcons (sound G a w.1 E ρ) (sound G as w.2 E ρ)
  | _, .mnil, _ => fun E ρ => do_mnil
  | _, .mcons b a as, w => fun E ρ => do_mcons (b := b) (sound G a w.1 E ρ) (sound G as w.2 E ρ)
  | _, .tst a, w => fun E ρ => do_tst (sound G a w E ρ)
  | _, .tru a, w => fun E ρ => do_tru (sound G a w E ρ)
  | _, .andT a b, w => fun E ρ => do_andT (sound G a w.1 E ρ) (sound G b w.2 E ρ)
  | _, .orT a b, w => fun E ρ => do_orT (sound G a w.1 E ρ) (sound G b w.2 E ρ)
  | _, .notT a, w => fun E ρ => do_notT (sound G a w E ρ)
  | _, .yes, _ => fun E ρ => do_yes
  | _, .noP, _ => fun E ρ => do_noP
  | _, .someP a, w => fun E ρ => do_someP (sound G a w E ρ)
  | _, .rngv a, w => fun E ρ => do_rngv (sound G a w E ρ)
  | _, .seq a, w => fun E ρ => do_seq (sound G a w E ρ)
  | _, .seqb i, _ => fun E ρ => do_seqb
  | _, .rng1 as, w => fun E ρ => do_rng1 (sound G as w E ρ)
  | _, .rng2 as, w => fun E ρ => do_rng2 (sound G as w E ρ)
  | _, .rng3 as, w => fun E ρ => do_rng3 (sound G as w E ρ)
  | _, .zip as, w => fun E ρ => do_zip (sound G as w E ρ)
  | _, .enum as, w => fun E ρ => do_enum (sound G as w E ρ)
  | _, .zipR as, w => fun E ρ => do_zipR (sound G as w E ρ)
  | _, .enumK as ks, w => fun E ρ => do_enumK (sound G as w.1 E ρ) (sound G ks w.2 E ρ)
  | _, .gname i, _ => soundT G (.gname i)
  | _, .gtup n gs, _ => soundT G (.gtup n gs)
  | _, .gtl n gs, _ => soundT G (.gtl n gs)
  | _, .gnil, _ => soundT G .gnil
  | _, .gcons g gs, _ => soundT G (.gcons g gs)
  | _, .pvar i, _ => trivial
  | _, .pfld c i f, _ => trivial
  | _, .pnst i k, _ => trivial
  | _, .nix i k, _ => fun E ρ => do_nix
  | _, .lrg a, w => fun E ρ => do_lrg (sound G a w E ρ)
  | _, .nset i a b, w => fun E ρ => do_nset (sound G a w.1 E ρ) (sound G b w.2 E ρ)
  | _, .skip, _ => fun E ρ => do_skip
  | _, .sq a b, w => fun E ρ => do_sq (fs := ev a) (sound G a w.1 E ρ) (fun ρ => sound G b w.2 E ρ)
  | _, .asgN i a, w => fun E ρ => do_asgN (sound G a w E ρ)
  | _, .asgG g a, w => fun E ρ => do_asgG (sound G a w E ρ) (fun x ρ => soundT G g E x ρ)
  | _, .asgF i c f a, w => fun E ρ => do_asgF (sound G a w.1 E ρ) w.2.1 w.2.2
  | _, .asgI p ix a, w => fun E ρ => do_asgI w.1 (sound G a w.2.2 E ρ) (sound G ix w.2.1 E ρ)
  | _, .mut o p as, w => fun E ρ => do_mut w.1 (sound G as w.2 E ρ)
  | _, .ext p a, w => fun E ρ => do_ext w.1 (sound G a w.2 E ρ)
  | _, .popD p, w => fun E ρ => do_popD w
  | _, .popG g p, w => fun E ρ => do_popG w (fun x ρ => soundT G g E x ρ)
  | _, .aug i sub a, w => fun E ρ => do_aug (sound G a w E ρ)
  | _, .augI p ix sub a, w => fun E ρ => do_augI w.1 (sound G ix w.2.1 E ρ) (sound G a w.2.2 E ρ)
  | _, .drop a, w => fun E ρ => do_drop (sound G a w E ρ)
  | _, .ret a, w => fun E ρ => do_ret (sound G a w E ρ)
  | _, .retO i, _ => fun E ρ => do_retO
  | _, .retN, _ => fun E ρ => do_retN
  | _, .brk, _ => fun E ρ => do_brk
  | _, .cont, _ => fun E ρ => do_cont
  | _, .raise x, _ => fun E ρ => do_raise
  | _, .ifS t a b, w => fun E ρ => do_ifS (sound G t w.1 E ρ) (sound G a w.2.1 E ρ) (sound G b w.2.2 E ρ)
  | _, .for it g b kill, w => fun E ρ => do_for (sound G it w.1 E ρ) (fun x ρ => soundT G g E x ρ) (fun ρ => sound G b w.2 E ρ)
  | _, .while n t b kill, w => fun E ρ => do_while (fun ρ => sound G t w.1 E ρ) (fun ρ => sound G b w.2 E ρ)
  | _, .try c subs b h, w => fun E ρ => do_try w.1 (fun W => sound G b w.2.1 (WE W) ρ) (fun ρ => sound G h w.2.2 E ρ)
  | _, .try2 c c2 b h h2, w => fun E ρ => do_try2 w.1.1 w.1.2.1 w.1.2.2 (fun W => sound G b w.2.1 (WE W) ρ) (fun ρ => sound G h w.2.2.1 E ρ) (fun ρ => sound G h2 w.2.2.2 E ρ)
  | _, .try3 c c2 c3 b h h2 h3, w => fun E ρ => do_try3 w.1.1 w.1.2.1 w.1.2.2.1 w.1.2.2.2.1 w.1.2.2.2.2.1 w.1.2.2.2.2.2 (fun W => sound G b w.2.1 (WE W) ρ) (fun ρ => sound G h w.2.2.1 E ρ) (fun ρ => sound G h2 w.2.2.2.1 E ρ) (fun ρ => sound G h3 w.2.2.2.2 E ρ)
  | _, .frz i, _ => fun E ρ => do_frz
  | _, .kill is, _ => fun E ρ => do_kill
  | _, .own t f, w => w
  | _, .ownE t f, w => w
  | _, .selfS i c m ms f as, w => fun E ρ => do_selfS (w.1 ▸ sound G as w.2 E ρ)
  | _, .dnew, _ => fun E ρ => do_dnew
  | _, .dget a k, w => fun E ρ => do_dget (sound G a w.1 E ρ) (sound G k w.2 E ρ)
  | _, .dget1 a k, w => fun E ρ => do_dget1 (sound G a w.1 E ρ) (sound G k w.2 E ρ)
  | _, .dget2 a k z, w => fun E ρ => do_dget2 (sound G a w.1 E ρ) (sound G k w.2.1 E ρ) (sound G z w.2.2 E ρ)
  | _, .din neg k a, w => fun E ρ => do_din (sound G k w.1 E ρ) (sound G a w.2 E ρ)
  | _, .dictP a, w => fun E ρ => do_dictP (sound G a w E ρ)
  | _, .dictZ as, w => fun E ρ => do_dictZ (sound G as w E ρ)
  | _, .dictR as, w => fun E ρ => do_dictR (sound G as w E ρ)
  | _, .kdG j kvs k, w => fun E ρ => do_kdG (sound G k w E ρ)
  | _, .kdI neg j kvs k, w => fun E ρ => do_kdI (sound G k w E ρ)
  | _, .lendO i a, w => fun E ρ => do_lendO (fun ρ => sound G a w E ρ)
  | _, .isC c a, w => fun E ρ => do_isC (sound G a w E ρ)
  | _, .nrmE a, w => fun E ρ => do_nrmE (sound G a w E ρ)
  | _, .tupNE a, w => fun E ρ => do_tupNE (sound G a w E ρ)
  | _, .tix a z, w => fun E ρ => do_tix (sound G a w.1 E ρ) (sound G z w.2 E ρ)
  | _, .dput p k a, w => fun E ρ => do_dput w.1 (sound G k w.2.1 E ρ) (sound G a w.2.2 E ρ)
  | _, .daug p k sub a, w => fun E ρ => do_daug w.1 (sound G k w.2.1 E ρ) (sound G a w.2.2 E ρ)
  | _, .appP p f a b, w => fun E ρ => do_appP w.1 (sound G a w.2.1 E ρ) (fun ρ => sound G b w.2.2 E ρ)
  | _, .retW w', w => fun E ρ => do_retW (sound G w' w E ρ)
  | _, .asgW i w', w => fun E ρ => do_asgW (sound G w' w E ρ)
  | _, .ifU u a b, w => fun E ρ => do_ifU (sound G u w.1 E ρ) (fun ρ => sound G a w.2.1 E ρ) (fun ρ => sound G b w.2.2 E ρ)
  | _, .wself i c m ms f as, w => fun E ρ => do_wself (w.1 ▸ sound G as w.2 E ρ)
  | _, .wpop i, _ => fun E ρ => do_wpop
  | _, .wpop0 i, _ => fun E ρ => do_wpop0
  | _, .wbin o k w', w => fun E ρ => do_wbin (fun ρ => sound G w' w E ρ)
  | _, .appW i w', w => fun E ρ => do_appW (fun ρ => sound G w' w E ρ)
  | _, .wand a w', w => fun E ρ => do_wand (sound G a w.1 E ρ) (fun ρ => sound G w' w.2 E ρ)
  | _, .ut t, w => fun E ρ => do_ut (sound G t w E ρ)
  | _, .uw w', w => fun E ρ => do_uw (sound G w' w E ρ)
  | _, .unot u, w => fun E ρ => do_unot (sound G u w E ρ)
  | _, .uor t u, w => fun E ρ => do_uor (sound G t w.1 E ρ) (fun ρ => sound G u w.2 E ρ)
  | _, .uand t u, w => fun E ρ => do_uand (sound G t w.1 E ρ) (fun ρ => sound G u w.2 E ρ)
  | _, .raiseF x f a, w => fun E ρ => do_raiseF (sound G a w E ρ)
  | _, .tryA c i subs b h, w => fun E ρ => do_tryA w.1 (fun W => sound G b w.2.1 (WE W) ρ) (sound G h w.2.2 E)
  | _, .xe a, w => fun E => dx_e fun ρ => sound G a w E ρ
  | _, .xf x f, _ => fun E => dx_f
  | _, .xi y ys, _ => fun E => dx_i
  | _, .xtup as, w => fun E => dx_tup (sound G as w E)
  | _, .xand a b, w => fun E => dx_and (sound G a w.1 E) (sound G b w.2 E)
  | _, .xnil, _ => fun E => dx_nil
  | _, .xcons a as, w => fun E => dx_cons (sound G a w.1 E) (sound G as w.2 E)
  | _, .hret a, w => fun E => rx_ret (sound G a w E)
  | _, .hif y ys a b, w => fun E => rx_if (sound G a w.1 E) (sound G b w.2 E)
  | _, .hifx t a b, w => fun E => rx_ifx (sound G t w.1 E) (sound G a w.2.1 E) (sound G b w.2.2 E)
  | _, .xcall ms f as, w => fun E => dx_call (sound G as w.2 E) fun x fo ρ ds h => w.1.symm.trans (xmodes as x fo ρ ds h)
  | _, .xife y ys a b, w => fun E => dx_ife (sound G a w.1 E) (sound G b w.2 E)
  | _, .xbin o a b, w => fun E => dx_bin (sound G a w.1 E) (sound G b w.2 E)
end Ci
end

section
set_option Elab.async false
set_option linter.all false
set_option maxRecDepth 100000
set_option maxHeartbeats 4000000
/-! ## bodies of defs; calls; the law -/
namespace Ci
open PySem PySem.Spec PyProof.Rows L2 Evl

/-! ### what a def computes -/
def startE : List Bool → List D → En
  | false :: ms, d :: ds => some (.d d) :: startE ms ds
  | true :: ms, .lst es :: ds => some (.brw es) :: startE ms ds
  | true :: ms, _ :: ds => none :: startE ms ds
  | _, _ => []
def padE (n : Nat) (ρ : En) : En := ρ ++ List.replicate (n - ρ.length) none
def SR.toR : SR → R RV
  | .nx _ => .ok (dv .non)
  | .rt v _ => .ok v
  | .err x f _ => .err x f
  | _ => .bad
/-- n names, arguments' modes, the body -/
def runF (n : Nat) (ms : List Bool) (b : P .s) (ds : List D) : R RV := (ev b (padE n (startE ms ds))).toR
def getO (c : Nat) (ρ : En) : R (List (Str × FV)) := match ρ[(0 : Nat)]? with
  | some (some (.obj true c' fs)) => if c' = c then .ok fs else .bad
  | _ => .bad
def SR.toI (c : Nat) : SR → R (List (Str × FV))
  | .nx ρ => getO c ρ
  | .rt (.sv (.fv (.d .non))) ρ => getO c ρ
  | .err x f _ => .err x f
  | _ => .bad
def SR.toS (c : Nat) : SR → R (D × List (Str × FV))
  | .nx ρ => (getO c ρ).bind fun fs => .ok (.non, fs)
  | .rt (.sv (.fv (.d x))) ρ => (getO c ρ).bind fun fs => .ok (x, fs)
  | .err x f _ => .err x f
  | _ => .bad
section
variable {G : Gm} {B H H0 : Hp} {pn : Addr}
theorem ArgsOk.len : ∀ {ms : List Bool} {vs : List V} {ds : List D}, ArgsOk G B H ms vs ds → vs.length = ms.length ∧ (startE ms ds).length = vs.length
  | _, _, _, .nil => ⟨rfl, rfl⟩
  | _, _, _, .d _ r => ⟨congrArg Nat.succ r.len.1, congrArg Nat.succ r.len.2⟩
  | _, _, _, .b _ _ r => ⟨congrArg Nat.succ r.len.1, congrArg Nat.succ r.len.2⟩
theorem ArgsOk.slot : ∀ {ms : List Bool} {vs : List V} {ds : List D}, ArgsOk G B H ms vs ds → (∀ a us, H a = some (.lst us) → V.ref a ∈ vs → H0 a = some (.lst us)) → ∀ (i : Nat) (s : SV), (startE ms ds)[i]? = some (some s) → ∃ v, vs[i]? = some v ∧ SlotOk G pn H0 B H v s []
  | _, _, _, .nil, _, i, s, h => by simp [startE] at h
  | _, _, _, .d h r, k, i, s, q => by
    cases i with
    | zero =>
      cases q
      exact ⟨_, rfl, .fv (.d h)⟩
    | succ i => exact r.slot (fun a us h m => k a us h (List.mem_cons_of_mem _ m)) i s q
  | _, _, _, .b h hr r, k, i, s, q => by
    cases i with
    | zero =>
      cases q
      exact ⟨_, rfl, .brw (k _ _ h List.mem_cons_self) hr⟩
    | succ i => exact r.slot (fun a us h m => k a us h (List.mem_cons_of_mem _ m)) i s q
theorem padE_some {n : Nat} {ρ : En} {i : Nat} {s : SV} (h : (padE n ρ)[i]? = some (some s)) : ρ[i]? = some (some s) := by
  unfold padE at h
  by_cases c : i < ρ.length
  · rw [List.getElem?_append_left c] at h
    exact h
  · rw [List.getElem?_append_right (by omega), List.getElem?_replicate] at h
    split at h <;> cases h
theorem start_slots {N : List Str} {ms : List Bool} {vs : List V} {ds : List D} (e : Ex B H) (a : ArgsOk G B H ms vs ds) (t : TbOk G B H) : Slots G pn H B H (L2.start N vs) (padE N.length (startE ms ds)) := by
  refine ⟨fun _ => [], ?_, ExT.refl H, e, fun i s h => ?_, (fun i j si sj a _ _ m _ => nomatch m), t⟩
  · unfold L2.start padE
    rw [List.length_append, List.length_append, List.length_map, List.length_replicate, List.length_replicate, a.len.2]
  · obtain ⟨v, h1, h2⟩ := a.slot (pn := pn) (fun a us h _ => h) i s (padE_some h)
    refine ⟨v, ?_, h2⟩
    unfold L2.start
    have hi : i < vs.length := (List.getElem?_eq_some_iff.mp h1).1
    rw [List.getElem?_append_left (by rw [List.length_map]; exact hi), List.getElem?_map, h1]
    rfl
theorem toR_sat {E : XK} {r : SR} {Q : VK} (P : Post G E (RvOk G) B H r.toR Q) : Sat G pn (fun _ => E) B H { nx := fun _ H' => Q .non H', rt := Q } r := by
  cases r with
  | nx ρ => exact fun B' H' σ g S => P .non B' H' g (.d .non)
  | rt v ρ =>
    intro B' H' σ w s e nb g S
    subst e
    obtain ⟨ow, as, S', ok, no⟩ := S
    exact P w B' H' g (.sv nb (ok.pin nb))
  | err x f ρ =>
    cases f with
    | none => exact fun B' H' σ g S => P B' H' g
    | some p => exact fun B' H' σ dd v g S a1 a2 => P B' H' dd v g a1 a2
  | bk ρ => exact P.elim
  | ct ρ => exact P.elim
  | bad => exact P.elim
/-- the body's reading from the promise -/
theorem body {N : List Str} {ms : List Bool} {b : P .s} {vs : List V} {Q : VK} {E : XK} (w : Wf G b) (h : Pr G ms (runF N.length ms b) vs H Q E) : den G (fun _ => E) b { nx := fun _ H' => Q .non H', rt := Q } (L2.start N vs) H := by
  obtain ⟨B, ds, e, a, t, P⟩ := h
  exact sound G b w (fun _ => E) _ 0 B H B H _ (Go.refl e) (start_slots e a t) _ (toR_sat P)
theorem Pr.len {ms : List Bool} {f : List D → R RV} {n : Nat} (h : ms.length = n) : ∀ vs H Q E, Pr G ms f vs H Q E → vs.length = n := fun vs H Q E ⟨B, ds, e, a, _⟩ => a.len.1.trans h
theorem ArgsOk.slotD : ∀ {ms : List Bool} {vs : List V} {ds : List D}, (ms.all fun b => !b) = true → ArgsOk G B H ms vs ds → ∀ (i : Nat) (s : SV), (startE ms ds)[i]? = some (some s) → ∃ v, vs[i]? = some v ∧ SlotOk G pn H0 B H v s []
  | _, _, _, _, .nil, i, s, h => by simp [startE] at h
  | false :: ms, _, _, m, .d h r, i, s, q => by
    cases i with
    | zero =>
      cases q
      exact ⟨_, rfl, .fv (.d h)⟩
    | succ i => exact ArgsOk.slotD (ms := ms) (by simpa using m) r i s q
  | _, _, _, m, .b h hr r, i, s, q => by cases m
theorem PrI.len {c : Nat} {ms : List Bool} {f : List D → R (List (Str × FV))} {n : Nat} (h : ms.length + 1 = n) : ∀ vs H Q E, PrI G c ms f vs H Q E → vs.length = n := fun vs H Q E ⟨B, ds, p, dx, ws, e, _, _, _, a, _⟩ => by
  rw [e, List.length_cons, a.len.1]
  exact h
theorem PrS.len {c : Nat} {ms : List Bool} {f : SelfF} {n : Nat} (h : ms.length + 1 = n) : ∀ vs H Q E, PrS G c ms f vs H Q E → vs.length = n := fun vs H Q E ⟨B, fs, ds, p, dx, ws, fv, as, e, _, _, _, _, _, a, _⟩ => by
  rw [e, List.length_cons, a.len.1]
  exact h
end
/-! ### rules with the written part named; calls by what is wished at the slots -/
section
variable {X : Cx} {K : PySem.W.Frag} {ta te : TE} {e a : Expr} {pos : Pos}
theorem pg_tupK {es : List Expr} {k : Nat} {t : TGs} {n : Nat} (hK : X.K = K) (hc : X.calm = true) (h : PGs X es t)
    (hn : (assignEach es X.env).length = n := by rfl) (hst : (assignEach es X.env).findIdx? (·.1) = none := by rfl) : PG X (.Tuple es k pos) (gTup K n t) := hK ▸ pg_tup hc h hn hst
end
/-! calls, by what is wished at the slots -/
section
variable {X : Cx} {CX : CXT} {k : Nat} {f C : Addr} {fd : FuncData} {ps : List Str} {sp : Sp} {E : XE2} {x m : Str} {p pos apos : Pos} {e o : Expr} {es : List Expr} {ta : TE} {t : TA}
theorem pe_cCall (F : FnOk X.prog X.w X.K X.mg X.base CX k f fd ps sp) (hr : Room k X.A) (hg : Gl X x) (hm : X.mg x = some (.ref f)) (hk : PySem.W.keepIn X.K (.ref f) = true) (hb : Binds X.K fd ps []) (hx : ∀ σ, PassesAt CX X σ (E σ)) (ha : PA X (e :: es) t)
    (hdb : (x == ("__debug__" : Str)) = false := by decide) (he : starEach (e :: es) X.env = (false, eval e X.env) :: starEach es X.env := by rfl) (hpl : (backTo pos (starEach es X.env)).any (·.1) = false := by rfl) : PE X (.Call (.Name x p) (e :: es) [] pos) (cCall sp E t) :=
  pe_callS F hr hg hm hk hb hx ha hdb he hpl
theorem passLc (σ : L2.St) : PassesAt (L2.CX X.prog X.w) X σ (E0 σ) := fun pins H s e s' I c => passL pins σ H s e s' I c
end
/-! try: .. except: .. -/
section
variable {X : Cx} {K : PySem.W.Frag} {x : Str} {c : Value} {body suite : List Stmt} {b₀ : Stmt} {np pos pos' : Pos} {tb : WX → TS} {ts : Addr → Value → Option Addr → TS} {E : XE2}
end
theorem exm_self {K : PySem.W.Frag} {S : Addr} (h1 : PySem.W.subIn K (.ref S) (.type "BaseException") = some true) (h2 : PySem.W.isClsIn K S = true) (h3 : PySem.W.typeIn K (.ref S) = some (.type "type")) (h4 : PySem.W.subIn K (.ref S) (.ref S) = some true) :
    PySem.W.exmOne K (.ref S) (.ref S) = some true := by
  have e1 : (PySem.W.subIn K (.ref S) (.type "BaseException") == some true) = true := by rw [h1] <;> rfl
  have e2 : ((PySem.W.clsIn K S).isSome && PySem.W.typeIn K (.ref S) == some (.type "type")) = true := by
    have h2' : (PySem.W.clsIn K S).isSome = true := h2
    rw [h2', h3] <;> rfl
  show (if (PySem.W.subIn K (.ref S) (.type "BaseException") == some true) = true then (if ((PySem.W.clsIn K S).isSome && PySem.W.typeIn K (.ref S) == some (.type "type")) = true then PySem.W.subIn K (.ref S) (.ref S) else none) else none) = some true
  rw [if_pos e1, if_pos e2]
  exact h4
end Ci
namespace Ci
open PySem PySem.Spec PyProof.Rows L2
end Ci
end

section
set_option Elab.async false
set_option linter.all false
set_option maxRecDepth 100000
set_option maxHeartbeats 4000000
/-! ## exceptions with an attribute, suites that raise, suites that name the exception, defs in slots: the derivations -/
namespace Ci
open PySem PySem.Spec PyProof.Rows L2 Evl
def CXn : CXT := fun _ _ _ _ _ _ => False
theorem passn {X : Cx} {E : XK} : Passes CXn X E := fun _ _ _ _ _ _ _ h => h.elim
theorem PrE.len {G : Gm} {x : Nat} {f : Str} {n : Nat} (hn : 2 = n) : ∀ vs H Q E, PrE G x f vs H Q E → vs.length = n := fun vs H Q E ⟨a, y, e, _⟩ => by rw [e, ← hn]; rfl
/-- self.f = f -/
theorem bodyE {G : Gm} {x : Nat} {f : Str} {N : List Str} {vs : List V} {H : Hp} {Q : VK} {E : XK} (T : OexC G.K (G.ca x)) (hno : PySem.W.findIn G.K (.ref (G.ca x)) f = some none) (h : PrE G x f vs H Q E) : tOst G.K f (tVar 0) (tVar 1) { nx := fun _ H' => Q .non H', rt := Q } (L2.start N vs) H := by
  obtain ⟨a, y, rfl, ha, k⟩ := h
  exact ⟨y, rfl, .ref a, rfl, a, G.ca x, rfl, T, hno, .inl ⟨ha, fun dx h1 h2 => k dx h1 h2⟩⟩
section
variable {P : Program} {w : World} {K : PySem.W.Frag} {mg : Str → Option Value} {base : Heap} {x qual : Str} {st : Stmt} {f : Addr} {fd : FuncData} {N ps : List Str} {k : Nat} {sp : Sp}
theorem fun_okCX {CX : CXT} (F : Fun K x qual st f fd) (S : FnScope N ps (defScope st)) (len : ∀ vs H Q E, sp vs H Q E → vs.length = ps.length)
    (hbody : ∀ (cdv : Value) (A : Around) (outer : List Env) (s : Shared) (H : Hp) (vs : List V) (Q : VK) (E : XK), Room k (A.deeper (envOfC qual (defScope st) s.heap.objs.size f cdv)) → sp vs H Q E →
      ∃ t, PSs (cxOf CX P w K mg base N qual (defScope st) f cdv A outer s H E) (defBody st) t ∧ t { nx := fun _ H' => Q .non H', rt := Q } (L2.start N vs) H) : FnOk P w K mg base CX (k + 1) f fd ps sp := by
  obtain ⟨oc, od, kV, doc, pm, an, cdv, ct, osl, rfl, lk, hcd⟩ := F.ex
  exact fn_of lk hcd S len fun A outer s H vs Q E hr hsp => hbody cdv A outer s H vs Q E hr hsp
end
section
variable {X : Cx} {CX : CXT} {x : Str} {C fI : Addr} {k : Nat} {fd : FuncData} {ps : List Str} {sp : Sp} {e : Expr} {es : List Expr} {ta : TA} {p pos : Pos}
variable {E : XE2} {pos2 : Pos}
/-- raise C(e) -/
theorem ps_raiseF (hc : X.calm = true) (tk : L2.Takes X (fun cl d σ H => E σ cl d H)) (T : OexC X.K C) (iC : PySem.W.findIn X.K (.ref C) "__init__" = some (some (.ref fI))) (tI : PySem.W.typeIn X.K (.ref fI) = some (.type "function"))
    (F1 : FnOk X.prog X.w X.K X.mg X.base CX k fI fd ps sp) (hr : Room (k + 1) X.A) (hb : Binds X.K fd ps []) (hx : Passes CX X (fun _ _ _ => False)) (hg : Gl X x) (hm : X.mg x = some (.ref C)) (ha : PA X (e :: es) ta)
    (hdb : (x == ("__debug__" : Str)) = false := by decide) (he : starEach (e :: es) X.env = (false, eval e X.env) :: starEach es X.env := by rfl) (hpl : (backTo pos (starEach es X.env)).any (·.1) = false := by rfl) :
    PS X (.Raise (some (.Call (.Name x p) (e :: es) [] pos)) none pos2) (fun _ σ H => tMkO C sp [] ta σ H fun cl d H' => E σ cl d H') :=
  L2.ps_raise (W := fun cl d σ H => E σ cl d H) hc tk (pmk_oex T iC tI F1 hr hb .nil hx hg hm ha hdb he hpl)
end
section
variable {X : Cx} {K : PySem.W.Frag} {x n : Str} {c : Value} {i : Nat} {body suite : List Stmt} {b₀ : Stmt} {np pos pos' : Pos} {tb : WX → TS} {ts : Addr → Value → Option Addr → TS} {E : XE2}
/-- try: .. except x as n: .. -/
theorem ps_tryAE (hK : X.K = K) (hs : X.stack = X.env :: X.outer) (hf : X.env.frame = some X.env.locals) (hN : X.N.Nodup) (hi : X.N[i]? = some n) (hln : X.env.kindOf n = some .local) (hc : Names X x c) (tk : L2.Takes X (fun cl d σ H => E σ cl d H))
    (hb : ∀ (W : WX) (pn : List (Addr × Obj)) (xe : Value → Shared → Prop), L2.Takes (X.tr pn xe) W → PassesOwn (model X.prog X.w) X.A X.env xe → PSs (X.tr pn xe) body (tb W))
    (hsu : ∀ (a : Addr) (oe : Obj) (cls : Value) (d : Option Addr) (pn : List (Addr × Obj)), Zc cls d oe → (∃ vs, oe.data = .fields vs) → PSs (X.suite a ((a, oe) :: pn)) (b₀ :: suite) (ts a cls d)) :
    PS X (.Try body [.ExceptHandler (some (.Name x np)) (some n) (b₀ :: suite) pos'] [] [] pos) (tTryA K c i E tb ts) := hK ▸ L2.ps_try_as hs hf hN hi hln hc tk hb hsu
end
/-! isinstance of the exception that a suite names -/
theorem cls_of_exc {prog : Program} {w : World} {A : Around} {E : Value → Shared → Prop} {st : Shared} {K : PySem.W.Frag} {p D : Addr} {op : Obj} {od : Option Obj} {Q : Option Value → Shared → Prop} (c : ExcC K D) (X : K.In st.heap) (I : PySem.W.InstAt st.heap p op D od)
    (q : Q (some (.ref D)) { st with toks := st.toks + 1 }) : wpAny (model prog w) A (getAttr? (.ref p) "__class__") Q E st := by
  obtain ⟨h0, gs, dr, tt, oss⟩ := st
  have isC : (PySem.W.clsIn K D).isSome = true := by obtain ⟨cd, e, _⟩ := PySem.W.any_some c.hd; rw [e]; rfl
  have found : PySem.W.findObj K D od "__class__" = some (.bind (.builtin "getset_descriptor.__get__") (.builtin "object.__class__")) := by
    cases od with
    | none => exact PySem.W.findObj_dataN isC c.ha c.hn c.ht
    | some o => exact PySem.W.findObj_data isC c.ha c.hn c.ht
  have m0 := I.type (M := model prog w); have m1 := PySem.W.looks_findIn (M := model prog w) X c.hg; have m2 := PySem.W.looks_findIn (M := model prog w) X c.hk; have m3 := PySem.W.looks_find (M := model prog w) X I found
  have m4 : PySem.W.Looks (model prog w) h0 (isInstance (.ref p) (.type "BaseException")) true := m0.andThen (PySem.W.looks_subIn X c.hs)
  have f0 : (false && onTheHeap (Value.builtin "BaseException.__getattribute__")) = false := rfl
  have f2 : (Value.builtin "BaseException.__getattribute__" == Value.builtin "object.__getattribute__") = false := by decide +kernel
  have f1 : (onTheHeap (Value.ref D) && Value.builtin "BaseException.__getattribute__" == Value.builtin "object.__getattribute__") = false := by rw [f2]; rfl
  unfold getAttr? getAttrBy? getAttrBy; refine wpAny_bind (wpAny_mkText (wpAny_bind (wpAny_attempt (wpAny_holding (wpAny_bind (m0.at (wpAny_bind (m1.at ?_))))))))
  show wpAny _ _ (if (onTheHeap (Value.ref D) && Value.builtin "BaseException.__getattribute__" == Value.builtin "object.__getattribute__") = true then _ else _) _ _ ⟨h0, gs, dr, tt + 1, oss⟩
  rw [f1, if_neg Bool.false_ne_true]; unfold getAttrByItsOwn hookBefore; refine wpAny_bind ?_
  rw [if_pos (show onTheHeap (Value.ref D) = true from rfl)]; refine m2.at (wpAny_bind (wpAny_attempt (wpAny_holding ?_)))
  unfold callGetattribute; rw [f0, if_neg Bool.false_ne_true]; unfold boundAndCalled
  rw [PySem.F.excAttr_ValueError.ga.bind (.ref p)]; refine wpAny_bind (wpAny_pure ?_)
  show wpAny _ _ (call (.builtin "BaseException.__getattribute__") [.ref p, .str "__class__" tt]) _ _ ⟨h0, gs, dr, tt + 1, oss⟩
  refine wpAny_call (codeAny_call_builtin PySem.F.excAttr_ValueError.ga.plain PySem.F.entry_bexc_ga (@PySem.W.check_slot (model prog w) _ _ ⟨h0, gs, dr, tt + 1, oss⟩ "BaseException.__getattribute__" "BaseException" "__getattribute__" (.ref p) [.str "__class__" tt] [] _ (by decide +kernel) (by decide +kernel) m4 (PySem.F.args_bexc_ga (.ref p) (.str "__class__" tt)) ?_))
  unfold Builtin.«object.__getattribute__»; refine wpAny_bind (wpAny_of_eq (a := ((Value.ref p : Value), [Value.str "__class__" tt])) (by first | rfl | (simp only [slotArgs]; rfl)) (wpAny_bind (wpAny_pure (wpAny_bind (m0.at (wpAny_bind (m3.at ?_)))))))
  show wpAny _ _ (holding [Value.builtin "object.__class__"] (call (.builtin "getset_descriptor.__get__") [.builtin "object.__class__", .ref p, .ref D]) >>= ret) _ _ ⟨h0, gs, dr, tt + 1, oss⟩
  refine wpAny_bind (wpAny_holding (wpAny_call (PySem.W.class_get (s := ⟨h0, gs, dr, tt + 1, oss⟩) (ox := op) (od := od) X I c.hm (wpAny_pure ?_))))
  show wpAny _ _ (handedOut (.ref D)) _ _ ⟨h0, gs, dr, tt + 1, oss⟩
  rw [PySem.W.handedOut_of (v := .ref D) rfl]; first | exact wpAny_pure (wpAny_pure q) | exact wpAny_pure q | exact wpAny_pure (wpAny_bind (wpAny_pure (wpAny_pure q)))
theorem kit_of_exc {K : PySem.W.Frag} {p D : Addr} {op : Obj} (c : ExcC K D) : PySem.W.KitX K (.ref p) (.ref D) (fun h => ∃ od, PySem.W.InstAt h p op D od) where
  ty := fun _ _ _ ⟨_, I⟩ => I.type
  it := fun _ _ X _ => by
    obtain ⟨cd, e, _⟩ := PySem.W.any_some c.hd; unfold PySem.W.clsIn at e
    split at e
    · rename_i c1 d1 cd1 sl1 e1
      exact fun A1 Q1 E1 s1 k q => by unfold isType loadHead; exact wpAny_bind (wpAny_loadPart (k _ _ (X _ _ e1)) (wpAny_pure q))
    · cases e
  ne := fun h tp dd its n sl X htp => by
    obtain ⟨cd, e, _⟩ := PySem.W.any_some c.hd
    refine Bool.eq_false_iff.mpr fun z => ?_
    obtain rfl : D = tp := Value.ref.inj (beq_iff_eq.mp z)
    unfold PySem.W.clsIn at e
    split at e
    · rename_i c1 d1 cd1 sl1 e1
      cases (X _ _ e1).symm.trans htp
    · cases e
  ca := fun X ⟨_, I⟩ k => cls_of_exc c X I k
theorem call_isX {X : Cx} {K : PySem.W.Frag} {a : Addr} {cls : Value} {d : Option Addr} {oe : Obj} {pn : List (Addr × Obj)} {ca : Nat → Addr} {y : Nat} {ys : List (Nat × Bool)} (hK : X.K = K) (hys : ∀ x b, ys.lookup x = some b → ExcC K (ca x) ∧ PySem.W.kitOne K (.ref (ca x)) (.ref (ca y)) = some b) (hz : Zc cls d oe) (hf : ∃ vs, oe.data = .fields vs) : CallR (X.suite a ((a, oe) :: pn)) (.builtin "isinstance") (rIsX a cls d ca y ys) := by
  subst hK
  intro pins s σ H xs us Q I r h
  obtain ⟨x, b, l, rfl, rfl, hd, q⟩ := h
  obtain ⟨hc, e⟩ := hys x b l
  cases r with
  | cons rx rr =>
    cases rr with
    | cons rt rr =>
      cases rr
      cases rx
      cases rt
      obtain ⟨at1, _⟩ := I.pin (a, oe) (List.mem_append.mpr (.inl List.mem_cons_self))
      obtain ⟨vs, hv⟩ := hf
      obtain ⟨oc, od, oda, osl⟩ := oe
      obtain ⟨h1, h2⟩ := hz
      dsimp only at h1 h2 hv
      subst h1 h2 hv
      have J : ∃ o2, PySem.W.InstAt s.heap a ⟨.ref (ca x), od, .fields vs, osl⟩ (ca x) o2 := by
        rcases hd with rfl | ⟨dd, fs, rfl, hx⟩
        · exact ⟨none, at1, rfl, rfl, trivial⟩
        · have ok : ObjOk X.prog X.w H s.heap dd (.xd fs) := I.hok dd _ hx
          obtain ⟨mA, hns, _⟩ := ok
          obtain ⟨o2, ho, _⟩ := lookIn_ns hns
          exact ⟨some o2, at1, rfl, rfl, ho⟩
      exact PySem.W.kia_one (kit_of_exc hc) I.kIn J e (fun z => nomatch z) fun tk => ⟨.bl b, H, I.kept (t' := tk) fun _ _ z => z, rfl, q⟩
inductive LkAll (P : Nat → Bool → Prop) : List (Nat × Bool) → Prop
  | nil : LkAll P []
  | cons {x : Nat} {b : Bool} {ys : List (Nat × Bool)} : P x b → LkAll P ys → LkAll P ((x, b) :: ys)
theorem lk_all {P : Nat → Bool → Prop} : ∀ {ys : List (Nat × Bool)}, LkAll P ys → ∀ x b, ys.lookup x = some b → P x b
  | _, .nil, _, _, h => by cases h
  | (y, c) :: ys, .cons p r, x, b, h => by
    rw [List.lookup_cons] at h
    by_cases e : x = y
    · subst e
      rw [show (x == x) = true from beq_iff_eq.mpr rfl] at h
      cases h
      exact p
    · rw [show (x == y) = false from beq_eq_false_iff_ne.mpr e] at h
      exact lk_all r x b h
/-- if isinstance(e, C): a suite that ends with a return; then the rest -/
theorem pss_rt {X : Cx} {b : List Stmt} {ta : TS} (ha : PSs X b ta) : PSs X b (fun D σ H => ta { D with nx := fun _ _ => False } σ H) := ⟨fun pins s σ H D I h => by
  refine wpAny_mono (ha.run pins s σ H { D with nx := fun _ _ => False } I h) (fun f s1 hsp => ?_) (fun _ _ z => z)
  cases f with
  | next => obtain ⟨_, _, _, z⟩ := hsp; exact z.elim
  | _ => exact hsp⟩
theorem pss_hif {X : Cx} {c : Expr} {b rest : List Stmt} {t : TT} {ta tb : TS} {pos : Pos} (hc : PT X c t) (ha : PSs X b ta) (hr : PSs X rest tb) : PSs X (.If c b [] pos :: rest) (sHif t ta tb) := by
  have z := pss_cons (ps_if (pos := pos) hc (pss_rt ha) (pss_nil (X := X))) hr
  exact z
/-! a suite that calls a def -/
section
variable {X : Cx} {K : PySem.W.Frag} {x n : Str} {c : Value} {i : Nat} {body suite : List Stmt} {b₀ : Stmt} {np pos pos' : Pos} {tb : WX → TS} {ts : Addr → Value → Option Addr → TS} {E : XE2}
variable {f : Addr} {fd : FuncData} {ps : List Str} {sp : Sp} {k : Nat} {e : Expr} {es : List Expr} {t : TA} {q : Pos}
end
/-! calls of what a slot holds -/
section
variable {X : Cx} {CX : CXT} {k i : Nat} {f : Addr} {fd : FuncData} {ps : List Str} {sp : Sp} {E : XE2} {x : Str} {p pos : Pos} {e : Expr} {es : List Expr} {t : TA}
end
end Ci
namespace Ci
open PySem PySem.Spec PyProof.Rows L2
theorem exm_yes {K : PySem.W.Frag} {S C : Addr} (h1 : PySem.W.subIn K (.ref C) (.type "BaseException") = some true) (h2 : PySem.W.isClsIn K C = true) (h3 : PySem.W.typeIn K (.ref C) = some (.type "type")) (h4 : PySem.W.subIn K (.ref S) (.ref C) = some true) :
    PySem.W.exmOne K (.ref S) (.ref C) = some true := by
  have e1 : (PySem.W.subIn K (.ref C) (.type "BaseException") == some true) = true := by rw [h1] <;> rfl
  have e2 : ((PySem.W.clsIn K C).isSome && PySem.W.typeIn K (.ref C) == some (.type "type")) = true := by
    have h2' : (PySem.W.clsIn K C).isSome = true := h2
    rw [h2', h3] <;> rfl
  show (if (PySem.W.subIn K (.ref C) (.type "BaseException") == some true) = true then (if ((PySem.W.clsIn K C).isSome && PySem.W.typeIn K (.ref C) == some (.type "type")) = true then PySem.W.subIn K (.ref S) (.ref C) else none) else none) = some true
  rw [if_pos e1, if_pos e2]
  exact h4
end Ci
namespace L2H
open PySem PySem.Spec PyProof.Rows L2
theorem RoomH.units {k : Nat} {A : Around} (r : RoomH k A) : A.units + 64 < cLine := by have := r.un; omega
theorem RoomH.units65 {k : Nat} {A : Around} (r : RoomH k A) : A.units + 65 < cLine := by have := r.un; omega
end L2H
end

section
set_option Elab.async false
set_option linter.all false
set_option maxRecDepth 100000
set_option maxHeartbeats 4000000
/-! ## dicts: the derivations -/
namespace Ci
open PySem PySem.Spec PyProof.Rows L2 Evl
section
variable {X : Cx} {o i : Expr} {pos : Pos} {td ty : TE}
end
theorem pt_wself {X : Cx} {e : Expr} {t : TE} (h : PE X e t) (he : ∀ whole, isTrue e X.env whole = (do let v ← whole; standAt e.pos; holding [v] (truthy v)) := by intro _; rfl) : PT X e (tTest t) := pt_val h he
end Ci
end

section
set_option Elab.async false
set_option linter.all false
set_option maxRecDepth 100000
set_option maxHeartbeats 4000000
/-! ## dict(zip(a, b)) of lists and tuples -/
namespace Ci
open PySem PySem.Spec PyProof.Rows L2 Evl
section
variable {prog : Program} {w : World} {A : Around} {E : Value → Shared → Prop} {s : Shared} {z TI TO T i1 i2 : Addr} {f : Bool} {oT : Obj} {fp1 fp2 : List Addr} {n1 n2 i : Nat} {P1 P2 : Nat → Value → Prop} {St1 St2 : Nat → Heap → Prop}
end
/-- an iterator of a list (true) or of a tuple -/
def SqSt : Bool → Addr → Addr → Array Value → Nat → Heap → Prop
  | true, it, l, items, i, h => h.IsListIter it l i ∧ h.IsList l items
  | false, it, l, items, i, h => h.IsTupleIter it l i ∧ h.IsTuple l items
theorem SqSt.keep {b : Bool} {it l : Addr} {items : Array Value} {i : Nat} {h h' : Heap} (st : SqSt b it l items i h) (k : ∀ c, c = it ∨ c = l → ∀ o, h.get? c = some o → h'.get? c = some o) : SqSt b it l items i h' := by
  cases b with
  | true => exact ⟨st.1.at fun o e => k it (.inl rfl) o e, st.2.at fun o e => k l (.inr rfl) o e⟩
  | false => exact ⟨st.1.at fun o e => k it (.inl rfl) o e, st.2.at fun o e => k l (.inr rfl) o e⟩
theorem SqSt.there {b : Bool} {it l : Addr} {items : Array Value} {i : Nat} {h : Heap} (st : SqSt b it l items i h) : (∃ o, h.get? it = some o) ∧ ∃ o, h.get? l = some o := by
  cases b with
  | true => exact ⟨let ⟨o, e, _⟩ := st.1; ⟨o, e⟩, let ⟨o, e, _⟩ := st.2; ⟨o, e⟩⟩
  | false => exact ⟨let ⟨o, e, _⟩ := st.1; ⟨o, e⟩, let ⟨o, e, _⟩ := st.2; ⟨o, e⟩⟩
def itObj : Bool → Addr → Obj
  | true, l => { cls := .type "list_iterator", data := .fields #[.ref l, .int 0 0] }
  | false, l => { cls := .type "tuple_iterator", data := .fields #[.ref l, .int 0 0] }
def SqIs : Bool → Heap → Addr → Array Value → Prop
  | true, h, l, items => h.IsList l items
  | false, h, l, items => h.IsTuple l items
theorem SqIs.st {b : Bool} {h h' : Heap} {l it : Addr} {items : Array Value} (x : SqIs b h l items) (k : ∀ c o, h.get? c = some o → h'.get? c = some o) (g : h'.get? it = some (itObj b l)) : SqSt b it l items 0 h' := by
  cases b with
  | true => exact ⟨⟨_, g, rfl, rfl⟩, Heap.IsList.at x fun o e => k l o e⟩
  | false => exact ⟨⟨_, g, rfl, rfl⟩, Heap.IsTuple.at x fun o e => k l o e⟩
theorem SqIs.lt {b : Bool} {h : Heap} {l : Addr} {items : Array Value} (x : SqIs b h l items) : l < h.objs.size := by
  cases b with
  | true => obtain ⟨o, e, _⟩ := x; exact Heap.lt_size e
  | false => obtain ⟨o, e, _⟩ := x; exact Heap.lt_size e
end Ci
end

section
set_option Elab.async false
set_option linter.all false
set_option maxRecDepth 100000
set_option maxHeartbeats 4000000
namespace Ci
open PySem PySem.Spec PyProof.Rows L2 Evl
/-- an iterator of a range -/
def RgSt (it : Addr) (lo : Int) (n i : Nat) (h : Heap) : Prop := RgI h it (lo + (i : Nat)) ((n : Int) - (i : Nat))
theorem RgSt.at_ {it : Addr} {lo : Int} {n i : Nat} {h : Heap} (x : RgSt it lo n i h) : IsRangeIter h it (lo + (i : Nat)) ((n : Int) - (i : Nat)) 1 := RgI.at_ x
section
variable {prog : Program} {w : World} {A : Around} {E : Value → Shared → Prop} {s : Shared} {T : String} {a : Addr} {fp wr : List Addr} {n : Nat} {Rel : Nat → Value → Value → Prop} {OK : Heap → Prop}
end
end Ci
/-! name = {k: v for ..} on one line, the name a local -/
namespace Ci
open PySem PySem.Spec PyProof.Rows L2 Evl
section
variable {X : Cx}
end
end Ci
end

section
set_option Elab.async false
set_option linter.all false
set_option maxRecDepth 100000
set_option maxHeartbeats 4000000
/-! ## for mirrors: how the interpreter goes, as rewriting -/
namespace Ci
open PySem PySem.Spec PyProof.Rows L2 Evl
theorem fn_none {prog : Program} {w : World} {K : PySem.W.Frag} {mg : Str → Option Value} {base : Heap} {CX : CXT} {k : Nat} {f : Addr} {fd : FuncData} {ps : List Str} {sp : Sp} (h : ∀ vs H Q E, ¬ sp vs H Q E) : FnOk prog w K mg base CX k f fd ps sp :=
  ⟨fun vs H Q E q => (h vs H Q E q).elim, fun A outer s H args us vs Q E hr he hb hv hs => (h vs H Q E hs).elim⟩

/-! combinators -/
def sqF (r : SR) (k : En → SR) : SR := match r with
  | .nx ρ => k ρ
  | o => o
def lcS (g : P .g) (t : P .t) (e : P .e) (ρ : En) (x : D) : R (Option D) := ((ev g x ρ).bind fun ρ2 => (ev t ρ2).bind fun k => if k then (ev e ρ2).bind fun y => y.toD.bind fun d => .ok (some d) else .ok none).quiet
def forS (g : P .g) (b : P .s) (x : D) (ρ : En) : SR := (ev g x ρ).gr fun ρ' => ev b ρ'
def tryF (c : List Nat) (r : SR) (k : En → SR) : SR := match r with
  | .err x f ρ' => if x ∈ c then k ρ' else .bad
  | o => o
def tryF3 (c c2 c3 : Nat) (r : SR) (k k2 k3 : En → SR) : SR := match r with
  | .err x f ρ' => if x = c then k ρ' else if x = c2 then k2 ρ' else if x = c3 then k3 ρ' else .bad
  | o => o
def tryF2 (c c2 : Nat) (r : SR) (k k2 : En → SR) : SR := match r with
  | .err x f ρ' => if x = c then k ρ' else if x = c2 then k2 ρ' else .bad
  | o => o
def seqI : RV → R (Bool × List D)
  | .sv (.fv (.d (.lst ds))) => .ok (true, ds)
  | .sv (.fv (.d (.tup ds))) => .ok (true, ds)
  | .sv (.fv (.lst ds)) => .ok (true, ds)
  | .vw (.lst ds) => .ok (false, ds)
  | .sv (.fv (.d (.str s))) => .ok (true, chD s)
  | _ => .bad
def fldF (cs : List Nat) (f : Str) : RV → R RV
  | .sv (.fv (.d (.ins c fs))) => if c ∈ cs then (R.ofO (fs.lookup f)).bind fun d => .ok (dv d) else .bad
  | .sv (.obj false c fs) => if c ∈ cs then getFO (fs.lookup f) else .bad
  | _ => .bad
def rng1F : List D → R (Bool × List D)
  | [.int n] => if -(2 ^ 62) ≤ n ∧ n < 2 ^ 62 then .ok (true, rng 0 n.toNat) else .bad
  | _ => .bad
def rng2F : List D → R (Bool × List D)
  | [.int m, .int n] => if -(2 ^ 62) ≤ m ∧ m < 2 ^ 62 ∧ -(2 ^ 62) ≤ n ∧ n < 2 ^ 62 then .ok (true, rng m (n - m).toNat) else .bad
  | _ => .bad
def rng3F : List D → R (Bool × List D)
  | [.int m, .int n, .int c] => if c = -1 ∧ -(2 ^ 62) ≤ m ∧ m < 2 ^ 62 ∧ -(2 ^ 62) ≤ n ∧ n < 2 ^ 62 then .ok (true, rngD m (m - n).toNat) else .bad
  | _ => .bad
def enumF : List D → R (Bool × List D)
  | [.lst xs] => .ok (true, enD 0 xs)
  | [.tup xs] => .ok (true, enD 0 xs)
  | _ => .bad
theorem enumF_lst {xs : List D} : enumF [.lst xs] = .ok (true, enD 0 xs) := rfl
theorem enumF_tup {xs : List D} : enumF [.tup xs] = .ok (true, enD 0 xs) := rfl
def zipF : List D → R (Bool × List D)
  | [.lst xs, .lst ys] => .ok (true, zipD xs ys)
  | [.tup xs, .tup ys] => .ok (true, zipD xs ys)
  | _ => .bad
def revF : D → R RV
  | .lst ds => .ok (ov (.lst ds.reverse))
  | _ => .bad
theorem zipF_tup {xs ys : List D} : zipF [.tup xs, .tup ys] = .ok (true, zipD xs ys) := rfl
theorem zipF_lst {xs ys : List D} : zipF [.lst xs, .lst ys] = .ok (true, zipD xs ys) := rfl
theorem revF_lst {ds : List D} : revF (.lst ds) = .ok (ov (.lst ds.reverse)) := rfl
def asgNF (i : Nat) (ρ : En) : RV → SR
  | .sv s => .nx (ρ.set i (some s))
  | .vw _ => .bad
def retF (ρ : En) : RV → SR
  | .sv s => .rt (.sv s) ρ
  | .vw _ => .bad
def asgFF (i c' : Nat) (f : Str) (ρ : En) : RV → SR
  | .sv (.fv x) => match ρ[i]? with
    | some (some (.obj sf c fs)) => if c = c' ∧ fs.length < 900 then .nx (ρ.set i (some (.obj sf c (putX f x fs)))) else .bad
    | _ => .bad
  | _ => .bad
def methF (c : Nat) (m : Str) (f : List D → R RV) (as : R (List D)) : RV → R RV
  | .sv (.fv (.d (.ins c' fs))) => if c' = c then (match fs.lookup m with | none => as.bind fun ds => f (.ins c fs :: ds) | some _ => .bad) else .bad
  | _ => .bad
def modeF (b : Bool) (x : RV) : R D := if b then x.rd.bind fun d => (match d with | .lst es => .ok (.lst es) | _ => .bad) else x.toD
def frzF (i : Nat) (ρ : En) : SR := match ρ[i]? with
  | some (some s) => if s.isBrw then .bad else .nx (ρ.set i (some (.d s.dat)))
  | _ => .bad
def retOF (i : Nat) (ρ : En) : SR := match ρ[i]? with
  | some (some s) => if s.isBrw then .bad else .rt (.sv s) (ρ.set i none)
  | _ => .bad
def extF (ρ : En) (p : P .p) (ds : List D) : D → SR
  | .lst es => if ds.length + es.length ≤ sizeLine then .nx (putP ρ (.lst (ds ++ es)) p) else .bad
  | _ => .bad
def augF (i : Nat) (sub : Bool) (ρ : En) (r : R RV) : SR := match ρ[i]? with
  | some (some (.fv (.d (.int m)))) => r.sr ρ fun x => x.toI.gr fun n => .nx (ρ.set i (some (.d (.int (if sub then m - n else m + n)))))
  | _ => .bad
def selfF (i c : Nat) (m : Str) (f : SelfF) (ρ : En) (as : R (List D)) : SR := match ρ[i]? with
  | some (some (.obj sf c' fs)) => if c' = c then (match fs.lookup m with | none => as.sr ρ fun ds => (f fs ds).sr (ρ.set i none) fun r => .nx (ρ.set i (some (.obj sf c r.2))) | some _ => .bad) else .bad
  | _ => .bad
section
variable {ρ : En} {i : Nat}
theorem x_var : ev (.var i) ρ = getV ρ i := rfl
theorem x_c {k : Cn} : ev (.c k) ρ = .ok (dv k.d) := rfl
theorem x_kt {j : Nat} {ds : List D} : ev (.kt j ds) ρ = .ok (dv (.tup ds)) := rfl
theorem x_bin {o : Ci.B2} {a b : P .e} : ev (.bin o a b) ρ = (ev a ρ).bind fun x => (ev b ρ).bind fun y => x.rd.bind fun x => y.rd.bind fun y => o.fn x y := rfl
theorem x_neg {a : P .e} : ev (.neg a) ρ = (ev a ρ).bind fun x => x.toI.bind fun n => .ok (dv (.int (-n))) := rfl
theorem x_andV {a b : P .e} : ev (.andV a b) ρ = (ev a ρ).bind fun x => x.toB.bind fun k => if k then ev b ρ else .ok (dv (.bl false)) := rfl
theorem x_orV {a b : P .e} : ev (.orV a b) ρ = (ev a ρ).bind fun x => x.toB.bind fun k => if k then .ok (dv (.bl true)) else ev b ρ := rfl
theorem x_notV {a : P .e} : ev (.notV a) ρ = (ev a ρ).bind fun x => x.toB.bind fun k => .ok (dv (.bl (!k))) := rfl
theorem x_chain {o o' : Ci.B2} {a b c : P .e} : ev (.chain o o' a b c) ρ = (ev a ρ).bind fun x => (ev b ρ).bind fun y => x.rd.bind fun x => y.rd.bind fun y => (o.fn x y).bind fun z => z.toB.bind fun k => if k then (ev c ρ).bind fun w => w.rd.bind fun w => o'.fn y w else .ok (dv (.bl false)) := rfl
theorem x_chain3 {o o' o2 : Ci.B2} {a b c d : P .e} : ev (.chain3 o o' o2 a b c d) ρ = (ev a ρ).bind fun x => (ev b ρ).bind fun y => x.rd.bind fun x => y.rd.bind fun y => (o.fn x y).bind fun z => z.toB.bind fun k => if k then (ev c ρ).bind fun w => w.rd.bind fun w => (o'.fn y w).bind fun z2 => z2.toB.bind fun k2 => if k2 then (ev d ρ).bind fun u => u.rd.bind fun u => o2.fn w u else .ok (dv (.bl false)) else .ok (dv (.bl false)) := rfl
theorem x_ife {t : P .t} {a b : P .e} : ev (.ife t a b) ρ = (ev t ρ).bind fun k => if k then ev a ρ else ev b ρ := rfl
theorem x_tup {as : P .a} : ev (.tup as) ρ = (ev as ρ).bind fun ds => if ds.length ≤ sizeLine then .ok (dv (.tup ds)) else .bad := rfl
theorem x_lst {as : P .a} : ev (.lst as) ρ = (ev as ρ).bind fun ds => if ds.length ≤ sizeLine then .ok (ov (.lst ds)) else .bad := rfl
theorem x_fld {cs : List Nat} {a : P .e} {f : Str} : ev (.fld cs a f) ρ = (ev a ρ).bind (fldF cs f) := by
  show (ev a ρ).bind _ = (ev a ρ).bind _
  congr 1
theorem x_sl {a : P .e} {lo hi : P .o} : ev (.sl a lo hi) ρ = (ev a ρ).bind fun x => (ev lo ρ).bind fun l => (ev hi ρ).bind fun h => x.rd.bind fun d => slF d l h := rfl
theorem x_cb {o : Cb} {as : P .r} : ev (.cb o as) ρ = (ev as ρ).bind o.fn := rfl
theorem x_isi {a : P .e} {T : String} : ev (.isi a T) ρ = (ev a ρ).bind fun x => x.rd.bind fun d => isiF T d := rfl
theorem x_call {ms : List Bool} {f : List D → R RV} {as : P .m} : ev (.call ms f as) ρ = (ev as ρ).bind f := rfl
theorem x_meth {c : Nat} {m : Str} {ms : List Bool} {f : List D → R RV} {o : P .e} {as : P .m} : ev (.meth c m ms f o as) ρ = (ev o ρ).bind (methF c m f (ev as ρ)) := by
  first
  | rfl
  | (show (ev o ρ).bind _ = _; congr 1; funext x; rcases x with ((x | _ | _ | _) | _ | _) | _ <;> first | rfl | (cases x <;> rfl))
theorem x_make {c : Nat} {ms : List Bool} {f : List D → R (List (Str × FV))} {as : P .m} : ev (.make c ms f as) ρ = (ev as ρ).bind fun ds => (f ds).bind fun fs => .ok (.sv (.obj false c fs)) := rfl
theorem x_lc {it : P .i} {g : P .g} {t : P .t} {e : P .e} {vs : List Nat} : ev (.lc it g t e vs) ρ = (ev it ρ).bind fun xs => if xs.2.length ≤ 1000000 then (lcF (lcS g t e (wipeE ρ vs)) xs.2).bind fun ds => .ok (ov (.lst ds)) else .bad := rfl
def lc2I (g2 : P .g) (e : P .e) (ρ : En) (y : D) : R (List D) := ((ev g2 y ρ).bind fun ρ3 => (ev e ρ3).bind fun v => v.toD.bind fun d => .ok [d]).quiet
def lc2S (g : P .g) (it2 : P .i) (g2 : P .g) (e : P .e) (vs1 : List Nat) (ρ : En) (x : D) : R (List D) := ((ev g x ρ).bind fun ρ2 => (ev it2 ρ2).bind fun ys => if ys.1 = true ∧ ys.2.length ≤ 1000000 then lcA (lc2I g2 e (wipeE ρ2 vs1)) ys.2 else .bad).quiet
def dcS (g : P .g) (t : P .t) (k e : P .e) (ρ : En) (x : D) : R (Option (Key × D)) := ((ev g x ρ).bind fun ρ2 => (ev t ρ2).bind fun b => if b then (ev k ρ2).bind fun y => y.toD.bind fun d => (R.ofO (keyD d)).bind fun q => (ev e ρ2).bind fun z => z.toD.bind fun d2 => .ok (some (q, d2)) else .ok none).quiet
theorem x_dcm {it : P .i} {g : P .g} {t : P .t} {k e : P .e} {vs : List Nat} : ev (.dcm it g t k e vs) ρ = (ev it ρ).bind fun xs => if xs.2.length ≤ 1000000 then (dcF (dcS g t k e (wipeE ρ vs)) xs.2).bind fun kvs => .ok (ov (.dk (mergeD [] kvs))) else .bad := rfl
theorem x_lc2 {it it2 : P .i} {g g2 : P .g} {e : P .e} {vs vs1 : List Nat} : ev (.lc2 it g it2 g2 e vs vs1) ρ = (ev it ρ).bind fun xs => if xs.2.length ≤ 1000000 then (lcA (lc2S g it2 g2 e vs1 (wipeE ρ vs)) xs.2).bind fun ds => if ds.length ≤ 1000000 then .ok (ov (.lst ds)) else .bad else .bad := rfl
def rngVF : RV → R (Bool × List D) := fun x => x.rd.bind fun
    | .rng lo hi => if -(2 ^ 62) ≤ lo ∧ lo < 2 ^ 62 ∧ -(2 ^ 62) ≤ hi ∧ hi < 2 ^ 62 then .ok (true, rng lo (hi - lo).toNat) else .bad
    | _ => .bad
theorem x_rngv {a : P .e} : ev (.rngv a) ρ = (ev a ρ).bind rngVF := rfl
theorem rngVF_dv {lo hi : Int} (h : -1000000 ≤ lo ∧ lo ≤ 1000000 ∧ -1000000 ≤ hi ∧ hi ≤ 1000000) : rngVF (dv (.rng lo hi)) = .ok (true, rng lo (hi - lo).toNat) := by
  show (if _ then _ else _) = _
  rw [if_pos (by have e : (2 : Int) ^ 62 = 4611686018427387904 := by decide
                 rw [e]; omega)]
theorem k_range1 {n : Int} : Cb.fn .range1 [.int n] = .ok (dv (.rng 0 n)) := rfl
theorem x_anil : ev .anil ρ = .ok [] := rfl
theorem x_acons {a : P .e} {as : P .a} : ev (.acons a as) ρ = (ev a ρ).bind fun x => x.toD.bind fun d => (ev as ρ).bind fun ds => .ok (d :: ds) := rfl
theorem x_rnil : ev .rnil ρ = .ok [] := rfl
theorem x_rcons {a : P .e} {as : P .r} : ev (.rcons a as) ρ = (ev a ρ).bind fun x => x.rd.bind fun d => (ev as ρ).bind fun ds => .ok (d :: ds) := rfl
theorem x_mnil : ev .mnil ρ = .ok [] := rfl
theorem x_mcons {b : Bool} {a : P .e} {as : P .m} : ev (.mcons b a as) ρ = (ev a ρ).bind fun x => (modeF b x).bind fun d => (ev as ρ).bind fun ds => .ok (d :: ds) := rfl
theorem x_tst {a : P .e} : ev (.tst a) ρ = (ev a ρ).bind RV.toB := rfl
theorem x_tru {a : P .e} : ev (.tru a) ρ = (ev a ρ).bind fun x => x.rd.bind truD := rfl
theorem x_andT {a b : P .t} : ev (.andT a b) ρ = (ev a ρ).bind fun k => if k then ev b ρ else .ok false := rfl
theorem x_orT {a b : P .t} : ev (.orT a b) ρ = (ev a ρ).bind fun k => if k then .ok true else ev b ρ := rfl
theorem x_notT {a : P .t} : ev (.notT a) ρ = (ev a ρ).bind fun k => .ok (!k) := rfl
theorem x_yes : ev .yes ρ = .ok true := rfl
theorem x_noP : ev .noP ρ = .ok none := rfl
theorem x_someP {a : P .e} : ev (.someP a) ρ = (ev a ρ).bind fun x => x.toI.bind fun n => .ok (some n) := rfl
theorem x_seq {a : P .e} : ev (.seq a) ρ = (ev a ρ).bind seqI := by
  show (ev a ρ).bind _ = (ev a ρ).bind _
  congr 1
theorem x_rng1 {as : P .a} : ev (.rng1 as) ρ = (ev as ρ).bind rng1F := by
  first
  | rfl
  | (show (ev as ρ).bind _ = _; congr 1; funext x; rcases x with _ | ⟨a, _ | ⟨b, c⟩⟩ <;> first | rfl | (cases a <;> rfl))
theorem x_rng2 {as : P .a} : ev (.rng2 as) ρ = (ev as ρ).bind rng2F := by
  first
  | rfl
  | (show (ev as ρ).bind _ = _; congr 1; funext x; rcases x with _ | ⟨a, _ | ⟨b, _ | ⟨c, d⟩⟩⟩ <;> first | rfl | (cases a <;> first | rfl | (cases b <;> rfl)))
theorem x_rng3 {as : P .a} : ev (.rng3 as) ρ = (ev as ρ).bind rng3F := by
  show (ev as ρ).bind _ = (ev as ρ).bind _
  congr 1
theorem x_enum {as : P .a} : ev (.enum as) ρ = (ev as ρ).bind enumF := by
  show (ev as ρ).bind _ = (ev as ρ).bind _
  congr 1
theorem x_augI {p : P .p} {ix : P .e} {sub : Bool} {a : P .e} : ev (.augI p ix sub a) ρ = (getL ρ p).gr fun ds => (ev ix ρ).sr ρ fun y => y.toI.gr fun n => (getI ds n).gr fun v => (ev a ρ).sr ρ fun z => z.toI.gr fun m => .nx (putP ρ (.lst (ds.set n.toNat (.int (if sub then v - m else v + m)))) p) := rfl
theorem x_zip {as : P .a} : ev (.zip as) ρ = (ev as ρ).bind zipF := by
  show (ev as ρ).bind _ = (ev as ρ).bind _
  congr 1
theorem x_rev {a : P .e} : ev (.rev a) ρ = (ev a ρ).bind fun x => x.rd.bind revF := by
  show (ev a ρ).bind _ = (ev a ρ).bind _
  congr 1
theorem x_gname {x : D} : ev (.gname i) x ρ = .ok (ρ.set i (some (.d x))) := rfl
theorem x_gtl {n : Nat} {gs : P .gs} {ds : List D} : ev (.gtl n gs) (.lst ds) ρ = if ds.length = n then ev gs ds ρ else .bad := rfl
theorem x_gtup {n : Nat} {gs : P .gs} {ds : List D} : ev (.gtup n gs) (.tup ds) ρ = if ds.length = n then ev gs ds ρ else .bad := rfl
theorem x_gnil : ev .gnil [] ρ = .ok ρ := rfl
theorem x_gcons {g : P .g} {gs : P .gs} {x : D} {r : List D} : ev (.gcons g gs) (x :: r) ρ = (ev g x ρ).bind fun ρ' => ev gs r ρ' := rfl
theorem x_skip : ev .skip ρ = .nx ρ := rfl
theorem x_sq {a b : P .s} : ev (.sq a b) ρ = sqF (ev a ρ) (ev b) := by
  first
  | rfl
  | (show (match ev a ρ with | .nx ρ' => ev b ρ' | o => o) = _; cases ev a ρ <;> rfl)
theorem x_asgN {a : P .e} : ev (.asgN i a) ρ = (ev a ρ).sr ρ (asgNF i ρ) := by
  first
  | rfl
  | (show (ev a ρ).sr ρ _ = _; congr 1; funext x; cases x <;> rfl)
theorem x_asgG {g : P .g} {a : P .e} : ev (.asgG g a) ρ = (ev a ρ).sr ρ fun x => x.toD.gr fun d => (ev g d ρ).gr .nx := rfl
theorem x_asgF {c : Nat} {f : Str} {a : P .e} : ev (.asgF i c f a) ρ = (ev a ρ).sr ρ (asgFF i c f ρ) := by
  first
  | rfl
  | (show (ev a ρ).sr ρ _ = _; congr 1; funext x; rcases x with (x | _ | _) | _ <;> rfl)
theorem x_asgI {p : P .p} {ix a : P .e} : ev (.asgI p ix a) ρ = (ev a ρ).sr ρ fun x => x.toD.gr fun d => (getL ρ p).gr fun ds => (ev ix ρ).sr ρ fun y => y.toI.gr fun n => (R.ofO (ixN ds.length n)).gr fun j => .nx (putP ρ (.lst (ds.set j d)) p) := rfl
theorem x_mut {o : Mo} {p : P .p} {as : P .a} : ev (.mut o p as) ρ = (getL ρ p).gr fun xs => (ev as ρ).sr ρ fun ds => (o.fn xs ds).gr fun ys => .nx (putP ρ (.lst ys) p) := rfl
theorem x_ext {p : P .p} {a : P .e} : ev (.ext p a) ρ = (getL ρ p).gr fun ds => (ev a ρ).sr ρ fun y => y.rd.gr (extF ρ p ds) := by
  first
  | rfl
  | (show (getL ρ p).gr _ = _; congr 1; funext ds; congr 1; funext y; congr 1; funext d; cases d <;> rfl)
theorem x_lrg {a : P .e} : ev (.lrg a) ρ = (ev a ρ).bind fun x => x.toI.bind lrgF := rfl
theorem x_nix {i : Nat} {k : Bool} : ev (.nix i k) ρ = (getN k ρ[i]?).bind fun ds => .ok (.vw (.lst ds)) := rfl
theorem x_nset {i : Nat} {a b : P .e} : ev (.nset i a b) ρ = (ev a ρ).sr ρ fun x => x.toL.gr fun xs => (ev b ρ).sr ρ fun y => y.toL.gr fun ys => .nx (ρ.set i (some (.nst xs ys))) := rfl
theorem getN_f {xs ys : List D} : getN false (some (some (.nst xs ys))) = .ok xs := rfl
theorem getN_t {xs ys : List D} : getN true (some (some (.nst xs ys))) = .ok ys := rfl
theorem putN_f {xs ys ds : List D} : putN ds false (some (some (.nst xs ys))) = some (.nst ds ys) := rfl
theorem putN_t {xs ys ds : List D} : putN ds true (some (some (.nst xs ys))) = some (.nst xs ds) := rfl
theorem toL_ov {ds : List D} : RV.toL (ov (.lst ds)) = .ok ds := rfl
theorem x_popD {p : P .p} : ev (.popD p) ρ = (getL ρ p).gr fun ds => if ds.isEmpty then .bad else .nx (putP ρ (.lst ds.dropLast) p) := rfl
theorem x_popG {g : P .g} {p : P .p} : ev (.popG g p) ρ = (getL ρ p).gr fun ds => (R.ofO ds.getLast?).gr fun d => (ev g d (putP ρ (.lst ds.dropLast) p)).gr .nx := rfl
theorem x_aug {sub : Bool} {a : P .e} : ev (.aug i sub a) ρ = augF i sub ρ (ev a ρ) := rfl
theorem x_drop {a : P .e} : ev (.drop a) ρ = (ev a ρ).sr ρ fun _ => .nx ρ := rfl
theorem x_ret {a : P .e} : ev (.ret a) ρ = (ev a ρ).sr ρ (retF ρ) := by
  first
  | rfl
  | (show (ev a ρ).sr ρ _ = _; congr 1; funext x; cases x <;> rfl)
theorem x_retO : ev (.retO i) ρ = retOF i ρ := rfl
theorem x_retN : ev .retN ρ = .rt (dv .non) ρ := rfl
theorem x_brk : ev .brk ρ = .bk ρ := rfl
theorem x_cont : ev .cont ρ = .ct ρ := rfl
theorem x_raise {x : Nat} : ev (.raise x) ρ = .err x none ρ := rfl
theorem x_ifS {t : P .t} {a b : P .s} : ev (.ifS t a b) ρ = (ev t ρ).sr ρ fun k => if k then ev a ρ else ev b ρ := rfl
theorem x_for {it : P .i} {g : P .g} {b : P .s} {kill : List Nat} : ev (.for it g b kill) ρ = (ev it ρ).sr ρ fun xs => if xs.1 then forF (forS g b) kill xs.2 ρ else .bad := rfl
theorem x_while {n : Nat} {t : P .t} {b : P .s} {kill : List Nat} : ev (.while n t b kill) ρ = whF (ev t) (ev b) kill n ρ := rfl
theorem x_try {c : Nat} {subs : List Nat} {b h : P .s} : ev (.try c subs b h) ρ = tryF subs (ev b ρ) (ev h) := by
  first
  | rfl
  | (show (match ev b ρ with | .err x f ρ' => if x ∈ subs then ev h ρ' else .bad | o => o) = _; cases ev b ρ <;> rfl)
theorem x_try2 {c c2 : Nat} {b h h2 : P .s} : ev (.try2 c c2 b h h2) ρ = tryF2 c c2 (ev b ρ) (ev h) (ev h2) := by
  first
  | rfl
  | (show (match ev b ρ with | .err x f ρ' => if x = c then ev h ρ' else if x = c2 then ev h2 ρ' else .bad | o => o) = _; cases ev b ρ <;> rfl)
theorem x_try3 {c c2 c3 : Nat} {b h h2 h3 : P .s} : ev (.try3 c c2 c3 b h h2 h3) ρ = tryF3 c c2 c3 (ev b ρ) (ev h) (ev h2) (ev h3) := by
  first
  | rfl
  | (show (match ev b ρ with | .err x f ρ' => if x = c then ev h ρ' else if x = c2 then ev h2 ρ' else if x = c3 then ev h3 ρ' else .bad | o => o) = _; cases ev b ρ <;> rfl)
theorem x_frz : ev (.frz i) ρ = frzF i ρ := rfl
theorem x_kill {is : List Nat} : ev (.kill is) ρ = .nx (wipeE ρ is) := rfl
theorem x_own {t : Gm → XE2 → TS} {f : En → SR} : ev (.own t f) ρ = f ρ := rfl
theorem x_ownE {t : Gm → XE2 → TE} {f : En → R RV} : ev (.ownE t f) ρ = f ρ := rfl
theorem x_selfS {c : Nat} {m : Str} {ms : List Bool} {f : SelfF} {as : P .m} : ev (.selfS i c m ms f as) ρ = selfF i c m f ρ (ev as ρ) := rfl
/-! texts, functions as values, exceptions with an attribute -/
def tryAF (i : Nat) (c : List Nat) (r : SR) (k : Nat → Option (Str × D) → En → SR) : SR := match r with
  | .err x f ρ' => if x ∈ c ∧ i < ρ'.length then onlyRt (k x f (ρ'.set i none)) else .bad
  | o => o
theorem x_tm {o : Tm} {a e : P .e} : ev (.tm o a e) ρ = (ev a ρ).bind fun x => x.rd.bind fun d => (asStr d).bind fun s => (ev e ρ).bind fun y => y.rd.bind fun b => o.fn s b := rfl
theorem x_fn {j : Nat} : ev (.fn j) ρ = .ok (dv (.fnc j)) := rfl
theorem x_callv {j : Nat} {ms : List Bool} {f : List D → R RV} {as : P .m} : ev (.callv i j ms f as) ρ = if isFn j ρ[i]? = true then (ev as ρ).bind f else .bad := rfl
theorem isFn_d {j k : Nat} : isFn j (some (some (.d (.fnc k)))) = (k == j) := rfl
theorem x_fmt {a : P .e} : ev (.fmt a) ρ = (ev a ρ).bind fun x => x.rd.bind fmtF := rfl
theorem x_fstr {as : P .f} : ev (.fstr as) ρ = (ev as Str.empty ρ).bind fun s => .ok (dv (.str s)) := rfl
theorem x_fnil {acc : Str} : ev .fnil acc ρ = .ok acc := rfl
def fcF (as : P .f) (acc : Str) (ρ : En) (s : Str) : R Str := if (acc ++ s).length ≤ sizeLine then ev as (acc ++ s) ρ else .bad
theorem x_fcons {a : P .e} {as : P .f} {acc : Str} : ev (.fcons a as) acc ρ = (ev a ρ).bind fun x => x.rd.bind fun d => (asStr d).bind (fcF as acc ρ) := rfl
theorem fcF_if {as : P .f} {acc s : Str} : fcF as acc ρ s = if (acc ++ s).length ≤ sizeLine then ev as (acc ++ s) ρ else .bad := rfl
theorem x_zipR {as : P .a} : ev (.zipR as) ρ = (ev as ρ).bind zipRF := rfl
theorem zipR_ok {ys : List D} {n : Int} (h0 : -1000000 ≤ n) (h1 : n ≤ 1000000) (h : n.toNat ≤ ys.length) : zipRF [.rng 0 n, .lst ys] = .ok (true, zipD (rng 0 n.toNat) ys) := by
  have e : (2 : Int) ^ 62 = 4611686018427387904 := by decide
  have e2 : (n - 0).toNat = n.toNat := by rw [Int.sub_zero]
  show (if _ then _ else _) = _
  rw [if_pos (by rw [e, e2]; omega), e2]
theorem x_enumK {as ks : P .a} : ev (.enumK as ks) ρ = (ev as ρ).bind fun xs => (ev ks ρ).bind fun ks => enumKF xs ks := rfl
theorem enumK_ok {xs : List D} {k : Int} (h : -1000000 ≤ k ∧ k ≤ 1000000) : enumKF [.lst xs] [.int k] = .ok (true, enD k xs) := if_pos (by
  have e : (2 : Int) ^ 62 = 4611686018427387904 := by decide
  rw [e]; omega)
theorem x_raiseF {x : Nat} {f : Str} {a : P .e} : ev (.raiseF x f a) ρ = (ev a ρ).sr ρ fun v => v.toD.gr fun d => .err x (some (f, d)) ρ := rfl
theorem x_tryA {c : Nat} {subs : List Nat} {b : P .s} {h : P .h} : ev (.tryA c i subs b h) ρ = tryAF i subs (ev b ρ) (ev h) := by
  first
  | rfl
  | (show (match ev b ρ with | .err x f ρ' => if x ∈ subs ∧ i < ρ'.length then onlyRt (ev h x f (ρ'.set i none)) else .bad | o => o) = _; cases ev b ρ <;> rfl)
theorem tryA_err {c : List Nat} {k : Nat → Option (Str × D) → En → SR} {x : Nat} {f : Option (Str × D)} : tryAF i c (.err x f ρ) k = if x ∈ c ∧ i < ρ.length then onlyRt (k x f (ρ.set i none)) else .bad := rfl
theorem tryA_nx {c : List Nat} {k : Nat → Option (Str × D) → En → SR} : tryAF i c (.nx ρ) k = .nx ρ := rfl
theorem tryA_rt {c : List Nat} {k : Nat → Option (Str × D) → En → SR} {v : RV} : tryAF i c (.rt v ρ) k = .rt v ρ := rfl
theorem only_rt {v : RV} : onlyRt (.rt v ρ) = .rt v ρ := rfl
theorem only_ite {c : Prop} [Decidable c] {a b : SR} : onlyRt (if c then a else b) = if c then onlyRt a else onlyRt b := by split <;> rfl
theorem tryA_ite {c : List Nat} {k : Nat → Option (Str × D) → En → SR} {p : Prop} [Decidable p] {a b : SR} : tryAF i c (if p then a else b) k = if p then tryAF i c a k else tryAF i c b k := by split <;> rfl
section
variable {x : Nat} {fo : Option (Str × D)}
theorem x_xe {a : P .e} : ev (.xe a) x fo ρ = ev a ρ := rfl
theorem x_xf {y : Nat} {f : Str} : ev (.xf y f) x fo ρ = xfF y f x fo := rfl
theorem xf_ok {y : Nat} {f g : Str} {d : D} : xfF y f x (some (g, d)) = if x = y ∧ g = f then .ok (dv d) else .bad := rfl
theorem x_xi {y : Nat} {ys : List (Nat × Bool)} : ev (.xi y ys) x fo ρ = (isX ys x).bind fun b => .ok (dv (.bl b)) := rfl
theorem x_xtup {as : P .xs} : ev (.xtup as) x fo ρ = (ev as x fo ρ).bind fun ds => if ds.length ≤ sizeLine then .ok (dv (.tup ds)) else .bad := rfl
theorem x_xand {a b : P .x} : ev (.xand a b) x fo ρ = (ev a x fo ρ).bind fun v => v.toB.bind fun k => if k then ev b x fo ρ else .ok (dv (.bl false)) := rfl
theorem x_xnil : ev .xnil x fo ρ = .ok [] := rfl
theorem x_xcons {a : P .x} {as : P .xs} : ev (.xcons a as) x fo ρ = (ev a x fo ρ).bind fun v => v.toD.bind fun d => (ev as x fo ρ).bind fun ds => .ok (d :: ds) := rfl
theorem x_hret {a : P .x} : ev (.hret a) x fo ρ = (ev a x fo ρ).sr ρ (retF ρ) := by
  show (ev a x fo ρ).sr ρ _ = (ev a x fo ρ).sr ρ _
  congr 1
theorem x_hif {y : Nat} {ys : List (Nat × Bool)} {a b : P .h} : ev (.hif y ys a b) x fo ρ = (isX ys x).sr ρ fun k => if k then onlyRt (ev a x fo ρ) else ev b x fo ρ := rfl
theorem x_hifx {t : P .x} {a b : P .h} : ev (.hifx t a b) x fo ρ = (ev t x fo ρ).sr ρ fun v => v.toB.gr fun k => if k then onlyRt (ev a x fo ρ) else ev b x fo ρ := rfl
theorem x_xcall {ms : List Bool} {f : List D → R RV} {as : P .xs} : ev (.xcall ms f as) x fo ρ = (ev as x fo ρ).bind fun ds => noErr (f ds) := rfl
theorem x_xife {y : Nat} {ys : List (Nat × Bool)} {a b : P .x} : ev (.xife y ys a b) x fo ρ = (isX ys x).bind fun k => if k then ev a x fo ρ else ev b x fo ρ := rfl
theorem x_xbin {o : Ci.B2} {a b : P .x} : ev (.xbin o a b) x fo ρ = (ev a x fo ρ).bind fun u => (ev b x fo ρ).bind fun v => u.rd.bind fun u => v.rd.bind fun v => o.fn u v := rfl
theorem noErr_okE {v : RV} : noErr (.ok v) = .ok v := rfl
theorem isX_eq {ys : List (Nat × Bool)} : isX ys x = R.ofO (ys.lookup x) := rfl
end
theorem asStr_str {s : Str} : asStr (.str s) = .ok s := rfl
theorem fmt_int {n : Int} (h : n.natAbs.log2 < 1920) : fmtF (.int n) = .ok (dv (.str (strI n))) := if_pos h
theorem fmt_str {s : Str} (h : s.length ≤ sizeLine) : fmtF (.str s) = .ok (dv (.str s)) := if_pos h
theorem tm_split {a b : Str} (h : (b.length == 0) = false ∧ a.length + 2 ≤ sizeLine) : Tm.fn .split a (.str b) = .ok (ov (.lst ((Txt.split a b).map D.str))) := if_pos h
theorem tm_joinL {a : Str} {ys : List Str} (h : (ys.map (fun x => x.length)).sum + ys.length * a.length ≤ 16777216) : Tm.fn .join a (.lst (ys.map D.str)) = .ok (dv (.str (Txt.join a ys))) := by
  show (R.ofO (strsOf _)).bind _ = _
  rw [strsOf_map]
  exact if_pos h
theorem tm_starts {a b : Str} : Tm.fn .starts a (.str b) = .ok (dv (.bl (Txt.startswith a b))) := rfl
theorem seq_s {s : Str} : seqI (dv (.str s)) = .ok (true, chD s) := rfl
/-! values -/
theorem rd_dv {x : D} : (dv x).rd = .ok x := rfl
theorem rd_ov {ds : List D} : (ov (.lst ds)).rd = .ok (.lst ds) := rfl
theorem rd_vw {x : FV} : (RV.vw x).rd = .ok x.dat := rfl
theorem dat_d {x : D} : (FV.d x).dat = x := rfl
theorem dat_lst {ds : List D} : (FV.lst ds).dat = .lst ds := rfl
theorem sdat_fv {x : FV} : (SV.fv x).dat = x.dat := rfl
theorem sdat_obj {sf : Bool} {c : Nat} {fs : List (Str × FV)} : (SV.obj sf c fs).dat = .ins c (fsD fs) := rfl
theorem toD_sv {s : SV} : (RV.sv s).toD = .ok s.dat := rfl
theorem toB_dv {b : Bool} : (dv (.bl b)).toB = .ok b := rfl
theorem toI_dv {n : Int} : (dv (.int n)).toI = .ok n := rfl
theorem mode_f {x : RV} : modeF false x = x.toD := rfl
theorem mode_t {ds : List D} : modeF true (dv (.lst ds)) = .ok (.lst ds) := rfl
theorem mode_o {ds : List D} : modeF true (ov (.lst ds)) = .ok (.lst ds) := rfl
theorem mode_v {ds : List D} : modeF true (.vw (.lst ds)) = .ok (.lst ds) := rfl
theorem cd_int {n : Int} : (Cn.int n).d = .int n := rfl
theorem cd_str {s : String} : (Cn.str s).d = .str s := rfl
theorem cd_bl {b : Bool} : (Cn.bl b).d = .bl b := rfl
theorem cd_non : Cn.non.d = .non := rfl
theorem seq_d {ds : List D} : seqI (dv (.lst ds)) = .ok (true, ds) := rfl
theorem seq_t {ds : List D} : seqI (dv (.tup ds)) = .ok (true, ds) := rfl
theorem seq_o {ds : List D} : seqI (ov (.lst ds)) = .ok (true, ds) := rfl
theorem seq_v {ds : List D} : seqI (.vw (.lst ds)) = .ok (false, ds) := rfl
theorem asgNF_sv {s : SV} : asgNF i ρ (.sv s) = .nx (ρ.set i (some s)) := rfl
theorem retF_sv {s : SV} : retF ρ (.sv s) = .rt (.sv s) ρ := rfl
theorem rng1_int {n : Int} (h : -(2 ^ 62) ≤ n ∧ n < 2 ^ 62) : rng1F [.int n] = .ok (true, rng 0 n.toNat) := if_pos h
theorem rng2_int {m n : Int} (h : -(2 ^ 62) ≤ m ∧ m < 2 ^ 62 ∧ -(2 ^ 62) ≤ n ∧ n < 2 ^ 62) : rng2F [.int m, .int n] = .ok (true, rng m (n - m).toNat) := if_pos h
/-! combinators -/
theorem sq_nx {k : En → SR} : sqF (.nx ρ) k = k ρ := rfl
theorem sq_rt {k : En → SR} {v : RV} : sqF (.rt v ρ) k = .rt v ρ := rfl
theorem sq_err {k : En → SR} {x : Nat} {f : Option (Str × D)} : sqF (.err x f ρ) k = .err x f ρ := rfl
theorem sq_bk {k : En → SR} : sqF (.bk ρ) k = .bk ρ := rfl
theorem sq_ct {k : En → SR} : sqF (.ct ρ) k = .ct ρ := rfl
theorem sq_ite {k : En → SR} {c : Prop} [Decidable c] {a b : SR} : sqF (if c then a else b) k = if c then sqF a k else sqF b k := by split <;> rfl
theorem bind_ite {α β : Type} {c : Prop} [Decidable c] {a b : R α} {k : α → R β} : (if c then a else b).bind k = if c then a.bind k else b.bind k := by split <;> rfl
theorem sr_ite {α : Type} {c : Prop} [Decidable c] {a b : R α} {k : α → SR} : (if c then a else b).sr ρ k = if c then a.sr ρ k else b.sr ρ k := by split <;> rfl
theorem gr_ite {α : Type} {c : Prop} [Decidable c] {a b : R α} {k : α → SR} : (if c then a else b).gr k = if c then a.gr k else b.gr k := by split <;> rfl
theorem try_err {c : List Nat} {k : En → SR} {x : Nat} {f : Option (Str × D)} : tryF c (.err x f ρ) k = if x ∈ c then k ρ else .bad := rfl
theorem try3_err {c c2 c3 : Nat} {k k2 k3 : En → SR} {x : Nat} {f : Option (Str × D)} : tryF3 c c2 c3 (.err x f ρ) k k2 k3 = if x = c then k ρ else if x = c2 then k2 ρ else if x = c3 then k3 ρ else .bad := rfl
theorem try3_nx {c c2 c3 : Nat} {k k2 k3 : En → SR} : tryF3 c c2 c3 (.nx ρ) k k2 k3 = .nx ρ := rfl
theorem try3_rt {c c2 c3 : Nat} {k k2 k3 : En → SR} {v : RV} : tryF3 c c2 c3 (.rt v ρ) k k2 k3 = .rt v ρ := rfl
theorem try2_err {c c2 : Nat} {k k2 : En → SR} {x : Nat} {f : Option (Str × D)} : tryF2 c c2 (.err x f ρ) k k2 = if x = c then k ρ else if x = c2 then k2 ρ else .bad := rfl
theorem try2_nx {c c2 : Nat} {k k2 : En → SR} : tryF2 c c2 (.nx ρ) k k2 = .nx ρ := rfl
theorem try2_rt {c c2 : Nat} {k k2 : En → SR} {v : RV} : tryF2 c c2 (.rt v ρ) k k2 = .rt v ρ := rfl
theorem try_nx {c : List Nat} {k : En → SR} : tryF c (.nx ρ) k = .nx ρ := rfl
theorem try_rt {c : List Nat} {k : En → SR} {v : RV} : tryF c (.rt v ρ) k = .rt v ρ := rfl
theorem toR_nx : (SR.nx ρ).toR = .ok (dv .non) := rfl
theorem toR_rt {v : RV} : (SR.rt v ρ).toR = .ok v := rfl
theorem toR_err {x : Nat} {f : Option (Str × D)} : (SR.err x f ρ).toR = .err x f := rfl
theorem toR_ite {c : Prop} [Decidable c] {a b : SR} : (if c then a else b).toR = if c then a.toR else b.toR := by split <;> rfl
/-! operations -/
theorem o_add {m n : Int} : B2.fn .add (.int m) (.int n) = .ok (dv (.int (m + n))) := rfl
theorem o_addS {s t : Str} (h : s.length + t.length ≤ sizeLine) : B2.fn .add (.str s) (.str t) = .ok (dv (.str (s ++ t))) := if_pos h
theorem o_addL {s t : List D} (h : s.length + t.length ≤ sizeLine) : B2.fn .add (.lst s) (.lst t) = .ok (ov (.lst (s ++ t))) := if_pos h
theorem o_sub {m n : Int} : B2.fn .sub (.int m) (.int n) = .ok (dv (.int (m - n))) := rfl
theorem o_mul {m n : Int} (h : MulOk m n) : B2.fn .mul (.int m) (.int n) = .ok (dv (.int (m * n))) := if_pos h
theorem o_div {m n : Int} (h : CDivW m n) : B2.fn .div (.int m) (.int n) = .ok (dv (.int (m / n))) := if_pos h
theorem o_mod {m n : Int} (h : 0 < n) : B2.fn .mod (.int m) (.int n) = .ok (dv (.int (m % n))) := if_pos h
theorem o_pow {m n : Int} (h : CPow m n) : B2.fn .pow (.int m) (.int n) = .ok (dv (.int (m ^ n.toNat))) := if_pos h
theorem o_lt {m n : Int} : B2.fn .lt (.int m) (.int n) = .ok (dv (.bl (decide (m < n)))) := rfl
theorem o_le {m n : Int} : B2.fn .le (.int m) (.int n) = .ok (dv (.bl (decide (m ≤ n)))) := rfl
theorem o_gt {m n : Int} : B2.fn .gt (.int m) (.int n) = .ok (dv (.bl (decide (n < m)))) := rfl
theorem o_ge {m n : Int} : B2.fn .ge (.int m) (.int n) = .ok (dv (.bl (decide (n ≤ m)))) := rfl
theorem o_eqI {m n : Int} : B2.fn .eq (.int m) (.int n) = .ok (dv (.bl (decide (m = n)))) := rfl
theorem o_neI {m n : Int} : B2.fn .ne (.int m) (.int n) = .ok (dv (.bl (!decide (m = n)))) := rfl
theorem o_shr {m n : Int} (h : 0 ≤ n) : B2.fn .shr (.int m) (.int n) = .ok (dv (.int (m / 2 ^ n.toNat))) := if_pos h
theorem o_band {m n : Int} : B2.fn .band (.int m) (.int n) = .ok (dv (.int (Builtin.bitAnd m n))) := rfl
theorem o_eqS {m n : Str} : B2.fn .eq (.str m) (.str n) = .ok (dv (.bl (decide (m = n)))) := rfl
theorem o_neS {m n : Str} : B2.fn .ne (.str m) (.str n) = .ok (dv (.bl (!decide (m = n)))) := rfl
theorem o_eqB {m n : Bool} : B2.fn .eq (.bl m) (.bl n) = .ok (dv (.bl (m == n))) := rfl
theorem o_neB {m n : Bool} : B2.fn .ne (.bl m) (.bl n) = .ok (dv (.bl (!(m == n)))) := rfl
theorem o_eq {x y : D} (h1 : eqOk x = true) (h2 : eqOk y = true) : B2.fn .eq x y = .ok (dv (.bl (eqv x y))) := by show eqF false x y = _; unfold eqF; rw [h1, h2]; rfl
theorem o_ne {x y : D} (h1 : eqOk x = true) (h2 : eqOk y = true) : B2.fn .ne x y = .ok (dv (.bl (!eqv x y))) := by show eqF true x y = _; unfold eqF; rw [h1, h2]; rfl
theorem o_is {x : D} : B2.fn .is x .non = .ok (dv (.bl x.isNon)) := by cases x <;> rfl
theorem o_isb {a b : Bool} : B2.fn .isb (.bl a) (.bl b) = .ok (dv (.bl (decide (a = b)))) := rfl
theorem o_notb {a b : Bool} : B2.fn .notb (.bl a) (.bl b) = .ok (dv (.bl (!decide (a = b)))) := rfl
theorem o_isnot {x : D} : B2.fn .isnot x .non = .ok (dv (.bl (!x.isNon))) := by cases x <;> rfl
theorem o_ixL {ds : List D} {n : Int} {d : D} (h : L2.atI ds n = some d) : B2.fn .ix (.lst ds) (.int n) = .ok (dv d) := by simp only [B2.fn, ixF, h]; rfl
theorem o_ixT {ds : List D} {n : Int} {d : D} (h : L2.atI ds n = some d) : B2.fn .ix (.tup ds) (.int n) = .ok (dv d) := by simp only [B2.fn, ixF, h]; rfl
theorem o_ixS {ns : List Int} {n d : Int} (h : L2.atI ns n = some d) : B2.fn .ix (.scr ns) (.int n) = .ok (dv (.int d)) := by simp only [B2.fn, ixF, h]; rfl
theorem at_nat {α : Type} {xs : List α} {j : Nat} (h : j < xs.length) : L2.atI xs (j : Int) = xs[j]? := by
  unfold L2.atI ixN
  rw [if_pos (by omega), if_pos (by omega)]
  show xs[(j : Int).toNat]? = _
  rw [Int.toNat_natCast]
theorem at_int {α : Type} {xs : List α} {n : Int} (h0 : 0 ≤ n) (h : n < xs.length) : L2.atI xs n = xs[n.toNat]? := by
  unfold L2.atI ixN
  rw [if_pos h0, if_pos h]
  rfl
theorem at_neg {α : Type} {xs : List α} {n : Int} (h0 : n < 0) (h : -(xs.length : Int) ≤ n) : L2.atI xs n = xs[(n + xs.length).toNat]? := by
  unfold L2.atI ixN
  rw [if_neg (by omega), if_pos h]
  rfl
/-! built-in calls -/
theorem k_lenL {ds : List D} : Cb.fn .len [.lst ds] = .ok (dv (.int ds.length)) := rfl
theorem k_lenT {ds : List D} : Cb.fn .len [.tup ds] = .ok (dv (.int ds.length)) := rfl
theorem k_lenS {ns : List Int} : Cb.fn .len [.scr ns] = .ok (dv (.int ns.length)) := rfl
theorem k_abs {n : Int} : Cb.fn .abs [.int n] = .ok (dv (.int (if n < 0 then -n else n))) := rfl
theorem k_int {n : Int} : Cb.fn .int [.int n] = .ok (dv (.int n)) := rfl
theorem k_intB {b : Bool} : Cb.fn .int [.bl b] = .ok (dv (.int (if b then 1 else 0))) := rfl
theorem k_str {n : Int} (h : n.natAbs.log2 < 1920) : Cb.fn .str [.int n] = .ok (dv (.str (strI n))) := if_pos h
theorem k_listL {ds : List D} : Cb.fn .list [.lst ds] = .ok (ov (.lst ds)) := rfl
theorem k_listT {ds : List D} : Cb.fn .list [.tup ds] = .ok (ov (.lst ds)) := rfl
theorem k_tupL {ds : List D} : Cb.fn .tuple [.lst ds] = .ok (dv (.tup ds)) := rfl
theorem k_tupT {ds : List D} : Cb.fn .tuple [.tup ds] = .ok (dv (.tup ds)) := rfl
theorem k_lenset {ns : List Int} (h : ns.length ≤ 4000) : Cb.fn .lenset [.lst (ns.map D.int)] = .ok (dv (.int (nubN ns : Nat))) := by show (R.ofO (intsOf _)).bind _ = _; rw [intsOf_map]; exact if_pos h
theorem k_lzip {xs ys : List D} (h : xs.length = ys.length ∧ xs.length ≤ sizeLine) : Cb.fn .lzip [.lst xs, .lst ys] = .ok (ov (.lst (zipD xs ys))) := if_pos h
theorem k_sum {ns : List Int} : Cb.fn .sum [.lst (ns.map D.int)] = .ok (dv (.int ns.sum)) := by show (R.ofO (intsOf _)).bind _ = _; rw [intsOf_map]; rfl
theorem k_all {ns : List Bool} : Cb.fn .all [.lst (ns.map D.bl)] = .ok (dv (.bl (ns.all id))) := by show (R.ofO (blsOf _)).bind _ = _; rw [blsOf_map]; rfl
theorem k_any {ns : List Bool} : Cb.fn .any [.lst (ns.map D.bl)] = .ok (dv (.bl (ns.any id))) := by show (R.ofO (blsOf _)).bind _ = _; rw [blsOf_map]; rfl
theorem k_max2 {m n : Int} : Cb.fn .max2 [.int m, .int n] = .ok (dv (.int (max m n))) := rfl
theorem k_min2 {m n : Int} : Cb.fn .min2 [.int m, .int n] = .ok (dv (.int (min m n))) := rfl
theorem k_maxL {n : Int} {ns : List Int} : Cb.fn .maxA [.lst ((n :: ns).map D.int)] = .ok (dv (.int (maxL n ns))) := by show (R.ofO (intsOf _)).bind _ = _; rw [intsOf_map]; rfl
theorem k_minL {n : Int} {ns : List Int} : Cb.fn .minA [.lst ((n :: ns).map D.int)] = .ok (dv (.int (minL n ns))) := by show (R.ofO (intsOf _)).bind _ = _; rw [intsOf_map]; rfl
theorem m_append {ds : List D} {d : D} (h : ds.length < sizeLine) : Mo.fn .append ds [d] = .ok (ds ++ [d]) := if_pos h
theorem m_insert {ds : List D} {d : D} {i : Int} (h : ds.length < sizeLine ∧ 0 ≤ i ∧ i < 2 ^ 63) : Mo.fn .insert ds [.int i, d] = .ok (ds.take i.toNat ++ [d] ++ ds.drop i.toNat) := if_pos h
theorem small {n : Nat} (h : n ≤ 1000000) : n ≤ sizeLine := Nat.le_trans h (by decide)
theorem small' {n : Nat} (h : n ≤ 1000000) : n < sizeLine := Nat.lt_of_le_of_lt h (by decide)
/-! ### loops -/
theorem forF_cons {step : D → En → SR} {kill : List Nat} {x : D} {r : List D} : forF step kill (x :: r) ρ = (match step x ρ with
    | .nx ρ' => forF step kill r (wipeE ρ' kill)
    | .ct ρ' => forF step kill r (wipeE ρ' kill)
    | .bk ρ' => .nx (wipeE ρ' kill)
    | o => o) := rfl
/-- a comprehension without a test -/
theorem lc_map {α : Type} {g : P .g} {t : P .t} {e : P .e} (enc f : α → D) : ∀ {xs : List α}, (∀ a, a ∈ xs → lcS g t e ρ (enc a) = .ok (some (f a))) → lcF (lcS g t e ρ) (xs.map enc) = .ok (xs.map f)
  | [], _ => rfl
  | a :: r, h => by
    show (lcS g t e ρ (enc a)).bind _ = _
    rw [h a List.mem_cons_self, R.bind_ok, lc_map enc f fun b m => h b (List.mem_cons_of_mem _ m)]
    rfl
theorem bool_if_true {α : Type} {a b : α} : (if (true = true) then a else b) = a := rfl
theorem bool_if_false {α : Type} {a b : α} : (if (false = true) then a else b) = b := rfl
theorem and_join {b c : Bool} : (if b = true then R.ok (dv (.bl c)) else R.ok (dv (.bl false))) = R.ok (dv (.bl (b && c))) := by cases b <;> rfl
theorem or_join {b c : Bool} : (if b = true then R.ok (dv (.bl true)) else R.ok (dv (.bl c))) = R.ok (dv (.bl (b || c))) := by cases b <;> rfl
theorem andT_join {b c : Bool} : (if b = true then R.ok c else R.ok false) = R.ok (b && c) := by cases b <;> rfl
theorem orT_join {b c : Bool} : (if b = true then R.ok true else R.ok c) = R.ok (b || c) := by cases b <;> rfl
theorem ixT0 {a0 : D} {l : List D} : B2.fn .ix (.tup (a0 :: l)) (.int 0) = .ok (dv a0) := o_ixT (by rw [at_int (by decide) (by simp only [List.length_cons]; omega)]; rfl)
theorem ixT1 {a0 a1 : D} {l : List D} : B2.fn .ix (.tup (a0 :: a1 :: l)) (.int 1) = .ok (dv a1) := o_ixT (by rw [at_int (by decide) (by simp only [List.length_cons]; omega)]; rfl)
theorem ixT2 {a0 a1 a2 : D} {l : List D} : B2.fn .ix (.tup (a0 :: a1 :: a2 :: l)) (.int 2) = .ok (dv a2) := o_ixT (by rw [at_int (by decide) (by simp only [List.length_cons]; omega)]; rfl)
theorem ixT3 {a0 a1 a2 a3 : D} {l : List D} : B2.fn .ix (.tup (a0 :: a1 :: a2 :: a3 :: l)) (.int 3) = .ok (dv a3) := o_ixT (by rw [at_int (by decide) (by simp only [List.length_cons]; omega)]; rfl)
theorem ixT4 {a0 a1 a2 a3 a4 : D} {l : List D} : B2.fn .ix (.tup (a0 :: a1 :: a2 :: a3 :: a4 :: l)) (.int 4) = .ok (dv a4) := o_ixT (by rw [at_int (by decide) (by simp only [List.length_cons]; omega)]; rfl)
theorem ixT5 {a0 a1 a2 a3 a4 a5 : D} {l : List D} : B2.fn .ix (.tup (a0 :: a1 :: a2 :: a3 :: a4 :: a5 :: l)) (.int 5) = .ok (dv a5) := o_ixT (by rw [at_int (by decide) (by simp only [List.length_cons]; omega)]; rfl)
theorem ixT6 {a0 a1 a2 a3 a4 a5 a6 : D} {l : List D} : B2.fn .ix (.tup (a0 :: a1 :: a2 :: a3 :: a4 :: a5 :: a6 :: l)) (.int 6) = .ok (dv a6) := o_ixT (by rw [at_int (by decide) (by simp only [List.length_cons]; omega)]; rfl)
theorem ixL0 {a0 : D} {l : List D} : B2.fn .ix (.lst (a0 :: l)) (.int 0) = .ok (dv a0) := o_ixL (by rw [at_int (by decide) (by simp only [List.length_cons]; omega)]; rfl)
theorem ixL1 {a0 a1 : D} {l : List D} : B2.fn .ix (.lst (a0 :: a1 :: l)) (.int 1) = .ok (dv a1) := o_ixL (by rw [at_int (by decide) (by simp only [List.length_cons]; omega)]; rfl)
theorem ixL2 {a0 a1 a2 : D} {l : List D} : B2.fn .ix (.lst (a0 :: a1 :: a2 :: l)) (.int 2) = .ok (dv a2) := o_ixL (by rw [at_int (by decide) (by simp only [List.length_cons]; omega)]; rfl)
theorem ixL3 {a0 a1 a2 a3 : D} {l : List D} : B2.fn .ix (.lst (a0 :: a1 :: a2 :: a3 :: l)) (.int 3) = .ok (dv a3) := o_ixL (by rw [at_int (by decide) (by simp only [List.length_cons]; omega)]; rfl)
theorem ixL4 {a0 a1 a2 a3 a4 : D} {l : List D} : B2.fn .ix (.lst (a0 :: a1 :: a2 :: a3 :: a4 :: l)) (.int 4) = .ok (dv a4) := o_ixL (by rw [at_int (by decide) (by simp only [List.length_cons]; omega)]; rfl)
theorem ixL5 {a0 a1 a2 a3 a4 a5 : D} {l : List D} : B2.fn .ix (.lst (a0 :: a1 :: a2 :: a3 :: a4 :: a5 :: l)) (.int 5) = .ok (dv a5) := o_ixL (by rw [at_int (by decide) (by simp only [List.length_cons]; omega)]; rfl)
theorem ixL6 {a0 a1 a2 a3 a4 a5 a6 : D} {l : List D} : B2.fn .ix (.lst (a0 :: a1 :: a2 :: a3 :: a4 :: a5 :: a6 :: l)) (.int 6) = .ok (dv a6) := o_ixL (by rw [at_int (by decide) (by simp only [List.length_cons]; omega)]; rfl)
theorem toI_ite {n : Nat} {c : Prop} [Decidable c] {a b : SR} : (if c then a else b).toI n = if c then a.toI n else b.toI n := by split <;> rfl
theorem toI_nx {n : Nat} : (SR.nx ρ).toI n = getO n ρ := rfl
theorem toI_err {n : Nat} {x : Nat} {f : Option (Str × D)} : (SR.err x f ρ).toI n = .err x f := rfl
theorem getO_x {n : Nat} {fs : List (Str × FV)} : getO n (some (.obj true n fs) :: ρ) = .ok fs := by
  show (if n = n then R.ok fs else .bad) = _
  rw [if_pos rfl]
theorem ofString_inj {a b : String} : (Str.ofString a = Str.ofString b) = (a = b) := by
  apply propext
  constructor
  · intro h
    rw [Str.ofString_eq_toList, Str.ofString_eq_toList] at h
    have h2 : (a.toList.map Char.toNat).toArray = (b.toList.map Char.toNat).toArray := congrArg Str.cps h
    have h3 : a.toList.map Char.toNat = b.toList.map Char.toNat := by simpa using congrArg Array.toList h2
    have inj : ∀ (l m : List Char), l.map Char.toNat = m.map Char.toNat → l = m := fun l => by
      induction l with
      | nil =>
        intro m h
        cases m with
        | nil => rfl
        | cons _ _ => cases h
      | cons c l ih =>
        intro m h
        cases m with
        | nil => cases h
        | cons d m =>
          rw [List.map_cons, List.map_cons] at h
          obtain ⟨h1, h2⟩ := List.cons.inj h
          rw [ih m h2, Char.ext (UInt32.toNat_inj.mp h1)]
    have := inj _ _ h3
    exact String.toList_inj.mp this
  · intro h
    rw [h]
theorem ofString_beq {a b : String} : (Str.ofString a == Str.ofString b) = decide (a = b) := by
  have e : (Str.ofString a == Str.ofString b) = decide (Str.ofString a = Str.ofString b) := rfl
  rw [e]
  simp only [ofString_inj]
theorem sq_bad {k : En → SR} : sqF .bad k = .bad := rfl
theorem toR_bad : SR.bad.toR = .bad := rfl
theorem toI_bad {n : Nat} : SR.bad.toI n = .bad := rfl
end
end Ci
namespace L2
open PySem
theorem Room.units65 {k : Nat} {A : Around} (r : Room k A) : A.units + 65 < cLine := by have := r.un; omega
end L2

namespace Ci
open PySem PySem.Spec PyProof.Rows L2
/-- lengths of texts that are put together -/
class SzOk (s : Str) (n : outParam Nat) : Prop where
  le : s.length ≤ n
theorem str_len_app (a b : Str) : (a ++ b).length = a.length + b.length := by
  show (a ++ b).cps.size = a.cps.size + b.cps.size
  exact Array.size_append ..
instance szApp {a b : Str} {m k : Nat} [h1 : SzOk a m] [h2 : SzOk b k] : SzOk (a ++ b) (m + k) := ⟨by
  rw [str_len_app]
  exact Nat.add_le_add h1.le h2.le⟩
instance szLit {s : String} : SzOk (Str.ofString s) (Str.ofString s).length := ⟨Nat.le_refl _⟩
instance szEmp : SzOk Str.empty 0 := ⟨Nat.le_refl 0⟩
theorem szAdd {s t : Str} {m n : Nat} [h1 : SzOk s m] [h2 : SzOk t n] (hn : m + n ≤ 16000000) : s.length + t.length ≤ sizeLine := Nat.le_trans (Nat.add_le_add h1.le h2.le) (by rw [sizeLine_eq]; omega)
theorem szLine {s : Str} {n : Nat} [h : SzOk s n] (hn : n ≤ 16000000) : s.length ≤ sizeLine := Nat.le_trans h.le (by rw [sizeLine_eq]; omega)
theorem q_szl {s : Str} {n : Nat} [h : SzOk s n] (hn : n ≤ 16000000) : (s.length ≤ sizeLine) = True := eq_true (szLine hn)
end Ci
end

section
set_option Elab.async false
set_option linter.all false
set_option maxRecDepth 100000
set_option maxHeartbeats 4000000
/-! ## more for mirrors: turns of loops; operations whose conditions omega shows -/
namespace Ci
open PySem PySem.Spec PyProof.Rows L2 Evl
/-- a turn of a loop -/
def wipeR (kill : List Nat) : SR → SR
  | .nx ρ => .nx (wipeE ρ kill)
  | .ct ρ => .nx (wipeE ρ kill)
  | .bk ρ => .bk (wipeE ρ kill)
  | o => o
def finR : SR → SR
  | .bk ρ => .nx ρ
  | o => o
section
variable {ρ : En} {kill : List Nat}
theorem wr_nx : wipeR kill (.nx ρ) = .nx (wipeE ρ kill) := rfl
theorem wr_ct : wipeR kill (.ct ρ) = .nx (wipeE ρ kill) := rfl
theorem wr_bk : wipeR kill (.bk ρ) = .bk (wipeE ρ kill) := rfl
theorem wr_rt {v : RV} : wipeR kill (.rt v ρ) = .rt v ρ := rfl
theorem wr_err {x : Nat} {f : Option (Str × D)} : wipeR kill (.err x f ρ) = .err x f ρ := rfl
theorem wr_bad : wipeR kill .bad = .bad := rfl
theorem wr_ite {c : Prop} [Decidable c] {a b : SR} : wipeR kill (if c then a else b) = if c then wipeR kill a else wipeR kill b := by split <;> rfl
theorem try_ite {cs : List Nat} {k : En → SR} {c : Prop} [Decidable c] {a b : SR} : tryF cs (if c then a else b) k = if c then tryF cs a k else tryF cs b k := by split <;> rfl
theorem forF_turn {step : D → En → SR} {x : D} {r : List D} : forF step kill (x :: r) ρ = (match wipeR kill (step x ρ) with
    | .nx ρ' => forF step kill r ρ'
    | o => finR o) := by
  rw [forF_cons]
  cases step x ρ <;> rfl
theorem for_list {α : Type} {step : D → En → SR} (enc : α → D) : ∀ {xs : List α} (E : Nat → En), (∀ k (h : k < xs.length), wipeR kill (step (enc xs[k]) (E k)) = .nx (E (k + 1))) → forF step kill (xs.map enc) (E 0) = .nx (E xs.length)
  | [], E, _ => rfl
  | a :: r, E, h => by
    rw [List.map_cons, forF_turn, show wipeR kill (step (enc a) (E 0)) = .nx (E 1) from h 0 (Nat.succ_pos _)]
    exact for_list enc (fun k => E (k + 1)) fun k hk => h (k + 1) (Nat.succ_lt_succ hk)
theorem for_rng {step : D → En → SR} {lo : Int} {n : Nat} (E : Nat → En) (h : ∀ k, k < n → wipeR kill (step (.int (lo + k)) (E k)) = .nx (E (k + 1))) : forF step kill (rng lo n) (E 0) = .nx (E n) := by
  have := for_list (step := step) (kill := kill) (fun k : Nat => D.int (lo + (k : Int))) (xs := List.range n) E fun k hk => by
    rw [List.getElem_range]
    rw [List.length_range] at hk
    exact h k hk
  rw [List.length_range] at this
  exact this
end
instance : Inhabited Str := ⟨⟨#[]⟩⟩
/-- what stands at a place that there is -/
def at0 {α : Type} [Inhabited α] (xs : List α) (i : Int) : α := xs.getD i.toNat default
section
variable {α : Type} [Inhabited α] {xs : List α} {i : Int} {f : α → D}
theorem at0_some (h0 : 0 ≤ i) (h1 : i < xs.length) : xs[i.toNat]? = some (at0 xs i) := by
  unfold at0
  rw [List.getD_eq_getElem?_getD, List.getElem?_eq_getElem (show i.toNat < xs.length by omega)]
  rfl
theorem at0_get {k : Nat} (h : k < xs.length) : at0 xs (k : Int) = xs[k] := by
  unfold at0
  rw [List.getD_eq_getElem?_getD, Int.toNat_natCast, List.getElem?_eq_getElem h]
  rfl
theorem at0_mem (h0 : 0 ≤ i) (h1 : i < xs.length) : at0 xs i ∈ xs := List.mem_of_getElem? (at0_some h0 h1)
theorem q_ixL (h0 : 0 ≤ i) (h1 : i < xs.length) : B2.fn .ix (.lst (xs.map f)) (.int i) = .ok (dv (f (at0 xs i))) := o_ixL (by
  rw [at_int h0 (by rw [List.length_map]; exact h1), List.getElem?_map, at0_some h0 h1]
  rfl)
theorem q_ixT (h0 : 0 ≤ i) (h1 : i < xs.length) : B2.fn .ix (.tup (xs.map f)) (.int i) = .ok (dv (f (at0 xs i))) := o_ixT (by
  rw [at_int h0 (by rw [List.length_map]; exact h1), List.getElem?_map, at0_some h0 h1]
  rfl)
theorem q_ixS {ns : List Int} (h0 : 0 ≤ i) (h1 : i < ns.length) : B2.fn .ix (.scr ns) (.int i) = .ok (dv (.int (at0 ns i))) := o_ixS (by
  rw [at_int h0 h1, at0_some h0 h1])
theorem q_ixLast (h1 : 0 < xs.length) : B2.fn .ix (.lst (xs.map f)) (.int (-1)) = .ok (dv (f (at0 xs (xs.length - 1)))) := o_ixL (by
  rw [at_neg (by omega) (by rw [List.length_map]; omega), List.getElem?_map, List.length_map, show (-1 + (xs.length : Int)).toNat = ((xs.length : Int) - 1).toNat by omega, at0_some (by omega) (by omega)]
  rfl)
end
section
variable {m n : Int}
theorem q_mulR (h1 : -18446744073709551616 < n) (h2 : n < 18446744073709551616) : B2.fn .mul (.int m) (.int n) = .ok (dv (.int (m * n))) := o_mul (mulR h1 h2)
theorem q_mulL (h1 : -18446744073709551616 < m) (h2 : m < 18446744073709551616) : B2.fn .mul (.int m) (.int n) = .ok (dv (.int (m * n))) := o_mul (mulL h1 h2)
theorem log2_lt {n k : Nat} (h : n < 2 ^ k) (hk : 0 < k) : n.log2 < k := by
  by_cases c : n = 0
  · subst c
    exact hk
  · exact (Nat.log2_lt c).mpr h
theorem q_div (h0 : 0 < n) (h1 : n < 18446744073709551616) : B2.fn .div (.int m) (.int n) = .ok (dv (.int (m / n))) := o_div ⟨h0, Nat.lt_of_lt_of_le (log2_lt (k := 64) (by omega) (by decide)) (by decide)⟩
theorem q_mod (h : 0 < n) : B2.fn .mod (.int m) (.int n) = .ok (dv (.int (m % n))) := o_mod h
theorem q_pow (h0 : 0 ≤ n) (h1 : n ≤ 1000000) (h2 : -18446744073709551616 < m) (h3 : m < 18446744073709551616) : B2.fn .pow (.int m) (.int n) = .ok (dv (.int (m ^ n.toNat))) := o_pow ⟨h0, h1, by omega⟩
theorem q_addL {s t : List D} (h : s.length + t.length ≤ 1000000) : B2.fn .add (.lst s) (.lst t) = .ok (ov (.lst (s ++ t))) := o_addL (small h)
theorem q_lrg {n : Int} (h0 : 0 ≤ n) (h1 : n ≤ 1000000) : lrgF n = .ok (ov (.lst (rng 0 n.toNat))) := if_pos ⟨by omega, h1⟩
theorem q_lzip {xs ys : List D} (h : xs.length = ys.length) (h2 : xs.length ≤ 1000000) : Cb.fn .lzip [.lst xs, .lst ys] = .ok (ov (.lst (zipD xs ys))) := k_lzip ⟨h, small h2⟩
theorem q_append {ds : List D} {d : D} (h : ds.length ≤ 1000000) : Mo.fn .append ds [d] = .ok (ds ++ [d]) := m_append (small' h)
theorem q_insert {ds : List D} {d : D} {i : Int} (h : ds.length ≤ 1000000) (h0 : 0 ≤ i) (h1 : i ≤ 1000000) : Mo.fn .insert ds [.int i, d] = .ok (ds.take i.toNat ++ [d] ++ ds.drop i.toNat) := m_insert ⟨small' h, h0, by omega⟩
theorem q_line {n : Nat} (h : n ≤ 1000000) : (n ≤ sizeLine) = True := eq_true (small h)
theorem q_line' {n : Nat} (h : n ≤ 1000000) : (n < sizeLine) = True := eq_true (small' h)
theorem q_mil {n : Nat} (h : n ≤ 1000000) : (n ≤ 1000000) = True := eq_true h
theorem q_rng1 (h0 : -1000000000000 ≤ n) (h : n ≤ 1000000000000) : rng1F [.int n] = .ok (true, rng 0 n.toNat) := rng1_int (by omega)
theorem q_rng2 (h0 : -1000000000000 ≤ n) (h : n ≤ 1000000000000) (h1 : -1000000000000 ≤ m) (h2 : m ≤ 1000000000000) : rng2F [.int m, .int n] = .ok (true, rng m (n - m).toNat) := rng2_int (by omega)
end
theorem q_rng3 {m n : Int} (h0 : -1000000000000 ≤ n) (h : n ≤ 1000000000000) (h1 : -1000000000000 ≤ m) (h2 : m ≤ 1000000000000) : rng3F [.int m, .int n, .int (-1)] = .ok (true, rngD m (m - n).toNat) := if_pos ⟨rfl, by omega, by omega, by omega, by omega⟩
theorem q_rep {xs : List D} {n : Int} (h0 : 0 ≤ n) (h1 : n ≤ 1000000) (h2 : xs.length * n.toNat ≤ 1000000) : B2.fn .mul (.lst xs) (.int n) = .ok (ov (.lst (List.replicate n.toNat xs).flatten)) := by
  show (if n < 2 ^ 63 ∧ -(2 ^ 63) ≤ n ∧ xs.length * n.toNat ≤ sizeLine then R.ok (ov (.lst (List.replicate n.toNat xs).flatten)) else .bad) = _
  rw [if_pos ⟨by omega, by omega, small h2⟩]
theorem q_rep1 {x : D} {n : Int} (h0 : 0 ≤ n) (h1 : n ≤ 1000000) : B2.fn .mul (.lst [x]) (.int n) = .ok (ov (.lst (List.replicate n.toNat x))) := by
  rw [q_rep h0 h1 (by rw [List.length_singleton]; omega)]
  congr 4
  generalize n.toNat = k
  induction k with
  | zero => rfl
  | succ k ih => rw [List.replicate_succ, List.flatten_cons, ih]; rfl
theorem map_snoc {α β : Type} (f : α → β) (l : List α) (x : α) : l.map f ++ [f x] = (l ++ [x]).map f := by rw [List.map_append]; rfl
/-- a comprehension over numbers -/
theorem lc_rng {g : P .g} {t : P .t} {e : P .e} {ρ : En} (lo : Int) (n : Nat) (f : Nat → D) (h : ∀ k, k < n → lcS g t e ρ (.int (lo + k)) = .ok (some (f k))) : lcF (lcS g t e ρ) (rng lo n) = .ok ((List.range n).map f) := by
  unfold rng
  refine lc_map (fun k : Nat => D.int (lo + (k : Int))) f fun k hk => h k (List.mem_range.mp hk)
theorem quiet_okS {α : Type} {a : α} : (R.ok a).quiet = .ok a := rfl
theorem quiet_ite {α : Type} {c : Prop} [Decidable c] {a b : R α} : (if c then a else b).quiet = if c then a.quiet else b.quiet := by split <;> rfl
/-- a field of what stands in a slot -/
def fldO (cs : List Nat) (f : Str) : Option (Option SV) → R RV
  | some (some (.obj sf c fs)) => if c ∈ cs then (match fs.lookup f with
    | some (.d x) => .ok (dv x)
    | some x => .ok (.vw x)
    | none => .bad) else .bad
  | some (some (.fv (.d (.ins c fs)))) => if c ∈ cs then (match fs.lookup f with
    | some x => .ok (dv x)
    | none => .bad) else .bad
  | _ => .bad
theorem q_fldv {cs : List Nat} {f : Str} {i : Nat} {ρ : En} : ev (.fldv cs i f) ρ = fldO cs f ρ[i]? := by
  show getF cs ρ i f = _
  unfold getF fldO
  cases ρ[i]? with
  | none => rfl
  | some s =>
    cases s with
    | none => rfl
    | some s =>
      rcases s with (x | _ | _ | _) | ⟨sf, c, fs⟩ | _ <;> first | rfl | (cases x <;> rfl)
theorem lk_yes {α : Type} {f : Str} {x : α} {r : List (Str × α)} : ((f, x) :: r).lookup f = some x := by rw [List.lookup_cons, beq_self_eq_true]
end Ci
namespace Ci
open PySem PySem.Spec PyProof.Rows L2 Evl
/-- a list that a slot lends -/
def seqbO : Option (Option SV) → R (Bool × List D)
  | some (some (.brw ds)) => .ok (true, ds)
  | _ => .bad
theorem x_seqb' {i : Nat} {ρ : En} : ev (.seqb i) ρ = seqbO ρ[i]? := by
  show (match ρ[i]? with | some (some (.brw ds)) => R.ok (true, ds) | _ => .bad) = _
  unfold seqbO
  rfl
def lendO (i : Nat) (a : P .e) (ρ : En) : Option (Option SV) → R RV
  | some (some (.fv (.lst ds))) => lentR (ev a (ρ.set i (some (.d (.lst ds)))))
  | _ => .bad
theorem x_lend' {i : Nat} {a : P .e} {ρ : En} : ev (.lend i a) ρ = lendO i a ρ ρ[i]? := by
  show (match ρ[i]? with | some (some (.fv (.lst ds))) => lentR (ev a (ρ.set i (some (.d (.lst ds))))) | _ => .bad) = _
  unfold lendO
  rfl
theorem lendO_lst {i : Nat} {a : P .e} {ρ : En} {ds : List D} : lendO i a ρ (some (some (.fv (.lst ds)))) = lentR (ev a (ρ.set i (some (.d (.lst ds))))) := rfl
theorem seqbO_brw {ds : List D} : seqbO (some (some (.brw ds))) = .ok (true, ds) := rfl
theorem kit_bool {b : Bool} : (if b = true then true else false) = b := by cases b <;> rfl
end Ci
namespace Ci
open PySem PySem.Spec PyProof.Rows L2 Evl
section
variable {m : Int} {n : Nat}
theorem q_mulRl (h : n < 18446744073709551616) : B2.fn .mul (.int m) (.int (no_index (OfNat.ofNat n))) = .ok (dv (.int (m * OfNat.ofNat n))) := q_mulR (by show -18446744073709551616 < ((n : Nat) : Int); omega) (by show ((n : Nat) : Int) < 18446744073709551616; omega)
theorem q_mulLl (h : n < 18446744073709551616) : B2.fn .mul (.int (no_index (OfNat.ofNat n))) (.int m) = .ok (dv (.int (OfNat.ofNat n * m))) := q_mulL (by show -18446744073709551616 < ((n : Nat) : Int); omega) (by show ((n : Nat) : Int) < 18446744073709551616; omega)
theorem q_divl (h : 0 < n) (h1 : n < 18446744073709551616) : B2.fn .div (.int m) (.int (no_index (OfNat.ofNat n))) = .ok (dv (.int (m / OfNat.ofNat n))) := q_div (by show 0 < ((n : Nat) : Int); omega) (by show ((n : Nat) : Int) < 18446744073709551616; omega)
theorem q_modl (h : 0 < n) : B2.fn .mod (.int m) (.int (no_index (OfNat.ofNat n))) = .ok (dv (.int (m % OfNat.ofNat n))) := q_mod (by show 0 < ((n : Nat) : Int); omega)
theorem q_mulE {a b : Int} (h : 0 < n) (h1 : n < 18446744073709551616) : B2.fn .mul (.int (a % (no_index (OfNat.ofNat n)))) (.int b) = .ok (dv (.int (a % OfNat.ofNat n * b))) := by
  have h2 := Int.emod_nonneg a (show ((OfNat.ofNat n : Int)) ≠ 0 by show ((n : Nat) : Int) ≠ 0; omega)
  have h3 := Int.emod_lt_of_pos a (show 0 < ((OfNat.ofNat n : Int)) by show 0 < ((n : Nat) : Int); omega)
  have h4 : ((OfNat.ofNat n : Int)) < 18446744073709551616 := by show ((n : Nat) : Int) < _; omega
  exact q_mulL (by omega) (by omega)
theorem q_appendM {α : Type} {xs : List α} {f : α → D} {d : D} (h : xs.length ≤ 1000000) : Mo.fn .append (xs.map f) [d] = .ok (xs.map f ++ [d]) := q_append (by rw [List.length_map]; exact h)
theorem q_insertM {α : Type} {xs : List α} {f : α → D} {x : D} {i : Int} (h : xs.length ≤ 1000000) (h0 : 0 ≤ i) (h1 : i ≤ 1000000) : Mo.fn .insert (xs.map f) [.int i, x] = .ok ((xs.map f).take i.toNat ++ [x] ++ (xs.map f).drop i.toNat) := q_insert (by rw [List.length_map]; exact h) h0 h1
theorem q_append0 {d : D} : Mo.fn .append [] [d] = .ok [d] := q_append (ds := []) (by simp)
end
end Ci
namespace Ci
open PySem PySem.Spec PyProof.Rows L2 Evl
theorem isi_eq {T : String} {d : D} {t : String} {k : Bool} (h1 : tyD d = some t) (h2 : kitB t T = some k) : isiF T d = .ok (dv (.bl k)) := by
  unfold isiF
  rw [h1]
  show (R.ofO (kitB t T)).bind _ = _
  rw [h2]
  rfl
theorem i_nb : isiF "bool" .non = .ok (dv (.bl false)) := isi_eq rfl (by decide)
theorem i_bb {b : Bool} : isiF "bool" (.bl b) = .ok (dv (.bl true)) := isi_eq rfl (by decide)
theorem i_ib {b : Int} : isiF "bool" (.int b) = .ok (dv (.bl false)) := isi_eq rfl (by decide)
theorem i_sb {b : Str} : isiF "bool" (.str b) = .ok (dv (.bl false)) := isi_eq rfl (by decide)
theorem i_tb {b : List D} : isiF "bool" (.tup b) = .ok (dv (.bl false)) := isi_eq rfl (by decide)
theorem i_lb {b : List D} : isiF "bool" (.lst b) = .ok (dv (.bl false)) := isi_eq rfl (by decide)
theorem i_ns : isiF "str" .non = .ok (dv (.bl false)) := isi_eq rfl (by decide)
theorem i_is {b : Int} : isiF "str" (.int b) = .ok (dv (.bl false)) := isi_eq rfl (by decide)
theorem i_ss {b : Str} : isiF "str" (.str b) = .ok (dv (.bl true)) := isi_eq rfl (by decide)
theorem i_ts {b : List D} : isiF "str" (.tup b) = .ok (dv (.bl false)) := isi_eq rfl (by decide)
theorem i_ls {b : List D} : isiF "str" (.lst b) = .ok (dv (.bl false)) := isi_eq rfl (by decide)
theorem i_ni : isiF "int" .non = .ok (dv (.bl false)) := isi_eq rfl (by decide)
theorem i_ii {b : Int} : isiF "int" (.int b) = .ok (dv (.bl true)) := isi_eq rfl (by decide)
theorem i_ti {b : List D} : isiF "int" (.tup b) = .ok (dv (.bl false)) := isi_eq rfl (by decide)
theorem i_li {b : List D} : isiF "int" (.lst b) = .ok (dv (.bl false)) := isi_eq rfl (by decide)
theorem i_tl {b : List D} : isiF "list" (.tup b) = .ok (dv (.bl false)) := isi_eq rfl (by decide)
theorem i_ll {b : List D} : isiF "list" (.lst b) = .ok (dv (.bl true)) := isi_eq rfl (by decide)
theorem i_tt {b : List D} : isiF "tuple" (.tup b) = .ok (dv (.bl true)) := isi_eq rfl (by decide)
theorem i_lt {b : List D} : isiF "tuple" (.lst b) = .ok (dv (.bl false)) := isi_eq rfl (by decide)
end Ci
namespace Ci
open PySem PySem.Spec PyProof.Rows L2 Evl
def fvR : Option FV → R RV
  | some (.d x) => .ok (dv x)
  | some x => .ok (.vw x)
  | none => .bad
theorem fvR_d {x : D} : fvR (some (.d x)) = .ok (dv x) := rfl
theorem fvR_lst {x : List D} : fvR (some (.lst x)) = .ok (.vw (.lst x)) := rfl
def dvR : Option D → R RV
  | some x => .ok (dv x)
  | none => .bad
theorem dvR_some {x : D} : dvR (some x) = .ok (dv x) := rfl
theorem fldO_obj {cs : List Nat} {f : Str} {sf : Bool} {c : Nat} {fs : List (Str × FV)} : fldO cs f (some (some (.obj sf c fs))) = if c ∈ cs then fvR (fs.lookup f) else .bad := by
  unfold fldO fvR
  rfl
theorem fldO_ins {cs : List Nat} {f : Str} {c : Nat} {fs : List (Str × D)} : fldO cs f (some (some (.fv (.d (.ins c fs))))) = if c ∈ cs then dvR (fs.lookup f) else .bad := by
  unfold fldO dvR
  rfl
end Ci
namespace Ci
open PySem PySem.Spec PyProof.Rows L2 Evl
end Ci
namespace Ci
open PySem PySem.Spec PyProof.Rows L2 Evl
/-- a number or nothing -/
def encO : Option Int → D
  | none => .non
  | some d => .int d
theorem encO_none : encO none = .non := rfl
theorem encO_some {d : Int} : encO (some d) = .int d := rfl
theorem isNon_encO {o : Option Int} : (encO o).isNon = o.isNone := by cases o <;> rfl
theorem q_cast {n : Nat} : (((no_index (OfNat.ofNat n)) : Nat) : Int) = OfNat.ofNat n := rfl
end Ci
namespace Ci
open PySem PySem.Spec PyProof.Rows L2 Evl
theorem q_mulER {n : Nat} {a b : Int} (h : 0 < n) (h1 : n < 18446744073709551616) : B2.fn .mul (.int b) (.int (a % (no_index (OfNat.ofNat n)))) = .ok (dv (.int (b * (a % OfNat.ofNat n)))) := by
  have h2 := Int.emod_nonneg a (show ((OfNat.ofNat n : Int)) ≠ 0 by show ((n : Nat) : Int) ≠ 0; omega)
  have h3 := Int.emod_lt_of_pos a (show 0 < ((OfNat.ofNat n : Int)) by show 0 < ((n : Nat) : Int); omega)
  have h4 : ((OfNat.ofNat n : Int)) < 18446744073709551616 := by show ((n : Nat) : Int) < _; omega
  exact q_mulR (by omega) (by omega)
theorem any_rep {n : Nat} : (List.replicate n false).any id = false := by
  induction n with
  | zero => rfl
  | succ n ih => rw [List.replicate_succ, List.any_cons, ih]; rfl
end Ci
end

section
set_option Elab.async false
set_option linter.all false
set_option maxRecDepth 100000
set_option maxHeartbeats 4000000
/-! ## for mirrors: dicts, values that change an object of ours, objects that are lent -/
namespace Ci
open PySem PySem.Spec PyProof.Rows L2 Evl
def lendOF (i : Nat) (ρ : En) (f : En → R RV) : Option (Option SV) → R RV
  | some (some s) => if s.isBrw then .bad else lentR (f (ρ.set i (some (.d s.dat))))
  | _ => .bad
def wselfF (i c : Nat) (m : Str) (f : SelfF) (ρ : En) (as : R (List D)) : Option (Option SV) → SX D
  | some (some (.obj sf c' fs)) => if c' = c then (match fs.lookup m with | none => as.sx ρ fun ds => (f fs ds).sx (ρ.set i none) fun r => .ok r.1 (ρ.set i (some (.obj sf c r.2))) | some _ => .bad) else .bad
  | _ => .bad
section
variable {ρ : En} {i : Nat}
theorem x_dnew : ev .dnew ρ = .ok (ov (.dk [])) := rfl
theorem x_dget {a k : P .e} : ev (.dget a k) ρ = (ev a ρ).bind fun x => (ev k ρ).bind fun y => x.rd.bind fun d => y.rd.bind fun y => dgetF d y := rfl
theorem x_dget1 {a k : P .e} : ev (.dget1 a k) ρ = (ev a ρ).bind fun x => x.rd.bind fun d => (asDk d).bind fun kvs => (ev k ρ).bind fun y => y.rd.bind fun y => dget1F kvs y := rfl
theorem x_dget2 {a k z : P .e} : ev (.dget2 a k z) ρ = (ev a ρ).bind fun x => x.rd.bind fun d => (asDk d).bind fun kvs => (ev k ρ).bind fun y => (ev z ρ).bind fun z => y.rd.bind fun y => z.pl.bind fun z => dget2F kvs y z := rfl
theorem x_din {neg : Bool} {k a : P .e} : ev (.din neg k a) ρ = (ev k ρ).bind fun y => (ev a ρ).bind fun x => y.rd.bind fun y => x.rd.bind fun d => dinF neg y d := rfl
theorem x_dictP {a : P .e} : ev (.dictP a) ρ = (ev a ρ).bind fun x => x.rd.bind dictPF := rfl
theorem x_dictZ {as : P .r} : ev (.dictZ as) ρ = (ev as ρ).bind zipKF := rfl
theorem x_dictR {as : P .r} : ev (.dictR as) ρ = (ev as ρ).bind zipRKF := rfl
theorem x_kdG {j : Nat} {kvs : Kc} {k : P .e} : ev (.kdG j kvs k) ρ = (ev k ρ).bind fun y => y.rd.bind (kdGF kvs) := rfl
theorem x_kdI {neg : Bool} {j : Nat} {kvs : Kc} {k : P .e} : ev (.kdI neg j kvs k) ρ = (ev k ρ).bind fun y => y.rd.bind (kdIF neg kvs) := rfl
theorem x_lendO {a : P .e} : ev (.lendO i a) ρ = lendOF i ρ (ev a) ρ[i]? := by
  show (match ρ[i]? with | some (some s) => if s.isBrw then R.bad else lentR (ev a (ρ.set i (some (.d s.dat)))) | _ => R.bad) = _
  unfold lendOF
  rfl
theorem lendO_nb {f : En → R RV} {s : SV} (h : s.isBrw = false) : lendOF i ρ f (some (some s)) = lentR (f (ρ.set i (some (.d s.dat)))) := by
  show (if s.isBrw = true then _ else _) = _
  rw [if_neg (by rw [h]; exact Bool.false_ne_true)]
theorem lendO_obj {f : En → R RV} {c : Nat} {fs : List (Str × FV)} : lendOF i ρ f (some (some (.obj false c fs))) = lentR (f (ρ.set i (some (.d (SV.obj false c fs).dat)))) := lendO_nb (by unfold SV.isBrw; rfl)
theorem lendO_dk {f : En → R RV} {kvs : Kd} : lendOF i ρ f (some (some (.fv (.dk kvs)))) = lentR (f (ρ.set i (some (.d (.dk kvs))))) := lendO_nb (by unfold SV.isBrw; rfl)
theorem lendO_l {f : En → R RV} {ds : List D} : lendOF i ρ f (some (some (.fv (.lst ds)))) = lentR (f (ρ.set i (some (.d (.lst ds))))) := lendO_nb (by unfold SV.isBrw; rfl)
theorem lendO_d {f : En → R RV} {d : D} : lendOF i ρ f (some (some (.fv (.d d)))) = lentR (f (ρ.set i (some (.d d)))) := lendO_nb (by unfold SV.isBrw; rfl)
theorem x_dput {p : P .p} {k a : P .e} : ev (.dput p k a) ρ = (ev a ρ).sr ρ fun x => x.toD.gr fun d => (getDk ρ p).gr fun kvs => (ev k ρ).sr ρ fun y => y.rd.gr fun y => (R.ofO (keyD y)).gr fun k => if kvs.length < sizeLine then .nx (putP ρ (.dk (putD kvs k d)) p) else .bad := rfl
theorem x_daug {p : P .p} {k a : P .e} {sub : Bool} : ev (.daug p k sub a) ρ = (getDk ρ p).gr fun kvs => (ev k ρ).sr ρ fun y => y.rd.gr fun y => (R.ofO (keyD y)).gr fun k => (getDI kvs k).gr fun v => (ev a ρ).sr ρ fun z => z.toI.gr fun m => if kvs.length < sizeLine then .nx (putP ρ (.dk (putD kvs k (.int (if sub then v - m else v + m)))) p) else .bad := rfl
theorem x_appP {p : P .p} {f : List D → R RV} {a b : P .e} : ev (.appP p f a b) ρ = if isNst p then .bad else (getL ρ p).gr fun ds => (ev a ρ).sr ρ fun x => x.pl.gr fun d1 => (R.ofO ds.getLast?).gr fun l => (ev b (putP ρ (.lst ds.dropLast) p)).sr (putP ρ (.lst ds.dropLast) p) fun y => y.pl.gr fun d2 => (f [d1, l, d2]).sr (putP ρ (.lst ds.dropLast) p) fun r => r.toD.gr fun d => if ds.length < sizeLine then .nx (putP (putP ρ (.lst ds.dropLast) p) (.lst (ds.dropLast ++ [d])) p) else .bad := rfl
theorem x_retW {w : P .w} : ev (.retW w) ρ = (ev w ρ).s fun d ρ => .rt (dv d) ρ := rfl
theorem x_asgW {w : P .w} : ev (.asgW i w) ρ = (ev w ρ).s fun d ρ => .nx (ρ.set i (some (.d d))) := rfl
theorem x_ifU {u : P .u} {a b : P .s} : ev (.ifU u a b) ρ = (ev u ρ).s fun k ρ => if k then ev a ρ else ev b ρ := rfl
theorem x_wself {c : Nat} {m : Str} {ms : List Bool} {f : SelfF} {as : P .m} : ev (.wself i c m ms f as) ρ = wselfF i c m f ρ (ev as ρ) ρ[i]? := by
  show (match ρ[i]? with
    | some (some (.obj sf c' fs)) => if c' = c then (match fs.lookup m with | none => (ev as ρ).sx ρ fun ds => (f fs ds).sx (ρ.set i none) fun r => SX.ok r.1 (ρ.set i (some (.obj sf c r.2))) | some _ => SX.bad) else SX.bad
    | _ => SX.bad) = _
  unfold wselfF
  rfl
theorem wself_obj {c c' : Nat} {m : Str} {f : SelfF} {as : R (List D)} {sf : Bool} {fs : List (Str × FV)} (h : c' = c) (hm : fs.lookup m = none) : wselfF i c m f ρ as (some (some (.obj sf c' fs))) = as.sx ρ fun ds => (f fs ds).sx (ρ.set i none) fun r => .ok r.1 (ρ.set i (some (.obj sf c r.2))) := by
  unfold wselfF
  simp only [if_pos h, hm]
def popF (i : Nat) (ρ : En) : R (List D) → SX D
  | .ok ds => (match ds.getLast? with
    | some y => .ok y (putP ρ (.lst ds.dropLast) (.pvar i))
    | none => .bad)
  | _ => .bad
theorem x_wpop : ev (.wpop i) ρ = popF i ρ (getL ρ (.pvar i)) := by
  show (match getL ρ (.pvar i) with
    | .ok ds => (match ds.getLast? with
      | some y => SX.ok y (putP ρ (.lst ds.dropLast) (.pvar i))
      | none => .bad)
    | _ => .bad) = _
  unfold popF
  rfl
theorem popF_ok {xs : List D} {d : D} : popF i ρ (.ok (xs ++ [d])) = .ok d (putP ρ (.lst xs) (.pvar i)) := by
  unfold popF
  simp
def pop0F (i : Nat) (ρ : En) : R (List D) → SX D
  | .ok (y :: r) => .ok y (putP ρ (.lst r) (.pvar i))
  | _ => .bad
theorem x_wpop0 : ev (.wpop0 i) ρ = pop0F i ρ (getL ρ (.pvar i)) := by
  show (match getL ρ (.pvar i) with
    | .ok (y :: r) => SX.ok y (putP ρ (.lst r) (.pvar i))
    | _ => .bad) = _
  unfold pop0F
  rfl
theorem pop0F_ok {y : D} {r : List D} : pop0F i ρ (.ok (y :: r)) = .ok y (putP ρ (.lst r) (.pvar i)) := rfl
theorem x_wbin {o : B2} {k : Cn} {w : P .w} : ev (.wbin o k w) ρ = (ev w ρ).b fun d ρ2 => (o.fn k.d d).sx ρ2 fun y => y.toD.sx ρ2 fun d2 => .ok d2 ρ2 := rfl
def appWF (i : Nat) (w : P .w) (ρ : En) : R (List D) → SR
  | .ok _ => (ev w ρ).s fun d ρ2 => (getL ρ2 (.pvar i)).gr fun ds => if ds.length < sizeLine then .nx (putP ρ2 (.lst (ds ++ [d])) (.pvar i)) else .bad
  | _ => .bad
theorem x_appW {w : P .w} : ev (.appW i w) ρ = appWF i w ρ (getL ρ (.pvar i)) := by
  show (match getL ρ (.pvar i) with
    | .ok _ => (ev w ρ).s fun d ρ2 => (getL ρ2 (.pvar i)).gr fun ds => if ds.length < sizeLine then SR.nx (putP ρ2 (.lst (ds ++ [d])) (.pvar i)) else .bad
    | _ => .bad) = _
  unfold appWF
  rfl
theorem appWF_ok {w : P .w} {ds0 : List D} : appWF i w ρ (.ok ds0) = (ev w ρ).s fun d ρ2 => (getL ρ2 (.pvar i)).gr fun ds => if ds.length < sizeLine then .nx (putP ρ2 (.lst (ds ++ [d])) (.pvar i)) else .bad := rfl
theorem x_wand {a : P .e} {w : P .w} : ev (.wand a w) ρ = (ev a ρ).sx ρ fun x => x.toB.sx ρ fun k => if k then ev w ρ else .ok (.bl false) ρ := rfl
theorem x_ut {t : P .t} : ev (.ut t) ρ = (ev t ρ).sx ρ fun k => .ok k ρ := rfl
theorem x_uw {w : P .w} : ev (.uw w) ρ = (ev w ρ).b fun d ρ => (asBl d).sx ρ fun k => .ok k ρ := rfl
theorem x_unot {u : P .u} : ev (.unot u) ρ = (ev u ρ).b fun k ρ => .ok (!k) ρ := rfl
theorem x_uor {t : P .t} {u : P .u} : ev (.uor t u) ρ = (ev t ρ).sx ρ fun k => if k then .ok true ρ else ev u ρ := rfl
theorem x_uand {t : P .t} {u : P .u} : ev (.uand t u) ρ = (ev t ρ).sx ρ fun k => if k then ev u ρ else .ok false ρ := rfl
theorem x_isC {c : Nat} {a : P .e} : ev (.isC c a) ρ = (ev a ρ).bind (isCF c) := rfl
theorem isC_d {c : Nat} {fs : List (Str × D)} : isCF c (dv (.ins c fs)) = .ok (dv (.bl true)) := if_pos rfl
theorem isC_o {c : Nat} {fs : List (Str × FV)} : isCF c (.sv (.obj false c fs)) = .ok (dv (.bl true)) := if_pos rfl
theorem x_nrmE {a : P .e} : ev (.nrmE a) ρ = (ev a ρ).bind nrmF := rfl
theorem x_tupNE {a : P .e} : ev (.tupNE a) ρ = (ev a ρ).bind fun x => x.rd.bind tupNF := rfl
theorem x_tix {a z : P .e} : ev (.tix a z) ρ = (ev a ρ).bind fun x => (tnOf x).bind fun ds => (ev z ρ).bind fun y => y.rd.bind fun y => tixF ds y := rfl
theorem tnOf_d {ds : List D} : tnOf (dv (.tupN ds)) = .ok ds := rfl
theorem tnOf_d' {ds : List D} : tnOf (.sv (.fv (.d (.tupN ds)))) = .ok ds := rfl
theorem nrm_tn {ds : List D} : nrmF (dv (.tupN ds)) = .ok (dv (.tup ds)) := rfl
theorem nrm_tn' {ds : List D} : nrmF (.sv (.fv (.d (.tupN ds)))) = .ok (dv (.tup ds)) := rfl
theorem tupN_l {ds : List D} : tupNF (.lst ds) = .ok (dv (.tupN ds)) := rfl
theorem asBl_bl {b : Bool} : asBl (.bl b) = .ok b := rfl
theorem asDk_dk {kvs : Kd} : asDk (.dk kvs) = .ok kvs := rfl
theorem keyD_s {s : Str} : keyD (.str s) = some (.inr s) := rfl
theorem keyD_i {n : Int} : keyD (.int n) = some (.inl n) := rfl
theorem ofO_s {α : Type} {a : α} : R.ofO (some a) = .ok a := rfl
theorem pl_dv {d : D} : (dv d).pl = .ok d := rfl
theorem pl_d {d : D} : (RV.sv (.fv (.d d))).pl = .ok d := rfl
theorem dget_s {kvs : Kd} {s : Str} : dgetF (.dk kvs) (.str s) = (R.ofO (valD kvs (.inr s))).bind fun d => .ok (dv d) := rfl
theorem dget_i {kvs : Kd} {n : Int} : dgetF (.dk kvs) (.int n) = (R.ofO (valD kvs (.inl n))).bind fun d => .ok (dv d) := rfl
theorem dget1_s {kvs : Kd} {s : Str} : dget1F kvs (.str s) = .ok (dv ((valD kvs (.inr s)).getD .non)) := rfl
theorem dget1_i {kvs : Kd} {n : Int} : dget1F kvs (.int n) = .ok (dv ((valD kvs (.inl n)).getD .non)) := rfl
theorem dget2_s {kvs : Kd} {s : Str} {x : D} : dget2F kvs (.str s) x = .ok (dv ((valD kvs (.inr s)).getD x)) := rfl
theorem dget2_i {kvs : Kd} {n : Int} {x : D} : dget2F kvs (.int n) x = .ok (dv ((valD kvs (.inl n)).getD x)) := rfl
theorem din_s {neg : Bool} {kvs : Kd} {s : Str} : dinF neg (.str s) (.dk kvs) = .ok (dv (.bl (if neg then !(valD kvs (.inr s)).isSome else (valD kvs (.inr s)).isSome))) := rfl
theorem din_i {neg : Bool} {kvs : Kd} {n : Int} : dinF neg (.int n) (.dk kvs) = .ok (dv (.bl (if neg then !(valD kvs (.inl n)).isSome else (valD kvs (.inl n)).isSome))) := rfl
theorem kdI_s {neg : Bool} {kvs : Kc} {z : Str} : kdIF neg kvs (.str z) = .ok (dv (.bl (if neg then !(kvs.lookup z).isSome else (kvs.lookup z).isSome))) := rfl
theorem toS_nx {c : Nat} {ρ : En} : (SR.nx ρ).toS c = (getO c ρ).bind fun fs => .ok (.non, fs) := rfl
theorem toS_rt {c : Nat} {ρ : En} {x : D} : (SR.rt (.sv (.fv (.d x))) ρ).toS c = (getO c ρ).bind fun fs => .ok (x, fs) := rfl
theorem toS_rtd {c : Nat} {ρ : En} {x : D} : (SR.rt (dv x) ρ).toS c = (getO c ρ).bind fun fs => .ok (x, fs) := rfl
theorem toS_err {c : Nat} {ρ : En} {x : Nat} {f : Option (Str × D)} : (SR.err x f ρ).toS c = .err x f := rfl
theorem toS_ite {k : Nat} {c : Prop} [Decidable c] {a b : SR} : (if c then a else b).toS k = if c then a.toS k else b.toS k := by split <;> rfl
theorem sx_ite {α β : Type} {c : Prop} [Decidable c] {a b : R α} {k : α → SX β} : (if c then a else b).sx ρ k = if c then a.sx ρ k else b.sx ρ k := by split <;> rfl
theorem s_ite {α : Type} {c : Prop} [Decidable c] {a b : SX α} {k : α → En → SR} : (if c then a else b).s k = if c then a.s k else b.s k := by split <;> rfl
theorem b_ite {α β : Type} {c : Prop} [Decidable c] {a b : SX α} {k : α → En → SX β} : (if c then a else b).b k = if c then a.b k else b.b k := by split <;> rfl
end
theorem fvR_dk {kvs : Kd} : fvR (some (.dk kvs)) = .ok (.vw (.dk kvs)) := rfl
theorem dat_dk {kvs : Kd} : (FV.dk kvs).dat = .dk kvs := rfl
end Ci
end

section
set_option Elab.async false
set_option linter.all false
set_option maxRecDepth 100000
set_option maxHeartbeats 4000000
/-! ## tracks: what layouts, drawn rows and metres are, without Python -/
namespace Lw
open PySem PySem.Spec PyProof.Rows L2 Ci
open Evl (Ex ex_t ex_l sq_of st_of)
theorem atI_nat {α : Type} {xs : List α} {j : Nat} {x : α} (h : xs[((j : Nat) : Int).toNat]? = some x) : atI xs (j : Int) = some x := by
  have hj : j < xs.length := by
    rw [Int.toNat_natCast] at h
    exact (List.getElem?_eq_some_iff.mp h).1
  rw [at_nat hj]
  rw [Int.toNat_natCast] at h
  exact h
abbrev Sg := Str × Int × Int
def encS (s : Sg) : D := .tup [.str s.1, .int s.2.1, .int s.2.2]
def kinds : List Str := ["coast", "lift", "brake"]
def kindOk (s : Str) : Bool := kinds.any fun z => z == s
def rngOk (s : Sg) : Bool := !(!(decide (1 ≤ s.2.1) && decide (s.2.1 ≤ 500)) || decide ((if s.2.2 < 0 then -s.2.2 else s.2.2) > 100))
def segOk (s : Sg) : Bool := kindOk s.1 && rngOk s
def segsOk (l : List Sg) : Bool := l.all segOk
theorem segOk_bd {s : Sg} (h : segOk s = true) : kindOk s.1 = true ∧ 1 ≤ s.2.1 ∧ s.2.1 ≤ 500 ∧ -100 ≤ s.2.2 ∧ s.2.2 ≤ 100 := by
  unfold segOk rngOk at h
  simp only [Bool.and_eq_true, Bool.not_eq_true', Bool.or_eq_false_iff, Bool.not_eq_false', decide_eq_true_eq, decide_eq_false_iff_not] at h
  obtain ⟨h1, ⟨h2, h3⟩, h4⟩ := h
  refine ⟨h1, h2, h3, ?_, ?_⟩
  all_goals
    split at h4 <;> omega
def isBr (s : Sg) : Bool := s.1 == "brake"
def nBr (l : List Sg) : Nat := (l.filter isBr).length
def lastK (l : List Sg) : Str := (l.getLast?.map fun s => s.1).getD "brake"
def tot (l : List Sg) : Int := (l.map fun s => s.2.1).sum
def clo (l : List Sg) : Int := (l.map fun s => s.2.1 * s.2.2).sum
def roundOk (l : List Sg) : Bool := !(!(decide (2 ≤ ((nBr l : Nat) : Int)) && decide (((nBr l : Nat) : Int) ≤ 12)) || !(lastK l == "brake")) && (!decide (tot l > 4000) && decide (clo l = 0))
/-- what a layout keeps -/
structure Pl where
  ms : List Sg
  hs : List Int
  bs : List Int
  br : List Int
  h : Int
def pl0 : Pl := ⟨[], [], [0], [], 0⟩
def inn (k : Str) (sl b : Int) : Nat → Pl → Pl
  | 0, p => p
  | n + 1, p => { inn k sl b n p with ms := (inn k sl b n p).ms ++ [(k, sl, b)], hs := (inn k sl b n p).hs ++ [(inn k sl b n p).h], h := (inn k sl b n p).h + sl }
def openB (s : Sg) (p : Pl) : Pl := if isBr s then { p with br := p.br ++ [(p.ms.length : Int)] } else p
def shutB (s : Sg) (p : Pl) : Pl := if isBr s then { p with bs := p.bs ++ [(p.ms.length : Int)] } else p
def pstep (p : Pl) (s : Sg) : Pl := shutB s (inn s.1 s.2.2 (p.br.length : Int) s.2.1.toNat (openB s p))
def pls (l : List Sg) : Pl := l.foldl pstep pl0
theorem pls_app (l : List Sg) (s : Sg) : pls (l ++ [s]) = pstep (pls l) s := by
  unfold pls
  rw [List.foldl_append]
  rfl
theorem inn_br {k : Str} {sl b : Int} {p : Pl} : ∀ n, (inn k sl b n p).br = p.br ∧ (inn k sl b n p).bs = p.bs ∧ (inn k sl b n p).ms.length = p.ms.length + n ∧ (inn k sl b n p).hs.length = p.hs.length + n
  | 0 => ⟨rfl, rfl, rfl, rfl⟩
  | n + 1 => by
    obtain ⟨h1, h2, h3, h4⟩ := inn_br (k := k) (sl := sl) (b := b) (p := p) n
    refine ⟨h1, h2, ?_, ?_⟩
    · show ((inn k sl b n p).ms ++ _).length = _
      rw [List.length_append, h3, List.length_singleton]
      omega
    · show ((inn k sl b n p).hs ++ _).length = _
      rw [List.length_append, h4, List.length_singleton]
      omega
theorem openB_f (s : Sg) (p : Pl) : (openB s p).ms = p.ms ∧ (openB s p).hs = p.hs ∧ (openB s p).bs = p.bs ∧ (openB s p).h = p.h ∧ (openB s p).br.length ≤ p.br.length + 1 := by
  unfold openB
  split
  · refine ⟨rfl, rfl, rfl, rfl, ?_⟩
    show (p.br ++ [_]).length ≤ _
    rw [List.length_append]
    exact Nat.le_refl _
  · exact ⟨rfl, rfl, rfl, rfl, Nat.le_succ _⟩
theorem shutB_f (s : Sg) (p : Pl) : (shutB s p).ms = p.ms ∧ (shutB s p).hs = p.hs ∧ (shutB s p).br = p.br ∧ (shutB s p).h = p.h ∧ (shutB s p).bs.length ≤ p.bs.length + 1 := by
  unfold shutB
  split
  · refine ⟨rfl, rfl, rfl, rfl, ?_⟩
    show (p.bs ++ [_]).length ≤ _
    rw [List.length_append]
    exact Nat.le_refl _
  · exact ⟨rfl, rfl, rfl, rfl, Nat.le_succ _⟩
theorem pstep_len (p : Pl) (s : Sg) : (pstep p s).ms.length = p.ms.length + s.2.1.toNat ∧ (pstep p s).hs.length = p.hs.length + s.2.1.toNat ∧ (pstep p s).br.length ≤ p.br.length + 1 ∧ (pstep p s).bs.length ≤ p.bs.length + 1 := by
  obtain ⟨a1, a2, a3, a4, a5⟩ := openB_f s p
  obtain ⟨b1, b2, b3, b4⟩ := inn_br (k := s.1) (sl := s.2.2) (b := (p.br.length : Int)) (p := openB s p) s.2.1.toNat
  obtain ⟨c1, c2, c3, c4, c5⟩ := shutB_f s (inn s.1 s.2.2 (p.br.length : Int) s.2.1.toNat (openB s p))
  unfold pstep
  rw [c1, c2, c3]
  rw [b2] at c5
  rw [b1, b3, b4, a1, a2]
  rw [a3] at c5
  exact ⟨rfl, rfl, a5, c5⟩
def mlen (l : List Sg) : Nat := (l.map fun s => s.2.1.toNat).sum
theorem pls_len (l : List Sg) : (pls l).ms.length = mlen l ∧ (pls l).hs.length = mlen l ∧ (pls l).br.length ≤ l.length ∧ (pls l).bs.length ≤ l.length + 1 := by
  have key : ∀ (l : List Sg) (p : Pl), (l.foldl pstep p).ms.length = p.ms.length + mlen l ∧ (l.foldl pstep p).hs.length = p.hs.length + mlen l ∧ (l.foldl pstep p).br.length ≤ p.br.length + l.length ∧ (l.foldl pstep p).bs.length ≤ p.bs.length + l.length := by
    intro l
    induction l with
    | nil => intro p; exact ⟨rfl, rfl, Nat.le_refl _, Nat.le_refl _⟩
    | cons s r ih =>
      intro p
      obtain ⟨h1, h2, h3, h4⟩ := ih (pstep p s)
      obtain ⟨g1, g2, g3, g4⟩ := pstep_len p s
      have e : mlen (s :: r) = s.2.1.toNat + mlen r := by unfold mlen; rw [List.map_cons, List.sum_cons]
      rw [List.foldl_cons, h1, h2, e, List.length_cons]
      omega
  obtain ⟨h1, h2, h3, h4⟩ := key l pl0
  refine ⟨by rw [show pls l = l.foldl pstep pl0 from rfl, h1]; show 0 + _ = _; omega, by rw [show pls l = l.foldl pstep pl0 from rfl, h2]; show 0 + _ = _; omega, ?_, ?_⟩
  · have : (pls l).br.length ≤ 0 + l.length := h3
    omega
  · have : (pls l).bs.length ≤ 1 + l.length := h4
    omega
theorem mlen_tot : ∀ {l : List Sg}, segsOk l = true → ((mlen l : Nat) : Int) = tot l ∧ l.length ≤ mlen l
  | [], _ => ⟨rfl, Nat.le_refl _⟩
  | s :: r, h => by
    unfold segsOk at h
    rw [List.all_cons, Bool.and_eq_true] at h
    obtain ⟨h1, h2⟩ := mlen_tot (l := r) h.2
    have b := segOk_bd h.1
    have e : mlen (s :: r) = s.2.1.toNat + mlen r := by unfold mlen; rw [List.map_cons, List.sum_cons]
    have e2 : tot (s :: r) = s.2.1 + tot r := by unfold tot; rw [List.map_cons, List.sum_cons]
    rw [e, e2, List.length_cons]
    omega
/-- what a layout is worth -/
def loF (l : List Sg) : List (Str × D) :=
  [("segments", .tup (l.map encS)), ("_metres", .lst ((pls l).ms.map encS)), ("_heights", .lst ((pls l).hs.map D.int)), ("_begins", .lst ((pls l).bs.map D.int)), ("_brakes", .lst ((pls l).br.map D.int))]
def nMet (l : List Sg) : Nat := (pls l).ms.length
def nBlk (l : List Sg) : Nat := (pls l).br.length
def loOk (l : List Sg) : Bool := segsOk l && roundOk l
theorem pls_bs (l : List Sg) : (pls l).bs.length = (pls l).br.length + 1 := by
  have key : ∀ (l : List Sg) (p : Pl), p.bs.length = p.br.length + 1 → (l.foldl pstep p).bs.length = (l.foldl pstep p).br.length + 1 := by
    intro l
    induction l with
    | nil => intro p h; exact h
    | cons s r ih =>
      intro p h
      rw [List.foldl_cons]
      refine ih _ ?_
      unfold pstep
      obtain ⟨b1, b2, _, _⟩ := inn_br (k := s.1) (sl := s.2.2) (b := (p.br.length : Int)) (p := openB s p) s.2.1.toNat
      unfold shutB
      cases c : isBr s with
      | true =>
        rw [if_pos rfl]
        show (_ ++ [_]).length = (inn _ _ _ _ _).br.length + 1
        rw [List.length_append, b1, b2]
        unfold openB
        rw [if_pos c]
        show p.bs.length + 1 = (p.br ++ [_]).length + 1
        rw [List.length_append, h]
        rfl
      | false =>
        rw [if_neg Bool.false_ne_true, b1, b2]
        unfold openB
        rw [if_neg (by rw [c]; exact Bool.false_ne_true)]
        exact h
  exact key l pl0 rfl
theorem pls_hs (l : List Sg) : (pls l).hs.length = nMet l := by
  obtain ⟨h1, h2, _, _⟩ := pls_len l
  exact h2.trans h1.symm
def gt (dr : List Int) (i : Nat) : Int := dr.getD i 0
def cnt (dr : List Int) : Nat := (2 + gt dr 0 % 2).toNat
/-- what the drawn rows keep: c brakes, at most m metres, at most k segments -/
structure Gd (c m k : Nat) (r : List Sg) : Prop where
  ok : segsOk r = true
  br : nBr r = c
  ml : mlen r ≤ m
  ln : r.length ≤ k
theorem mlen_app (a b : List Sg) : mlen (a ++ b) = mlen a + mlen b := by
  unfold mlen
  rw [List.map_append, List.sum_append_nat]
theorem mlen_one (s : Sg) : mlen [s] = s.2.1.toNat := by
  unfold mlen
  rw [List.map_singleton, List.sum_singleton]
theorem nBr_app (a b : List Sg) : nBr (a ++ b) = nBr a + nBr b := by
  unfold nBr
  rw [List.filter_append, List.length_append]
theorem segsOk_app (a b : List Sg) : segsOk (a ++ b) = (segsOk a && segsOk b) := List.all_append ..
theorem Gd.app {c m k c' m' : Nat} {r : List Sg} {s : Sg} (g : Gd c m k r) (h : segOk s = true) (h1 : nBr [s] = c') (h2 : s.2.1 ≤ (m' : Int)) : Gd (c + c') (m + m') (k + 1) (r ++ [s]) := by
  refine ⟨?_, ?_, ?_, ?_⟩
  · rw [segsOk_app, g.ok]
    show (true && (segOk s && true)) = true
    rw [h]
    rfl
  · rw [nBr_app, g.br, h1]
  · have := g.ml
    rw [mlen_app, mlen_one]
    omega
  · have := g.ln
    rw [List.length_append, List.length_singleton]
    omega
theorem lastK_app {a b : List Sg} (h : b ≠ []) : lastK (a ++ b) = lastK b := by
  unfold lastK
  rw [List.getLast?_append, List.getLast?_eq_some_getLast h]
  rfl
/-- what every drawn layout keeps -/
structure LoG (l : List Sg) : Prop where
  ok : segsOk l = true
  b2 : 2 ≤ nBr l
  b3 : nBr l ≤ 3
  ml : mlen l ≤ 299
  ln : l.length ≤ 50
  la : lastK l = "brake"
  ne : l ≠ []
  cl : clo l = 0
theorem LoG.lo {l : List Sg} (g : LoG l) : loOk l = true := by
  have h1 := g.b2
  have h2 := g.b3
  have h3 := (mlen_tot g.ok).1
  have h4 := g.ml
  unfold loOk roundOk
  rw [g.ok, g.la, g.cl, decide_eq_true (show 2 ≤ ((nBr l : Nat) : Int) by omega), decide_eq_true (show ((nBr l : Nat) : Int) ≤ 12 by omega), decide_eq_false (show ¬ tot l > 4000 by omega)]
  decide +kernel
/-- the law's own metres -/
def rep (s : Sg) (b : Int) : Nat → List Sg
  | 0 => []
  | n + 1 => rep s b n ++ [(s.1, s.2.2, b)]
theorem inn_rep {k : Str} {sl b : Int} {p : Pl} {ln : Int} : ∀ n, (inn k sl b n p).ms = p.ms ++ rep (k, ln, sl) b n
  | 0 => (List.append_nil _).symm
  | n + 1 => by
    show (inn k sl b n p).ms ++ _ = p.ms ++ (rep (k, ln, sl) b n ++ _)
    rw [inn_rep n, List.append_assoc]
theorem rep_len (s : Sg) (b : Int) : ∀ n, (rep s b n).length = n
  | 0 => rfl
  | n + 1 => by
    show (rep s b n ++ [_]).length = _
    rw [List.length_append, rep_len s b n]
    rfl
/-! ### values of layouts and trains, as the interpreter meets them -/
theorem sg_fold {a : Str} {b c : Int} : D.tup [.str a, .int b, .int c] = encS (a, b, c) := rfl
theorem x_gtup_sg {gs : P .gs} {s : Sg} {ρ : En} : ev (.gtup 3 gs) (encS s) ρ = ev gs [.str s.1, .int s.2.1, .int s.2.2] ρ := rfl
theorem ixSg0 {s : Sg} : B2.fn .ix (encS s) (.int 0) = .ok (dv (.str s.1)) := rfl
theorem ixSg1 {s : Sg} : B2.fn .ix (encS s) (.int 1) = .ok (dv (.int s.2.1)) := rfl
theorem ixSg2 {s : Sg} : B2.fn .ix (encS s) (.int 2) = .ok (dv (.int s.2.2)) := rfl
def loV (l : List Sg) (p : Pl) : List (Str × FV) := [("segments", .d (.tup (l.map encS))), ("_metres", .lst (p.ms.map encS)), ("_heights", .lst (p.hs.map D.int)), ("_begins", .lst (p.bs.map D.int)), ("_brakes", .lst (p.br.map D.int))]
def loD (l : List Sg) : D := .ins 0 (loF l)
theorem lo_fold {l : List Sg} : D.ins 0 (fsD (loV l (pls l))) = loD l := rfl
theorem ms_len {l : List Sg} : (pls l).ms.length = nMet l := rfl
theorem hs_len {l : List Sg} : (pls l).hs.length = nMet l := pls_hs l
theorem br_len {l : List Sg} : (pls l).br.length = nBlk l := rfl
theorem bs_len {l : List Sg} : (pls l).bs.length = nBlk l + 1 := pls_bs l
section
variable {l : List Sg} {f : List D → R RV} {as : R (List D)}
theorem fl_segments : fldO [0] "segments" (some (some (.d (loD l)))) = .ok (dv (.tup (l.map encS))) := by unfold loD loF; simp only [fldO, List.lookup_cons, ofString_beq, String.reduceEq, decide_true, decide_false, List.mem_singleton, if_true]
theorem fl_metres : fldO [0] "_metres" (some (some (.d (loD l)))) = .ok (dv (.lst ((pls l).ms.map encS))) := by unfold loD loF; simp only [fldO, List.lookup_cons, ofString_beq, String.reduceEq, decide_true, decide_false, List.mem_singleton, if_true]
theorem fl_heights : fldO [0] "_heights" (some (some (.d (loD l)))) = .ok (dv (.lst ((pls l).hs.map D.int))) := by unfold loD loF; simp only [fldO, List.lookup_cons, ofString_beq, String.reduceEq, decide_true, decide_false, List.mem_singleton, if_true]
theorem fl_begins : fldO [0] "_begins" (some (some (.d (loD l)))) = .ok (dv (.lst ((pls l).bs.map D.int))) := by unfold loD loF; simp only [fldO, List.lookup_cons, ofString_beq, String.reduceEq, decide_true, decide_false, List.mem_singleton, if_true]
theorem fl_brakes : fldO [0] "_brakes" (some (some (.d (loD l)))) = .ok (dv (.lst ((pls l).br.map D.int))) := by unfold loD loF; simp only [fldO, List.lookup_cons, ofString_beq, String.reduceEq, decide_true, decide_false, List.mem_singleton, if_true]
theorem me_lo (m : Str) (h : (loF l).lookup m = none) : methF 0 m f as (dv (loD l)) = as.bind fun ds => f (loD l :: ds) := by
  show (if 0 = 0 then (match (loF l).lookup m with | none => as.bind fun ds => f (.ins 0 (loF l) :: ds) | some _ => .bad) else .bad) = _
  rw [if_pos rfl, h]
  rfl
theorem me_total : methF 0 "total" f as (dv (loD l)) = as.bind fun ds => f (loD l :: ds) := me_lo _ (by unfold loF; simp only [List.lookup_cons, List.lookup_nil, ofString_beq, String.reduceEq, decide_false])
theorem me_blocks : methF 0 "blocks" f as (dv (loD l)) = as.bind fun ds => f (loD l :: ds) := me_lo _ (by unfold loF; simp only [List.lookup_cons, List.lookup_nil, ofString_beq, String.reduceEq, decide_false])
theorem me_metre : methF 0 "metre" f as (dv (loD l)) = as.bind fun ds => f (loD l :: ds) := me_lo _ (by unfold loF; simp only [List.lookup_cons, List.lookup_nil, ofString_beq, String.reduceEq, decide_false])
theorem me_height : methF 0 "height" f as (dv (loD l)) = as.bind fun ds => f (loD l :: ds) := me_lo _ (by unfold loF; simp only [List.lookup_cons, List.lookup_nil, ofString_beq, String.reduceEq, decide_false])
theorem me_begin : methF 0 "begin" f as (dv (loD l)) = as.bind fun ds => f (loD l :: ds) := me_lo _ (by unfold loF; simp only [List.lookup_cons, List.lookup_nil, ofString_beq, String.reduceEq, decide_false])
theorem me_brake : methF 0 "brake" f as (dv (loD l)) = as.bind fun ds => f (loD l :: ds) := me_lo _ (by unfold loF; simp only [List.lookup_cons, List.lookup_nil, ofString_beq, String.reduceEq, decide_false])
theorem me_end : methF 0 "end" f as (dv (loD l)) = as.bind fun ds => f (loD l :: ds) := me_lo _ (by unfold loF; simp only [List.lookup_cons, List.lookup_nil, ofString_beq, String.reduceEq, decide_false])
theorem me_cm : methF 0 "_check_metre" f as (dv (loD l)) = as.bind fun ds => f (loD l :: ds) := me_lo _ (by unfold loF; simp only [List.lookup_cons, List.lookup_nil, ofString_beq, String.reduceEq, decide_false])
theorem me_cb : methF 0 "_check_block" f as (dv (loD l)) = as.bind fun ds => f (loD l :: ds) := me_lo _ (by unfold loF; simp only [List.lookup_cons, List.lookup_nil, ofString_beq, String.reduceEq, decide_false])
end
/-- trains -/
structure Tr where
  len : Int
  f0 : Int
  f1 : Int
  b0 : Int
  b1 : Int
  li : Int
  dr : Int
def tnV (t : Tr) : List (Str × FV) := [("length", .d (.int t.len)), ("friction", .d (.tup [.int t.f0, .int t.f1])), ("brake", .d (.tup [.int t.b0, .int t.b1])), ("lift", .d (.int t.li)), ("drive", .d (.int t.dr))]
def tnD (t : Tr) : D := .ins 1 [("length", .int t.len), ("friction", .tup [.int t.f0, .int t.f1]), ("brake", .tup [.int t.b0, .int t.b1]), ("lift", .int t.li), ("drive", .int t.dr)]
theorem tn_fold {t : Tr} : D.ins 1 (fsD (tnV t)) = tnD t := rfl
section
variable {t : Tr}
theorem ft_length : fldO [1] "length" (some (some (.d (tnD t)))) = .ok (dv (.int t.len)) := by unfold tnD; simp only [fldO, List.lookup_cons, ofString_beq, String.reduceEq, decide_true, decide_false, List.mem_singleton, if_true]
theorem ft_friction : fldO [1] "friction" (some (some (.d (tnD t)))) = .ok (dv (.tup [.int t.f0, .int t.f1])) := by unfold tnD; simp only [fldO, List.lookup_cons, ofString_beq, String.reduceEq, decide_true, decide_false, List.mem_singleton, if_true]
theorem ft_brake : fldO [1] "brake" (some (some (.d (tnD t)))) = .ok (dv (.tup [.int t.b0, .int t.b1])) := by unfold tnD; simp only [fldO, List.lookup_cons, ofString_beq, String.reduceEq, decide_true, decide_false, List.mem_singleton, if_true]
theorem ft_lift : fldO [1] "lift" (some (some (.d (tnD t)))) = .ok (dv (.int t.li)) := by unfold tnD; simp only [fldO, List.lookup_cons, ofString_beq, String.reduceEq, decide_true, decide_false, List.mem_singleton, if_true]
theorem ft_drive : fldO [1] "drive" (some (some (.d (tnD t)))) = .ok (dv (.int t.dr)) := by unfold tnD; simp only [fldO, List.lookup_cons, ofString_beq, String.reduceEq, decide_true, decide_false, List.mem_singleton, if_true]
end
end Lw
end

section
set_option Elab.async false
set_option linter.all false
set_option maxRecDepth 100000
set_option maxHeartbeats 4000000
/-! ## the geometry of a layout -/
namespace Lw
open PySem PySem.Spec PyProof.Rows L2 Ci
open Evl (Ex ex_t ex_l sq_of st_of)
section
variable {α : Type} {xs ys : List α} {i : Nat} {d : α}
theorem gd_l (h : i < xs.length) : (xs ++ ys).getD i d = xs.getD i d := by
  rw [List.getD_eq_getElem?_getD, List.getD_eq_getElem?_getD, List.getElem?_append_left h]
theorem gd_r (h : xs.length ≤ i) : (xs ++ ys).getD i d = ys.getD (i - xs.length) d := by
  rw [List.getD_eq_getElem?_getD, List.getD_eq_getElem?_getD, List.getElem?_append_right h]
theorem gd_last {x : α} : (xs ++ [x]).getD xs.length d = x := by
  rw [gd_r (Nat.le_refl _), Nat.sub_self]
  rfl
end
theorem at0_nat {α : Type} [Inhabited α] {xs : List α} {k : Nat} : at0 xs (k : Int) = xs.getD k default := by
  unfold at0
  rw [Int.toNat_natCast]
def slope (ms : List Sg) (k : Nat) : Int := (ms.getD k default).2.1
def psum (ms : List Sg) : Nat → Int
  | 0 => 0
  | k + 1 => psum ms k + slope ms k
theorem psum_app {ms r : List Sg} : ∀ {k : Nat}, k ≤ ms.length → psum (ms ++ r) k = psum ms k
  | 0, _ => rfl
  | k + 1, h => by
    show psum (ms ++ r) k + slope (ms ++ r) k = psum ms k + slope ms k
    rw [psum_app (Nat.le_of_succ_le h)]
    unfold slope
    rw [gd_l (Nat.lt_of_succ_le h)]
structure PI (p : Pl) : Prop where
  hl : p.hs.length = p.ms.length
  hh : ∀ k, k < p.ms.length → p.hs.getD k 0 = psum p.ms k
  ht : p.h = psum p.ms p.ms.length
  bl : p.bs.length = p.br.length + 1
  b0 : p.bs.getD 0 0 = 0
  bb : ∀ b, b < p.br.length → p.bs.getD b 0 ≤ p.br.getD b 0 ∧ p.br.getD b 0 < p.bs.getD (b + 1) 0
  bn : p.bs.getD p.br.length 0 ≤ (p.ms.length : Int)
  mb : ∀ k, k < p.ms.length → ∀ b, b < p.br.length → p.bs.getD b 0 ≤ (k : Int) → (k : Int) < p.bs.getD (b + 1) 0 → (p.ms.getD k default).2.2 = (b : Int) ∧ ((p.ms.getD k default).1 = ("brake" : Str) ↔ p.br.getD b 0 ≤ (k : Int))
  mo : ∀ k, k < p.ms.length → p.bs.getD p.br.length 0 ≤ (k : Int) → (p.ms.getD k default).2.2 = (p.br.length : Int) ∧ (p.ms.getD k default).1 ≠ ("brake" : Str)
theorem rep_get {s : Sg} {b : Int} : ∀ {n k : Nat}, k < n → (rep s b n).getD k default = (s.1, s.2.2, b)
  | 0, k, h => absurd h (Nat.not_lt_zero _)
  | n + 1, k, h => by
    show (rep s b n ++ [(s.1, s.2.2, b)]).getD k default = _
    by_cases c : k < n
    · rw [gd_l (by rw [rep_len]; exact c), rep_get c]
    · have e : k = (rep s b n).length := by rw [rep_len]; omega
      rw [e, gd_last]
theorem inn_h {kd : Str} {sl b : Int} {p : Pl} (hl : p.hs.length = p.ms.length) (hh : ∀ k, k < p.ms.length → p.hs.getD k 0 = psum p.ms k) (ht : p.h = psum p.ms p.ms.length) : ∀ n, (inn kd sl b n p).hs.length = (inn kd sl b n p).ms.length ∧ (∀ k, k < (inn kd sl b n p).ms.length → (inn kd sl b n p).hs.getD k 0 = psum (inn kd sl b n p).ms k) ∧ (inn kd sl b n p).h = psum (inn kd sl b n p).ms (inn kd sl b n p).ms.length
  | 0 => ⟨hl, hh, ht⟩
  | n + 1 => by
    obtain ⟨h1, h2, h3⟩ := inn_h (kd := kd) (sl := sl) (b := b) hl hh ht n
    have e : inn kd sl b (n + 1) p = { inn kd sl b n p with ms := (inn kd sl b n p).ms ++ [(kd, sl, b)], hs := (inn kd sl b n p).hs ++ [(inn kd sl b n p).h], h := (inn kd sl b n p).h + sl } := rfl
    rw [e]
    generalize inn kd sl b n p = w at h1 h2 h3
    refine ⟨?_, fun k hk => ?_, ?_⟩
    · show (w.hs ++ [w.h]).length = (w.ms ++ [(kd, sl, b)]).length
      rw [List.length_append, List.length_append, h1, List.length_singleton, List.length_singleton]
    · have hk : k < (w.ms ++ [(kd, sl, b)]).length := hk
      rw [List.length_append, List.length_singleton] at hk
      show (w.hs ++ [w.h]).getD k 0 = psum (w.ms ++ [(kd, sl, b)]) k
      rw [psum_app (by omega)]
      by_cases c : k < w.ms.length
      · rw [gd_l (by omega), h2 k c]
      · have : k = w.hs.length := by omega
        rw [this, gd_last, h1, h3]
    · show w.h + sl = psum (w.ms ++ [(kd, sl, b)]) (w.ms ++ [(kd, sl, b)]).length
      rw [List.length_append, List.length_singleton]
      show _ = psum _ w.ms.length + slope _ w.ms.length
      rw [psum_app (Nat.le_refl _), ← h3]
      unfold slope
      rw [gd_last]
theorem PI.step {p : Pl} (q : PI p) {s : Sg} (hs : 1 ≤ s.2.1) : PI (pstep p s) := by
  have ep : pstep p s = shutB s (inn s.1 s.2.2 (p.br.length : Int) s.2.1.toNat (openB s p)) := rfl
  obtain ⟨o1, o2, o3, o4, _⟩ := openB_f s p
  obtain ⟨b1, b2, b3, b4⟩ := inn_br (k := s.1) (sl := s.2.2) (b := (p.br.length : Int)) (p := openB s p) s.2.1.toNat
  have er := inn_rep (k := s.1) (sl := s.2.2) (b := (p.br.length : Int)) (p := openB s p) (ln := s.2.1) s.2.1.toNat
  obtain ⟨i1, i2, i3⟩ := inn_h (kd := s.1) (sl := s.2.2) (b := (p.br.length : Int)) (p := openB s p) (by rw [o1, o2]; exact q.hl) (by rw [o1, o2]; exact q.hh) (by rw [o1, o4]; exact q.ht) s.2.1.toNat
  have hn : 1 ≤ s.2.1.toNat := by omega
  rw [ep]
  generalize inn s.1 s.2.2 (p.br.length : Int) s.2.1.toNat (openB s p) = w at *
  rw [o1] at er b3
  have gl : ∀ k, k < p.ms.length → w.ms.getD k default = p.ms.getD k default := fun k hk => by rw [er, gd_l hk]
  have gr : ∀ k, p.ms.length ≤ k → k < w.ms.length → w.ms.getD k default = (s.1, s.2.2, (p.br.length : Int)) := fun k h1 h2 => by
    rw [er, gd_r h1, rep_get (by omega)]
  have bn := q.bn
  have bl := q.bl
  cases hb : isBr s with
  | false =>
    have eo : openB s p = p := if_neg (by rw [hb]; exact Bool.false_ne_true)
    have es : shutB s w = w := if_neg (by rw [hb]; exact Bool.false_ne_true)
    have hk : s.1 ≠ ("brake" : Str) := of_decide_eq_false hb
    rw [eo] at b1 b2
    rw [es]
    refine ⟨i1, i2, i3, by rw [b1, b2]; exact bl, by rw [b2]; exact q.b0, by rw [b1, b2]; exact q.bb, by rw [b1, b2]; omega, ?_, ?_⟩
    · rw [b1, b2]
      intro k h1 b h2 h3 h4
      have h5 : k < p.ms.length := by
        -- the blocks that are closed end before the last begin
        have mono : ∀ j, b + 1 + j ≤ p.br.length → p.bs.getD (b + 1) 0 ≤ p.bs.getD (b + 1 + j) 0 := fun j => by
          induction j with
          | zero => exact fun _ => Int.le_refl _
          | succ j ih =>
            intro hj
            have := q.bb (b + 1 + j) (by omega)
            have := ih (by omega)
            show _ ≤ p.bs.getD (b + 1 + j + 1) 0
            omega
        have := mono (p.br.length - (b + 1)) (by omega)
        rw [show b + 1 + (p.br.length - (b + 1)) = p.br.length by omega] at this
        omega
      rw [gl k h5]
      exact q.mb k h5 b h2 h3 h4
    · rw [b1, b2]
      intro k h1 h2
      by_cases c : k < p.ms.length
      · rw [gl k c]
        exact q.mo k c h2
      · rw [gr k (by omega) h1]
        exact ⟨rfl, hk⟩
  | true =>
    have eo : openB s p = { p with br := p.br ++ [(p.ms.length : Int)] } := if_pos hb
    have es : shutB s w = { w with bs := w.bs ++ [(w.ms.length : Int)] } := if_pos hb
    have hk : s.1 = ("brake" : Str) := of_decide_eq_true hb
    rw [eo] at b1 b2
    have b1 : w.br = p.br ++ [(p.ms.length : Int)] := b1
    have b2 : w.bs = p.bs := b2
    rw [es, b2]
    have blr : w.br.length = p.br.length + 1 := by rw [b1, List.length_append, List.length_singleton]
    refine ⟨i1, i2, i3, ?_, ?_, ?_, ?_, ?_, ?_⟩
    · show (p.bs ++ [_]).length = w.br.length + 1
      rw [List.length_append, List.length_singleton, blr, bl]
    · show (p.bs ++ [_]).getD 0 0 = 0
      rw [gd_l (by omega)]
      exact q.b0
    · intro b hb
      have hb : b < w.br.length := hb
      show (p.bs ++ [(w.ms.length : Int)]).getD b 0 ≤ w.br.getD b 0 ∧ w.br.getD b 0 < (p.bs ++ [(w.ms.length : Int)]).getD (b + 1) 0
      rw [gd_l (by omega), b1]
      by_cases c : b < p.br.length
      · rw [gd_l c, gd_l (by omega)]
        exact q.bb b c
      · have e : b = p.br.length := by omega
        rw [e, gd_last, ← bl, gd_last]
        omega
    · show (p.bs ++ [(w.ms.length : Int)]).getD w.br.length 0 ≤ (w.ms.length : Int)
      rw [blr, ← bl, gd_last]
      exact Int.le_refl _
    · intro k h1 b h2 h3 h4
      have h1 : k < w.ms.length := h1
      have h2 : b < w.br.length := h2
      have h3 : (p.bs ++ [(w.ms.length : Int)]).getD b 0 ≤ (k : Int) := h3
      have h4 : (k : Int) < (p.bs ++ [(w.ms.length : Int)]).getD (b + 1) 0 := h4
      show (w.ms.getD k default).2.2 = (b : Int) ∧ ((w.ms.getD k default).1 = ("brake" : Str) ↔ w.br.getD b 0 ≤ (k : Int))
      rw [gd_l (by omega)] at h3
      rw [b1]
      by_cases c : b < p.br.length
      · rw [gd_l (by omega)] at h4
        have h5 : k < p.ms.length := by
          have mono : ∀ j, b + 1 + j ≤ p.br.length → p.bs.getD (b + 1) 0 ≤ p.bs.getD (b + 1 + j) 0 := fun j => by
            induction j with
            | zero => exact fun _ => Int.le_refl _
            | succ j ih =>
              intro hj
              have := q.bb (b + 1 + j) (by omega)
              have := ih (by omega)
              show _ ≤ p.bs.getD (b + 1 + j + 1) 0
              omega
          have := mono (p.br.length - (b + 1)) (by omega)
          rw [show b + 1 + (p.br.length - (b + 1)) = p.br.length by omega] at this
          omega
        rw [gl k h5, gd_l c]
        exact q.mb k h5 b c h3 h4
      · have e : b = p.br.length := by omega
        subst e
        rw [gd_last]
        by_cases c2 : k < p.ms.length
        · rw [gl k c2]
          have := q.mo k c2 h3
          refine ⟨this.1, fun z => absurd z this.2, fun z => ?_⟩
          omega
        · rw [gr k (by omega) h1]
          refine ⟨rfl, fun _ => ?_, fun _ => hk⟩
          omega
    · intro k h1 h2
      have h1 : k < w.ms.length := h1
      have h2 : (p.bs ++ [(w.ms.length : Int)]).getD w.br.length 0 ≤ (k : Int) := h2
      rw [blr, ← bl, gd_last] at h2
      omega
theorem PI.nil : PI pl0 := ⟨rfl, fun k h => absurd h (Nat.not_lt_zero _), rfl, rfl, rfl, fun b h => absurd h (Nat.not_lt_zero _), Int.le_refl _, fun k h => absurd h (Nat.not_lt_zero _), fun k h => absurd h (Nat.not_lt_zero _)⟩
theorem pls_PI {l : List Sg} (h : segsOk l = true) : PI (pls l) := by
  have key : ∀ (l : List Sg) (p : Pl), PI p → (∀ s ∈ l, 1 ≤ s.2.1) → PI (l.foldl pstep p) := by
    intro l
    induction l with
    | nil => exact fun p q _ => q
    | cons s r ih => exact fun p q hs => ih _ (q.step (hs s List.mem_cons_self)) fun x m => hs x (List.mem_cons_of_mem _ m)
  exact key l pl0 PI.nil fun s m => (segOk_bd (List.all_eq_true.mp h s m)).2.1
/-- a layout's places, as whole numbers -/
structure Geo (l : List Sg) : Prop where
  nb : 1 ≤ nBlk l
  b0 : at0 (pls l).bs 0 = 0
  be : at0 (pls l).bs (nBlk l : Nat) = (nMet l : Nat)
  bb : ∀ b : Nat, b < nBlk l → 0 ≤ at0 (pls l).bs b ∧ at0 (pls l).bs b ≤ at0 (pls l).br b ∧ at0 (pls l).br b < at0 (pls l).bs (b + 1) ∧ at0 (pls l).bs (b + 1) ≤ (nMet l : Nat)
  mb : ∀ k : Nat, k < nMet l → ∀ b : Nat, b < nBlk l → at0 (pls l).bs b ≤ (k : Int) → (k : Int) < at0 (pls l).bs (b + 1) → (at0 (pls l).ms k).2.2 = (b : Int) ∧ ((at0 (pls l).ms k).1 = ("brake" : Str) ↔ at0 (pls l).br b ≤ (k : Int))
  cv : ∀ k : Nat, k < nMet l → ∃ b : Nat, b < nBlk l ∧ at0 (pls l).bs b ≤ (k : Int) ∧ (k : Int) < at0 (pls l).bs (b + 1)
  hp : ∀ k : Nat, k < nMet l → at0 (pls l).hs k = psum (pls l).ms k
theorem geo {l : List Sg} (g : LoG l) : Geo l := by
  have q := pls_PI g.ok
  have ne := g.ne
  obtain ⟨r, s, e⟩ : ∃ r s, l = r ++ [s] := ⟨l.dropLast, l.getLast ne, (List.dropLast_concat_getLast ne).symm⟩
  have hb : isBr s = true := by
    have := g.la
    rw [e, lastK_app (List.cons_ne_nil _ _)] at this
    exact decide_eq_true this
  have cl : (pls l).bs.getD (pls l).br.length 0 = ((pls l).ms.length : Int) ∧ 1 ≤ (pls l).br.length := by
    have q2 := q.bl
    rw [e, pls_app] at q2 ⊢
    have ep : pstep (pls r) s = shutB s (inn s.1 s.2.2 ((pls r).br.length : Int) s.2.1.toNat (openB s (pls r))) := rfl
    have hs2 : ∀ w, shutB s w = { w with bs := w.bs ++ [(w.ms.length : Int)] } := fun w => if_pos hb
    have eo : openB s (pls r) = { pls r with br := (pls r).br ++ [((pls r).ms.length : Int)] } := if_pos hb
    obtain ⟨b1, b2, b3, b4⟩ := inn_br (k := s.1) (sl := s.2.2) (b := ((pls r).br.length : Int)) (p := openB s (pls r)) s.2.1.toNat
    rw [ep, hs2] at q2 ⊢
    generalize inn s.1 s.2.2 ((pls r).br.length : Int) s.2.1.toNat (openB s (pls r)) = w at *
    have q2 : (w.bs ++ [(w.ms.length : Int)]).length = w.br.length + 1 := q2
    rw [List.length_append, List.length_singleton] at q2
    refine ⟨?_, ?_⟩
    · show (w.bs ++ [(w.ms.length : Int)]).getD w.br.length 0 = _
      rw [show w.br.length = w.bs.length by omega, gd_last]
    · show 1 ≤ w.br.length
      rw [b1, eo]
      show 1 ≤ ((pls r).br ++ [_]).length
      rw [List.length_append, List.length_singleton]
      omega
  have nn : ∀ b, b ≤ (pls l).br.length → 0 ≤ (pls l).bs.getD b 0 := fun b => by
    induction b with
    | zero => intro _; rw [q.b0]; exact Int.le_refl _
    | succ b ih =>
      intro hb
      have := ih (by omega)
      have := q.bb b (by omega)
      omega
  have up : ∀ j, j ≤ (pls l).br.length → (pls l).bs.getD ((pls l).br.length - j) 0 ≤ ((pls l).ms.length : Int) := fun j => by
    induction j with
    | zero => intro _; rw [Nat.sub_zero, cl.1]; exact Int.le_refl _
    | succ j ih =>
      intro hj
      have := ih (by omega)
      have := q.bb ((pls l).br.length - (j + 1)) (by omega)
      rw [show (pls l).br.length - (j + 1) + 1 = (pls l).br.length - j by omega] at this
      omega
  have a0 : ∀ {xs : List Int} {k : Nat}, at0 xs (k : Int) = xs.getD k 0 := fun {xs k} => at0_nat
  have a1 : ∀ {xs : List Int} {k : Nat}, at0 xs ((k : Int) + 1) = xs.getD (k + 1) 0 := fun {xs k} => at0_nat (k := k + 1)
  refine ⟨cl.2, (a0 (k := 0)).trans q.b0, a0.trans cl.1, fun b hb => ?_, fun k hk b hb h1 h2 => ?_, fun k hk => ?_, fun k hk => ?_⟩
  · rw [a0, a0, a1]
    have hb : b < (pls l).br.length := hb
    have h1 := q.bb b hb
    have h2 := nn b (by omega)
    have h3 := up ((pls l).br.length - (b + 1)) (by omega)
    rw [show (pls l).br.length - ((pls l).br.length - (b + 1)) = b + 1 by omega] at h3
    exact ⟨h2, h1.1, h1.2, h3⟩
  · rw [a0] at h1
    rw [a1] at h2
    rw [at0_nat, a0]
    exact q.mb k hk b hb h1 h2
  · have hk : k < (pls l).ms.length := hk
    have key : ∀ j, j ≤ (pls l).br.length → (k : Int) < (pls l).bs.getD j 0 → ∃ b, b < j ∧ (pls l).bs.getD b 0 ≤ (k : Int) ∧ (k : Int) < (pls l).bs.getD (b + 1) 0 := fun j => by
      induction j with
      | zero => intro _ h; rw [q.b0] at h; omega
      | succ j ih =>
        intro hj h
        by_cases c : (k : Int) < (pls l).bs.getD j 0
        · obtain ⟨b, h1, h2⟩ := ih (by omega) c
          exact ⟨b, by omega, h2⟩
        · exact ⟨j, Nat.lt_succ_self j, by omega, h⟩
    obtain ⟨b, h1, h2, h3⟩ := key (pls l).br.length (Nat.le_refl _) (by rw [cl.1]; omega)
    refine ⟨b, h1, ?_, ?_⟩
    · rw [a0]; exact h2
    · rw [a1]; exact h3
  · rw [a0]
    exact q.hh k hk
theorem Geo.pos {l : List Sg} (G : Geo l) : 0 < nMet l := by
  have h1 := G.nb
  have := G.bb 0 (by omega)
  omega
theorem Geo.last {l : List Sg} (G : Geo l) : (at0 (pls l).ms ((nMet l : Nat) - 1)).2.2 + 1 = (nBlk l : Nat) := by
  have h1 := G.nb
  have h2 := G.bb (nBlk l - 1) (by omega)
  have h3 := G.be
  have e1 : (((nBlk l - 1 : Nat) : Int) + 1) = (nBlk l : Nat) := by omega
  rw [e1, h3] at h2
  have h4 := G.mb (nMet l - 1) (by have := G.pos; omega) (nBlk l - 1) (by omega) (by omega) (by rw [e1, h3]; have := G.pos; omega)
  have e2 : (((nMet l - 1 : Nat) : Int)) = (nMet l : Nat) - 1 := by have := G.pos; omega
  rw [e2] at h4
  rw [h4.1]
  omega
/-- the numbers of a stretch, picked out of all -/
theorem pick {n lo hi : Nat} {p : Nat → Bool} (h1 : lo ≤ hi) (h2 : hi ≤ n) (hp : ∀ k, k < n → p k = (decide (lo ≤ k) && decide (k < hi))) : (List.range n).filter p = List.range' lo (hi - lo) := by
  have e : List.range n = List.range' 0 lo ++ (List.range' lo (hi - lo) ++ List.range' hi (n - hi)) := by
    rw [List.range_eq_range']
    have s2 := List.range'_append (s := lo) (m := hi - lo) (n := n - hi) (step := 1)
    rw [show lo + 1 * (hi - lo) = hi by omega, show hi - lo + (n - hi) = n - lo by omega] at s2
    rw [s2]
    have s1 := List.range'_append (s := 0) (m := lo) (n := n - lo) (step := 1)
    rw [show 0 + 1 * lo = lo by omega, show lo + (n - lo) = n by omega] at s1
    exact s1.symm
  rw [e, List.filter_append, List.filter_append]
  have f1 : (List.range' 0 lo).filter p = [] := List.filter_eq_nil_iff.mpr fun k m => by
    have := List.mem_range'_1.mp m
    rw [hp k (by omega), decide_eq_false (by omega)]
    exact Bool.false_ne_true
  have f3 : (List.range' hi (n - hi)).filter p = [] := List.filter_eq_nil_iff.mpr fun k m => by
    have := List.mem_range'_1.mp m
    rw [hp k (by omega), decide_eq_false (show ¬ k < hi by omega), Bool.and_false]
    exact Bool.false_ne_true
  have f2 : (List.range' lo (hi - lo)).filter p = List.range' lo (hi - lo) := List.filter_eq_self.mpr fun k m => by
    have := List.mem_range'_1.mp m
    rw [hp k (by omega), decide_eq_true (by omega), decide_eq_true (by omega)]
    rfl
  rw [f1, f2, f3, List.nil_append, List.append_nil]
/-- a block's stretch -/
def bsN (l : List Sg) (b : Nat) : Nat := (at0 (pls l).bs b).toNat
def brN (l : List Sg) (b : Nat) : Nat := (at0 (pls l).br b).toNat
theorem Geo.bsb {l : List Sg} (G : Geo l) {b : Nat} (hb : b < nBlk l) : at0 (pls l).bs b = (bsN l b : Nat) ∧ at0 (pls l).br b = (brN l b : Nat) ∧ at0 (pls l).bs ((b : Int) + 1) = (bsN l (b + 1) : Nat) ∧ bsN l b ≤ brN l b ∧ brN l b < bsN l (b + 1) ∧ bsN l (b + 1) ≤ nMet l := by
  have h := G.bb b hb
  have e : bsN l (b + 1) = (at0 (pls l).bs ((b : Int) + 1)).toNat := rfl
  unfold brN
  rw [e]
  unfold bsN
  omega
/-- the metres of a block -/
theorem Geo.own {l : List Sg} (G : Geo l) {b : Nat} (hb : b < nBlk l) : ((List.range (nMet l)).filter fun k : Nat => decide ((at0 (pls l).ms (k : Int)).2.2 = (b : Int))) = List.range' (bsN l b) (bsN l (b + 1) - bsN l b) := by
  obtain ⟨e1, e2, e3, h1, h2, h3⟩ := G.bsb hb
  refine pick (by omega) h3 fun k hk => ?_
  obtain ⟨c, hc, c1, c2⟩ := G.cv k hk
  have h4 := (G.mb k hk c hc c1 c2).1
  rw [h4]
  obtain ⟨f1, f2, f3, g1, g2, g3⟩ := G.bsb hc
  rw [f1] at c1
  rw [f3] at c2
  by_cases z : c = b
  · subst z
    rw [decide_eq_true rfl, decide_eq_true (by omega), decide_eq_true (by omega)]
    rfl
  · rw [decide_eq_false (by omega)]
    have : ¬ (bsN l b ≤ k ∧ k < bsN l (b + 1)) := fun ⟨y1, y2⟩ => by
      have := (G.mb k hk b hb (by rw [e1]; omega) (by rw [e3]; omega)).1
      rw [h4] at this
      omega
    symm
    rw [Bool.and_eq_false_iff, decide_eq_false_iff_not, decide_eq_false_iff_not]
    omega
/-- the metres of its brake -/
theorem Geo.brk {l : List Sg} (G : Geo l) {b : Nat} (hb : b < nBlk l) : ((List.range' (bsN l b) (bsN l (b + 1) - bsN l b)).filter fun k : Nat => decide ((at0 (pls l).ms (k : Int)).1 = ("brake" : Str))) = List.range' (brN l b) (bsN l (b + 1) - brN l b) := by
  obtain ⟨e1, e2, e3, h1, h2, h3⟩ := G.bsb hb
  rw [← G.own hb, List.filter_filter]
  refine pick (by omega) h3 fun k hk => ?_
  obtain ⟨c, hc, c1, c2⟩ := G.cv k hk
  have h4 := G.mb k hk c hc c1 c2
  rw [h4.1]
  obtain ⟨f1, f2, f3, g1, g2, g3⟩ := G.bsb hc
  by_cases z : c = b
  · subst z
    rw [f1] at c1
    rw [f3] at c2
    rw [f2] at h4
    have e : decide ((at0 (pls l).ms (k : Int)).1 = ("brake" : Str)) = decide (brN l c ≤ k) := decide_eq_decide.mpr (h4.2.trans (by omega))
    rw [e, decide_eq_true rfl, decide_eq_true (show k < bsN l (c + 1) by omega)]
  · rw [decide_eq_false (show ¬ ((c : Int) = (b : Int)) by omega), Bool.and_false]
    symm
    rw [Bool.and_eq_false_iff, decide_eq_false_iff_not, decide_eq_false_iff_not]
    by_cases y : brN l b ≤ k ∧ k < bsN l (b + 1)
    · have := (G.mb k hk b hb (by rw [e1]; omega) (by rw [e3]; omega)).1
      rw [h4.1] at this
      omega
    · omega
/-- what is known of a drawn layout -/
structure Drawn (l : List Sg) : Prop where
  lo : loOk l = true
  ok : segsOk l = true
  ln : l.length ≤ 50
  ml : mlen l ≤ 299
  nm : nMet l ≤ 299
  nb : nBlk l ≤ 50
  G : Geo l
theorem LoG.drawn {l : List Sg} (g : LoG l) : Drawn l := by
  obtain ⟨h1, h2, h3, h4⟩ := pls_len l
  have := g.ml
  have := g.ln
  exact ⟨g.lo, g.ok, g.ln, g.ml, by show (pls l).ms.length ≤ _; omega, by show (pls l).br.length ≤ _; omega, geo g⟩
end Lw
namespace Lw
open PySem PySem.Spec PyProof.Rows L2 Ci
/-- a train's data in the laws -/
def trL (t : Tr) : List D := [.int t.len, .tup [.int t.f0, .int t.f1], .tup [.int t.b0, .int t.b1], .int t.li, .int t.dr]
theorem ixTr0 {t : Tr} : B2.fn .ix (.lst (trL t)) (.int 0) = .ok (dv (.int t.len)) := ixL0
theorem ixTr1 {t : Tr} : B2.fn .ix (.lst (trL t)) (.int 1) = .ok (dv (.tup [.int t.f0, .int t.f1])) := ixL1
theorem ixTr2 {t : Tr} : B2.fn .ix (.lst (trL t)) (.int 2) = .ok (dv (.tup [.int t.b0, .int t.b1])) := ixL2
theorem ixTr3 {t : Tr} : B2.fn .ix (.lst (trL t)) (.int 3) = .ok (dv (.int t.li)) := ixL3
theorem ixTr4 {t : Tr} : B2.fn .ix (.lst (trL t)) (.int 4) = .ok (dv (.int t.dr)) := ixL4
structure TrOk (t : Tr) : Prop where
  l1 : 1 ≤ t.len
  l2 : t.len ≤ 100
  f0 : 0 ≤ t.f0
  f1 : t.f0 ≤ t.f1
  f2 : t.f1 ≤ 100000
  b0 : 1 ≤ t.b0
  b1 : t.b0 ≤ t.b1
  b2 : t.b1 ≤ 1000000
  i1 : 1 ≤ t.li
  i2 : t.li ≤ 10000000
  d1 : 1 ≤ t.dr
  d2 : t.dr ≤ 10000000
/-- the energy behind a metre -/
def afterF (s : Sg) (t : Tr) (e f : Int) (o : Option Int) : Int :=
  if s.1 = ("lift" : Str) then max t.li (e - 1962 * s.2.1 - f) else if s.1 = ("brake" : Str) ∧ o = none then max t.dr (e - 1962 * s.2.1 - f)
  else if e = 0 then 0 else if s.1 = ("brake" : Str) then max 0 (e - 1962 * s.2.1 - f - o.getD 0) else max 0 (e - 1962 * s.2.1 - f)
end Lw
end

section
set_option Elab.async false
set_option linter.all false
set_option maxRecDepth 100000
set_option maxHeartbeats 4000000
/-! ## envelopes -/
namespace Lw
open PySem PySem.Spec PyProof.Rows L2 Ci
open Evl (Ex ex_t ex_l sq_of st_of)
/-- the envelope before a metre -/
def limF (t : Tr) (s : Sg) (nx : Int) : Int :=
  if s.1 = ("lift" : Str) then (if t.li > nx ∨ nx + (1962 * s.2.1 + t.f0) < 0 then -1 else nx + (1962 * s.2.1 + t.f0))
  else max 0 (max nx 0 + (1962 * s.2.1 + t.f0 + (if s.1 = ("brake" : Str) then t.b0 else 0)))
def blk (ms : List Sg) (k : Nat) : Int := (ms.getD k default).2.2
/-- the envelope j metres before the end -/
def envR (ms : List Sg) (t : Tr) : Nat → Int
  | 0 => 0
  | j + 1 => limF t (ms.getD (ms.length - 1 - j) default) (if j = 0 ∨ blk ms (ms.length - j) ≠ blk ms (ms.length - 1 - j) then 0 else envR ms t j)
def env (ms : List Sg) (t : Tr) (k : Nat) : Int := envR ms t (ms.length - k)
section
variable {l : List Sg} (G : Geo l) {b : Nat} (hb : b < nBlk l)
include G hb
end
end Lw
end

section
set_option Elab.async false
set_option linter.all false
set_option maxRecDepth 100000
set_option maxHeartbeats 4000000
/-! ## motion -/
namespace Lw
open PySem PySem.Spec PyProof.Rows L2 Ci
open Evl (Ex ex_t ex_l sq_of st_of)
/-- the energy after k metres of a roll -/
def rollE (ms : List Sg) (t : Tr) (m : Nat) (e : Int) (fs : List Int) (os : List (Option Int)) : Nat → Int
  | 0 => e
  | k + 1 => afterF (ms.getD ((m + k) % ms.length) default) t (rollE ms t m e fs os k) (fs.getD k 0) (os.getD k none)
def rollL (ms : List Sg) (t : Tr) (m : Nat) (e : Int) (fs : List Int) (os : List (Option Int)) (n : Nat) : List Int := (List.range n).map fun k => rollE ms t m e fs os (k + 1)
theorem rollL_len {ms : List Sg} {t : Tr} {m : Nat} {e : Int} {fs : List Int} {os : List (Option Int)} {n : Nat} : (rollL ms t m e fs os n).length = n := by
  unfold rollL
  rw [List.length_map, List.length_range]
section
variable {l : List Sg} (G : Geo l) {b : Nat} (hb : b < nBlk l)
include G hb
end
theorem zipD_zip {α β : Type} {f : α → D} {g : β → D} : ∀ {xs : List α} {ys : List β}, zipD (xs.map f) (ys.map g) = (xs.zip ys).map fun z => D.tup [f z.1, g z.2]
  | [], _ => by cases ‹List β› <;> rfl
  | _ :: _, [] => rfl
  | x :: xs, y :: ys => by
    show D.tup _ :: zipD _ _ = D.tup _ :: _
    rw [zipD_zip]
    rfl
theorem repI {n : Nat} {f : Int} : List.replicate n (D.int f) = (List.replicate n f).map D.int := by rw [List.map_replicate]
theorem repN {n : Nat} : List.replicate n D.non = (List.replicate n (none : Option Int)).map encO := by rw [List.map_replicate]; rfl
theorem consI {x : Int} {xs : List Int} : [D.int x] ++ xs.map D.int = (x :: xs).map D.int := rfl
/-- slices -/
theorem cut_from {xs : List D} {i : Int} (h0 : 0 ≤ i) (h1 : i ≤ xs.length) : Ci.cutD xs (some i) none = xs.drop i.toNat := by
  unfold Ci.cutD
  have e1 : HT.sIx xs.length 0 (some i) = i.toNat := by show (if i < 0 then (i + (xs.length : Int)).toNat else min i.toNat xs.length) = _; rw [if_neg (by omega)]; omega
  have e2 : HT.sIx xs.length xs.length none = xs.length := rfl
  rw [e1, e2]
  exact List.take_of_length_le (by rw [List.length_drop]; exact Nat.le_refl _)
theorem cut_mid {xs : List D} {i j : Int} (h0 : 0 ≤ i) (h1 : i ≤ j) (h2 : j ≤ xs.length) : Ci.cutD xs (some i) (some j) = (xs.drop i.toNat).take (j.toNat - i.toNat) := by
  unfold Ci.cutD
  have e1 : HT.sIx xs.length 0 (some i) = i.toNat := by show (if i < 0 then (i + (xs.length : Int)).toNat else min i.toNat xs.length) = _; rw [if_neg (by omega)]; omega
  have e2 : HT.sIx xs.length xs.length (some j) = j.toNat := by show (if j < 0 then (j + (xs.length : Int)).toNat else min j.toNat xs.length) = _; rw [if_neg (by omega)]; omega
  rw [e1, e2]
theorem cut_to {xs : List D} {j : Int} (h0 : 0 ≤ j) (h2 : j ≤ xs.length) : Ci.cutD xs none (some j) = xs.take j.toNat := by
  unfold Ci.cutD
  have e1 : HT.sIx xs.length 0 none = 0 := rfl
  have e2 : HT.sIx xs.length xs.length (some j) = j.toNat := by show (if j < 0 then (j + (xs.length : Int)).toNat else min j.toNat xs.length) = _; rw [if_neg (by omega)]; omega
  rw [e1, e2, Nat.sub_zero, List.drop_zero]
theorem q_slF {α : Type} {f : α → D} {xs : List α} {i : Int} (h0 : 0 ≤ i) (h1 : i ≤ xs.length) : slF (.lst (xs.map f)) (some i) none = .ok (ov (.lst ((xs.drop i.toNat).map f))) := by
  show R.ok (ov (.lst (Ci.cutD _ _ _))) = _
  rw [cut_from h0 (by rw [List.length_map]; exact h1), List.map_drop]
theorem q_slM {α : Type} {f : α → D} {xs : List α} {i j : Int} (h0 : 0 ≤ i) (h1 : i ≤ j) (h2 : j ≤ xs.length) : slF (.lst (xs.map f)) (some i) (some j) = .ok (ov (.lst (((xs.drop i.toNat).take (j.toNat - i.toNat)).map f))) := by
  show R.ok (ov (.lst (Ci.cutD _ _ _))) = _
  rw [cut_mid h0 h1 (by rw [List.length_map]; exact h2), List.map_take, List.map_drop]
theorem q_slT {α : Type} {f : α → D} {xs : List α} {j : Int} (h0 : 0 ≤ j) (h2 : j ≤ xs.length) : slF (.lst (xs.map f)) none (some j) = .ok (ov (.lst ((xs.take j.toNat).map f))) := by
  show R.ok (ov (.lst (Ci.cutD _ _ _))) = _
  rw [cut_to h0 (by rw [List.length_map]; exact h2), List.map_take]
end Lw
end

section
set_option Elab.async false
set_option linter.all false
set_option maxRecDepth 100000
set_option maxHeartbeats 4000000
/-! ## more energy before gives no less behind; rounds -/
namespace Lw
open PySem PySem.Spec PyProof.Rows L2 Ci
open Evl (Ex ex_t ex_l sq_of st_of)
/-- what is known of a layout for its rounds -/
structure Rnd (ms : List Sg) : Prop where
  pos : 0 < ms.length
  last : (ms.getD (ms.length - 1) default).1 = ("brake" : Str)
  sum : psum ms ms.length = 0
section
variable {ms : List Sg} {t : Tr} (R : Rnd ms) (ht : TrOk t)
include R ht
end
theorem q_inI {x : Int} {xs : List Int} : B2.fn .in (.int x) (.lst (xs.map D.int)) = .ok (dv (.bl (xs.any fun z => decide (z = x)))) := by
  have h1 : pures (xs.map D.int) = true := by
    induction xs with
    | nil => rfl
    | cons a r ih => show (pure (.int a) && pures (r.map D.int)) = true; rw [ih]; rfl
  have h2 : depL (xs.map D.int) = 0 := by
    clear h1
    induction xs with
    | nil => rfl
    | cons a r ih => show max 0 (depL (r.map D.int)) = 0; rw [ih]; rfl
  have h3 : eqOk (.lst (xs.map D.int)) = true := by
    show (pures (xs.map D.int) && decide (depL (xs.map D.int) + 1 ≤ 60)) = true
    rw [h1, h2]
    rfl
  have h4 : inLst (.int x) (xs.map D.int) = .ok (xs.any fun z => decide (z = x)) := by
    unfold inLst
    rw [h3]
    show (if true = true then R.ok ((xs.map D.int).any fun z => eqv z (.int x)) else .bad) = _
    rw [if_pos rfl, List.any_map]
    rfl
  simp only [B2.fn, inF, h4]
  rfl
end Lw
namespace Lw
open PySem PySem.Spec PyProof.Rows L2 Ci
end Lw
end

section
set_option Elab.async false
set_option linter.all false
set_option maxRecDepth 100000
set_option maxHeartbeats 4000000
/-! ## rides: ways, places, drawn rides, trains on them, parts -/
namespace Lw
open PySem PySem.Spec PyProof.Rows L2 Ci
open Evl (Ex ex_t ex_l sq_of st_of)
def encW (w : Int × Int) : D := .tup [.int w.1, .int w.2]
/-- a fault: a part and its number -/
def encFt : Option (Sg × Int) → D
  | none => .non
  | some (p, v) => .tup [encS p, .int v]
theorem encFt_none : encFt none = .non := rfl
theorem encFt_some {p : Sg} {v : Int} : encFt (some (p, v)) = .tup [encS p, .int v] := rfl
theorem isNon_encFt {o : Option (Sg × Int)} : (encFt o).isNon = o.isNone := by cases o <;> rfl
theorem eqvS {p q : Sg} : eqv (encS p) (encS q) = decide (p = q) := by
  obtain ⟨a, b, c⟩ := p
  obtain ⟨d, e, f⟩ := q
  show (PyData.eqv (.str a) (.str d) && (PyData.eqv (.int b) (.int e) && (PyData.eqv (.int c) (.int f) && true))) = _
  have h1 : PyData.eqv (.str a) (.str d) = decide (a = d) := rfl
  have h2 : PyData.eqv (.int b) (.int e) = decide (b = e) := rfl
  have h3 : PyData.eqv (.int c) (.int f) = decide (c = f) := rfl
  rw [h1, h2, h3, Bool.and_true, ← Bool.decide_and, ← Bool.decide_and]
  congr 1
  rw [Prod.mk.injEq, Prod.mk.injEq]
theorem eqOkS {p : Sg} : eqOk (encS p) = true := rfl
theorem o_eqSg {p q : Sg} : B2.fn .eq (encS p) (encS q) = .ok (dv (.bl (decide (p = q)))) := by rw [o_eq eqOkS eqOkS, eqvS]
theorem o_neSg {p q : Sg} : B2.fn .ne (encS p) (encS q) = .ok (dv (.bl (!decide (p = q)))) := by rw [o_ne eqOkS eqOkS, eqvS]
theorem pures_S : ∀ l : List Sg, pures (l.map encS) = true
  | [] => rfl
  | _ :: r => by
    show (pure (encS _) && pures (r.map encS)) = true
    rw [pures_S r]
    rfl
theorem depL_S : ∀ l : List Sg, depL (l.map encS) ≤ 1
  | [] => Nat.zero_le _
  | x :: r => by
    have h := depL_S r
    show max (encS x).dep (depL (r.map encS)) ≤ 1
    exact Nat.max_le.mpr ⟨Nat.le_of_ble_eq_true rfl, h⟩
theorem eqOk_tupS {l : List Sg} : eqOk (.tup (l.map encS)) = true := by
  have h := depL_S l
  show (pures (l.map encS) && decide (depL (l.map encS) + 1 ≤ 60)) = true
  rw [pures_S, decide_eq_true (by omega)]
  rfl
theorem eqOk_lstS {l : List Sg} : eqOk (.lst (l.map encS)) = true := by
  have h := depL_S l
  show (pures (l.map encS) && decide (depL (l.map encS) + 1 ≤ 60)) = true
  rw [pures_S, decide_eq_true (by omega)]
  rfl
theorem any_eqS {l : List Sg} {p : Sg} : ((l.map encS).any fun z => eqv z (encS p)) = decide (p ∈ l) := by
  rw [List.any_map, Bool.eq_iff_iff, decide_eq_true_eq, List.any_eq_true]
  constructor
  · rintro ⟨z, m, e⟩
    have e : eqv (encS z) (encS p) = true := e
    rw [eqvS] at e
    rw [← of_decide_eq_true e]
    exact m
  · intro m
    refine ⟨p, m, ?_⟩
    show eqv (encS p) (encS p) = true
    rw [eqvS]
    exact decide_eq_true rfl
theorem q_inSt {l : List Sg} {p : Sg} : B2.fn .in (encS p) (.tup (l.map encS)) = .ok (dv (.bl (decide (p ∈ l)))) := by
  have h : inTup (encS p) (l.map encS) = .ok (decide (p ∈ l)) := by
    unfold inTup
    rw [eqOkS, eqOk_tupS, any_eqS]
    rfl
  show (inTup (encS p) (l.map encS)).bind _ = _
  rw [h]
  rfl
theorem q_inSl {l : List Sg} {p : Sg} : B2.fn .in (encS p) (.lst (l.map encS)) = .ok (dv (.bl (decide (p ∈ l)))) := by
  have h : inLst (encS p) (l.map encS) = .ok (decide (p ∈ l)) := by
    unfold inLst
    rw [eqOkS, eqOk_lstS, any_eqS]
    rfl
  show (inLst (encS p) (l.map encS)).bind _ = _
  rw [h]
  rfl
theorem q_notinSl {l : List Sg} {p : Sg} : B2.fn .notin (encS p) (.lst (l.map encS)) = .ok (dv (.bl (!decide (p ∈ l)))) := by
  have h : inLst (encS p) (l.map encS) = .ok (decide (p ∈ l)) := by
    unfold inLst
    rw [eqOkS, eqOk_lstS, any_eqS]
    rfl
  show (inLst (encS p) (l.map encS)).bind _ = _
  rw [h]
  rfl
def rdV (ws : List (Int × Int)) (ov : Int) (ts : List Int) : List (Str × FV) := [("ways", .d (.tup (ws.map encW))), ("over", .d (.int ov)), ("trains", .d (.tup (ts.map D.int)))]
def rdD (ws : List (Int × Int)) (ov : Int) (ts : List Int) : D := .ins 2 [("ways", .tup (ws.map encW)), ("over", .int ov), ("trains", .tup (ts.map D.int))]
theorem rd_fold {ws : List (Int × Int)} {ov : Int} {ts : List Int} : D.ins 2 (fsD (rdV ws ov ts)) = rdD ws ov ts := rfl
theorem rf_ways {ws : List (Int × Int)} {ov : Int} {ts : List Int} : fldO [2] "ways" (some (some (.d (rdD ws ov ts)))) = .ok (dv (.tup (ws.map encW))) := by unfold rdD; simp only [fldO, List.lookup_cons, ofString_beq, String.reduceEq, decide_true, decide_false, List.mem_singleton, if_true]
theorem rf_over {ws : List (Int × Int)} {ov : Int} {ts : List Int} : fldO [2] "over" (some (some (.d (rdD ws ov ts)))) = .ok (dv (.int ov)) := by unfold rdD; simp only [fldO, List.lookup_cons, ofString_beq, String.reduceEq, decide_true, decide_false, List.mem_singleton, if_true]
theorem rf_trains {ws : List (Int × Int)} {ov : Int} {ts : List Int} : fldO [2] "trains" (some (some (.d (rdD ws ov ts)))) = .ok (dv (.tup (ts.map D.int))) := by unfold rdD; simp only [fldO, List.lookup_cons, ofString_beq, String.reduceEq, decide_true, decide_false, List.mem_singleton, if_true]
theorem me_rd {ws : List (Int × Int)} {ov : Int} {tr : List Int} {f : List D → R RV} {as : R (List D)} (m : Str) (h : ("ways" : Str) ≠ m ∧ ("over" : Str) ≠ m ∧ ("trains" : Str) ≠ m) : methF 2 m f as (dv (rdD ws ov tr)) = as.bind fun ds => f (rdD ws ov tr :: ds) := by
  have e : ([("ways", .tup (ws.map encW)), ("over", .int ov), ("trains", .tup (tr.map D.int))] : List (Str × D)).lookup m = none := by
    simp only [List.lookup_cons, List.lookup_nil, beq_eq_false_iff_ne.mpr h.1.symm, beq_eq_false_iff_ne.mpr h.2.1.symm, beq_eq_false_iff_ne.mpr h.2.2.symm]
  unfold rdD
  show (if 2 = 2 then (match (_ : Option D) with | none => as.bind fun ds => f _ | some _ => .bad) else .bad) = _
  rw [if_pos rfl, e]
theorem me_parts {ws : List (Int × Int)} {ov : Int} {tr : List Int} {f : List D → R RV} {as : R (List D)} : methF 2 "parts" f as (dv (rdD ws ov tr)) = as.bind fun ds => f (rdD ws ov tr :: ds) := me_rd _ (by decide)
theorem me_first {ws : List (Int × Int)} {ov : Int} {tr : List Int} {f : List D → R RV} {as : R (List D)} : methF 2 "first" f as (dv (rdD ws ov tr)) = as.bind fun ds => f (rdD ws ov tr :: ds) := me_rd _ (by decide)
/-- a state of a ride -/
def encSt (ts : List Sg) (bars : Int) (ft : Option (Sg × Int)) : D := .tup [.tup (ts.map encS), .int bars, encFt ft]
def stL (ts : List Sg) (bars : Int) (ft : Option (Sg × Int)) : List D := [.tup (ts.map encS), .int bars, encFt ft]
theorem encSt_tup {ts : List Sg} {bars : Int} {ft : Option (Sg × Int)} : D.tup [.tup (ts.map encS), .int bars, encFt ft] = encSt ts bars ft := rfl
theorem x_gtup_st {gs : P .gs} {ts : List Sg} {bars : Int} {ft : Option (Sg × Int)} {ρ : En} : ev (.gtup 3 gs) (encSt ts bars ft) ρ = ev gs (stL ts bars ft) ρ := rfl
theorem ixSt0 {ts : List Sg} {bars : Int} {ft : Option (Sg × Int)} : B2.fn .ix (encSt ts bars ft) (.int 0) = .ok (dv (.tup (ts.map encS))) := rfl
theorem ixSt1 {ts : List Sg} {bars : Int} {ft : Option (Sg × Int)} : B2.fn .ix (encSt ts bars ft) (.int 1) = .ok (dv (.int bars)) := rfl
theorem ixSt2 {ts : List Sg} {bars : Int} {ft : Option (Sg × Int)} : B2.fn .ix (encSt ts bars ft) (.int 2) = .ok (dv (encFt ft)) := rfl
end Lw
end

section
set_option Elab.async false
set_option linter.all false
set_option maxRecDepth 100000
set_option maxHeartbeats 4000000
/-! ## roots and times -/
namespace Lw
open PySem PySem.Spec PyProof.Rows L2 Ci
open Evl (Ex ex_t ex_l sq_of st_of)
/-- the bisection -/
def rtS (n : Int) (p : Int × Int) : Int × Int := if p.2 - p.1 > 1 then (if (p.1 + p.2) / 2 * ((p.1 + p.2) / 2) ≤ n then ((p.1 + p.2) / 2, p.2) else (p.1, (p.1 + p.2) / 2)) else p
def rt (n : Int) : Nat → Int × Int
  | 0 => (0, n + 1)
  | k + 1 => rtS n (rt n k)
end Lw
end

section
set_option Elab.async false
set_option linter.all false
set_option maxRecDepth 100000
set_option maxHeartbeats 4000000
/-! ## trains that stand within their block -/
namespace Lw
open PySem PySem.Spec PyProof.Rows L2 Ci
end Lw
end

set_option maxRecDepth 100000
open Lw PySem PySem.Spec PyProof.Rows L2 Ci
open Evl (Ex ex_t ex_l sq_of st_of)
local macro_rules | `(tactic| walk_at $s:str) => do
  let v := s.getString
  unless v.startsWith "ciw_" do Lean.Macro.throwUnsupported
  let g ← ("Ci.x_var Ci.x_c Ci.x_kt Ci.x_bin Ci.x_neg Ci.x_andV Ci.x_orV Ci.x_notV Ci.x_chain Ci.x_chain3 Ci.x_ife Ci.x_tup Ci.x_lst Ci.x_fld Ci.x_sl Ci.x_cb Ci.x_isi Ci.x_call Ci.x_meth Ci.x_make Ci.x_lc Ci.x_lc2 Ci.x_dcm Ci.x_rngv Ci.x_zipR Ci.zipR_ok Ci.x_anil Ci.x_acons Ci.x_rnil Ci.x_rcons Ci.x_mnil Ci.x_mcons Ci.x_tst Ci.x_tru Ci.x_andT Ci.x_orT Ci.x_notT Ci.x_yes Ci.x_noP Ci.x_someP Ci.x_seq Ci.x_rng1 Ci.x_rng2 Ci.x_rng3 Ci.x_zip Ci.x_enum Ci.enumF_lst Ci.enumF_tup Ci.x_augI Ci.x_rev Ci.zipF_lst Ci.zipF_tup Ci.revF_lst Ci.x_gname Ci.x_gtup Ci.x_gtl Ci.x_gnil Ci.x_gcons Ci.x_skip Ci.x_sq Ci.x_asgN Ci.x_asgG Ci.x_asgF Ci.x_asgI Ci.x_mut Ci.x_ext Ci.x_lrg Ci.x_nix Ci.x_nset Ci.getN_f Ci.getN_t Ci.putN_f Ci.putN_t Ci.toL_ov Ci.x_popD Ci.x_popG Ci.x_aug Ci.x_drop Ci.x_ret Ci.x_retO Ci.x_retN Ci.x_brk Ci.x_cont Ci.x_raise Ci.x_ifS Ci.x_for Ci.x_while Ci.x_try Ci.x_try2 Ci.x_try3 Ci.x_frz Ci.x_kill Ci.x_selfS Ci.x_tm Ci.x_fn Ci.x_callv Ci.isFn_d Ci.x_fmt Ci.x_fstr Ci.x_fnil Ci.x_fcons Ci.fcF_if Ci.x_enumK Ci.x_raiseF Ci.x_tryA Ci.tryA_err Ci.tryA_nx Ci.tryA_rt Ci.only_rt Ci.x_xe Ci.x_xf Ci.xf_ok Ci.x_xi Ci.x_xtup Ci.x_xand Ci.x_xnil Ci.x_xcons Ci.x_hret Ci.x_hif Ci.x_hifx Ci.x_own Ci.x_ownE Ci.x_xcall Ci.x_xife Ci.x_xbin Ci.noErr_okE Ci.isX_eq Ci.asStr_str Ci.tm_starts Ci.seq_s Ci.x_dnew Ci.x_dget Ci.x_dget1 Ci.x_dget2 Ci.x_din Ci.x_dictP Ci.x_dictZ Ci.x_dictR Ci.x_kdG Ci.x_kdI Ci.x_lendO Ci.lendO_obj Ci.lendO_dk Ci.lendO_l Ci.lendO_d Ci.x_dput Ci.x_daug Ci.x_appP Ci.x_wpop Ci.popF_ok Ci.x_wpop0 Ci.pop0F_ok Ci.x_wbin Ci.x_appW Ci.appWF_ok Ci.x_retW Ci.x_asgW Ci.x_ifU Ci.x_wself Ci.wself_obj Ci.x_wand Ci.x_ut Ci.x_uw Ci.x_unot Ci.x_uor Ci.x_uand Ci.x_isC Ci.isC_d Ci.isC_o Ci.x_nrmE Ci.x_tupNE Ci.x_tix Ci.tnOf_d Ci.tnOf_d' Ci.nrm_tn Ci.nrm_tn' Ci.tupN_l Ci.asBl_bl Ci.fvR_dk Ci.dat_dk Ci.asDk_dk Ci.keyD_s Ci.keyD_i Ci.ofO_s Ci.pl_dv Ci.pl_d Ci.dget_s Ci.dget_i Ci.dget1_s Ci.dget1_i Ci.dget2_s Ci.dget2_i Ci.din_s Ci.din_i Ci.kdI_s Ci.toS_nx Ci.toS_rt Ci.toS_rtd Ci.toS_err Ci.isNst Ci.getDk Ci.SX.s_ok Ci.SX.s_err Ci.SX.s_bad Ci.SX.b_ok Ci.SX.b_err Ci.SX.b_bad Ci.R.sx_ok Ci.R.sx_err Ci.R.sx_bad Ci.rd_dv Ci.rd_ov Ci.rd_vw Ci.dat_d Ci.dat_lst Ci.sdat_fv Ci.sdat_obj Ci.toD_sv Ci.toB_dv Ci.toI_dv Ci.mode_f Ci.mode_t Ci.mode_o Ci.mode_v Ci.cd_int Ci.cd_str Ci.cd_bl Ci.cd_non Ci.seq_d Ci.seq_t Ci.seq_o Ci.seq_v Ci.asgNF_sv Ci.retF_sv Ci.sq_nx Ci.sq_rt Ci.sq_err Ci.sq_bk Ci.sq_ct Ci.try_err Ci.try_nx Ci.try_rt Ci.try2_err Ci.try2_nx Ci.try2_rt Ci.try3_err Ci.try3_nx Ci.try3_rt Ci.toR_nx Ci.toR_rt Ci.toR_err Ci.R.bind_ok Ci.R.bind_err Ci.R.bind_bad Ci.R.sr_ok Ci.R.sr_err Ci.R.sr_bad Ci.R.gr_ok Ci.R.gr_err Ci.R.gr_bad Ci.o_add Ci.o_sub Ci.o_lt Ci.o_le Ci.o_gt Ci.o_ge Ci.o_eqI Ci.o_neI Ci.o_eqS Ci.o_neS Ci.o_eqB Ci.o_neB Ci.o_is Ci.o_isnot Ci.o_isb Ci.o_notb Ci.k_lenL Ci.k_lenT Ci.k_lenS Ci.k_abs Ci.k_int Ci.k_intB Ci.k_listL Ci.k_listT Ci.k_tupL Ci.k_tupT Ci.k_sum Ci.k_lenset Ci.k_range1 Ci.o_shr Ci.o_band Ci.rngVF_dv Ci.k_all Ci.k_any Ci.k_max2 Ci.k_min2 Ci.k_maxL Ci.k_minL Ci.D.isNon Ci.truD Ci.getV List.getElem?_cons_zero List.getElem?_cons_succ List.set_cons_zero List.set_cons_succ List.length_cons List.length_nil if_true if_false Bool.not_true Bool.not_false Bool.true_and Bool.false_and Bool.and_true Bool.and_false reduceIte reduceCtorEq Nat.reduceAdd Nat.reduceSub Nat.reduceLeDiff Nat.zero_add Ci.wipeE Ci.startE Ci.padE List.cons_append List.nil_append List.replicate_succ List.replicate_zero Ci.asgFF Ci.frzF Ci.retOF Ci.SV.isBrw decide_true decide_false Bool.true_eq Bool.false_eq_true Ci.bool_if_true Ci.bool_if_false Ci.ofString_inj Ci.ofString_beq String.reduceEq Ci.sq_bad Ci.toR_bad Ci.toI_bad true_and and_true Nat.reduceLT List.lookup_cons List.lookup_nil Int.reduceLT Int.reduceLE Int.reduceAdd Int.reduceSub Int.reduceMul Int.reduceNeg Int.reduceMod Int.reduceDiv Int.reducePow Int.reduceToNat Int.reduceEq Ci.and_join Ci.or_join Ci.andT_join Ci.orT_join Ci.ixT0 Ci.ixT1 Ci.ixT2 Ci.ixT3 Ci.ixT4 Ci.ixT5 Ci.ixT6 Ci.ixL0 Ci.ixL1 Ci.ixL2 Ci.ixL3 Ci.ixL4 Ci.ixL5 Ci.ixL6 Ci.wr_nx Ci.wr_ct Ci.wr_bk Ci.wr_rt Ci.wr_err Ci.wr_bad Ci.wr_ite Ci.try_ite Ci.q_ixL Ci.q_ixT Ci.q_ixS Ci.q_ixLast Ci.o_mul Ci.q_mulE Ci.q_mulER Ci.any_rep Ci.q_mulLl Ci.q_mulRl Ci.q_divl Ci.q_modl Ci.q_div Ci.q_mod Ci.q_pow Ci.q_appendM Ci.q_append0 Ci.q_append Ci.q_lrg Ci.q_lzip Ci.q_insertM Ci.q_insert Ci.q_line Ci.q_line' Ci.q_szl Ci.q_mil Ci.q_rng1 Ci.q_rng2 Ci.q_rng3 Ci.q_rep1 Ci.q_addL List.length_map List.length_append Ci.map_snoc Int.zero_add Ci.getL Ci.getP Ci.putP Ci.extF Ci.forS Ci.lcS Ci.quiet_okS Ci.quiet_ite Ci.q_fldv Ci.fldO_obj Ci.fldO_ins Ci.fvR_d Ci.fvR_lst Ci.dvR_some Ci.augF Ci.selfF Ci.toI_dv Ci.lentR Ci.RV.noL List.mem_cons List.not_mem_nil or_false true_or or_true Ci.lk_yes Ci.rng_len List.length_range List.length_range' Int.sub_add_cancel Int.add_sub_cancel List.length_replicate Bool.or_false Bool.or_true Bool.true_or Bool.false_or and_self Int.toNat_natCast Ci.q_cast Ci.x_seqb' Ci.x_lend' Ci.lendO_lst Ci.seqbO_brw Ci.i_nb Ci.i_bb Ci.i_ib Ci.i_sb Ci.i_tb Ci.i_lb Ci.i_ns Ci.i_is Ci.i_ss Ci.i_ts Ci.i_ls Ci.i_ni Ci.i_ii Ci.i_ti Ci.i_li Ci.i_tl Ci.i_ll Ci.i_tt Ci.i_lt eq_self Bool.not_not not_true_eq_false not_false_eq_true Ci.kit_bool Bool.true_beq Bool.false_beq beq_self_eq_true".splitOn " ").toArray.mapM fun x => `(Lean.Parser.Tactic.simpLemma| $(Lean.mkIdent x.toName):ident)
  let w := (v.drop 8).toString
  let tb : Array String := #["encSo_none encSo_some encSo_non in_sign notin_sign o_lenStr o_str o_fmt fmt_str o_addS sl1 enumK_ok", "encSo_none encSo_some encSo_non in_sign notin_sign o_lenStr o_str o_fmt fmt_str o_addS sl1 enumK_ok read_number", "eq_self", "sp_fwords", "sp_written sp_fwords", "x_cnt x_lix lsOf_d q_cnt", "encSo_none encSo_some encSo_non in_sign notin_sign o_lenStr o_str o_fmt fmt_str o_addS sl1 enumK_ok sp_nums read_number", "encSo_none encSo_some encSo_non in_sign notin_sign o_lenStr o_str o_fmt fmt_str o_addS sl1 enumK_ok sp_rfault sp_nums read_number", "encSo_none encSo_some encSo_non in_sign notin_sign o_lenStr o_str o_fmt fmt_str o_addS sl1 enumK_ok wb_in wb_not sp_nums read_number sp_rfplay sp_rfault sp_written sp_fwords", "encSo_none encSo_some encSo_non in_sign notin_sign o_lenStr o_str o_fmt fmt_str o_addS sl1 enumK_ok eq_self sp_rscan wb_in wb_not sp_nums read_number sp_rfplay sp_rfault sp_written sp_fwords", "encSo_none encSo_some encSo_non in_sign notin_sign o_lenStr o_str o_fmt fmt_str o_addS sl1 enumK_ok sp_parse0 sp_parse eq_self sp_rscan wb_in wb_not sp_nums read_number sp_rfplay sp_rfault sp_written sp_fwords", "encSo_none encSo_some encSo_non in_sign notin_sign o_lenStr o_str o_fmt fmt_str o_addS sl1 enumK_ok law_draws law_cell law_like law_like_int law_like_bl law_like_non law_like_ints law_like_intl sp_told0 sp_told sp_parse0 sp_parse eq_self sp_rscan wb_in wb_not sp_nums read_number sp_rfplay sp_rfault sp_written sp_fwords sp_format"]
  let w := if w.startsWith "#" then tb.getD (w.drop 1).toString.toNat! "" else w
  let ls ← (w.splitOn " ").toArray.mapM fun x => `(Lean.Parser.Tactic.simpLemma| $(Lean.mkIdent x.toName):ident)
  let m ← ("Ci.sx_ite Ci.s_ite Ci.b_ite Ci.toS_ite Ci.only_ite Ci.tryA_ite Ci.sq_ite Ci.bind_ite Ci.sr_ite Ci.gr_ite Ci.toR_ite Ci.toI_ite Ci.toI_nx Ci.toI_err Ci.getO_x Ci.putX Bool.not_eq_true' Lw.me_parts Lw.me_first Lw.rd_fold Lw.rf_ways Lw.rf_over Lw.rf_trains Lw.encSt_tup Lw.x_gtup_st Lw.ixSt0 Lw.ixSt1 Lw.ixSt2 Lw.o_eqSg Lw.o_neSg Lw.q_inSt Lw.q_inSl Lw.q_notinSl Lw.isNon_encFt Lw.sg_fold Lw.x_gtup_sg Lw.ixSg0 Lw.ixSg1 Lw.ixSg2 Lw.lo_fold Lw.tn_fold Lw.ms_len Lw.hs_len Lw.br_len Lw.bs_len Lw.fl_segments Lw.fl_metres Lw.fl_heights Lw.fl_begins Lw.fl_brakes Lw.me_total Lw.me_blocks Lw.me_metre Lw.me_height Lw.me_begin Lw.me_brake Lw.me_end Lw.me_cm Lw.me_cb Lw.ft_length Lw.ft_friction Lw.ft_brake Lw.ft_lift Lw.ft_drive Lw.ixTr0 Lw.ixTr1 Lw.ixTr2 Lw.ixTr3 Lw.ixTr4 Ci.encO_none Ci.encO_some Ci.isNon_encO Lw.repI Lw.repN Lw.consI Lw.q_slF Lw.q_slM Lw.q_slT Lw.zipD_zip Lw.q_inI".splitOn " ").toArray.mapM fun x => `(Lean.Parser.Tactic.simpLemma| $(Lean.mkIdent x.toName):ident)
  let ls := if v.startsWith "ciw_go" then g else g ++ m ++ ls
  if v.startsWith "ciw_all" then `(tactic| simp -implicitDefEqProofs (disch := first | assumption | decide | omega | (simp only [List.length_replicate, List.length_map, List.length_range, List.length_append, List.length_cons, List.length_nil, List.length_take, List.length_drop, List.length_singleton, rollL_len] <;> omega) | exact szLine (by decide +kernel) | exact szAdd (by decide +kernel) | decide +kernel | fail) only [$ls,*, *]) else `(tactic| simp -implicitDefEqProofs (disch := first | assumption | decide | omega | (simp only [List.length_replicate, List.length_map, List.length_range, List.length_append, List.length_cons, List.length_nil, List.length_take, List.length_drop, List.length_singleton, rollL_len] <;> omega) | exact szLine (by decide +kernel) | exact szAdd (by decide +kernel) | decide +kernel | fail) only [$ls,*])

section
set_option Elab.async false
set_option linter.all false
set_option maxRecDepth 100000
set_option maxHeartbeats 2000000
/-! ## an attribute as a part of a target; list.count of flat items -/
namespace Ci
open PySem PySem.Spec PyProof.Rows L2 Evl
section
variable {X : Cx}
def gAttr (K : PySem.W.Frag) (to : TE) (f : Str) : TG := fun v σ H Q => to σ H fun x H1 => ∃ a C dx fs, x = .ref a ∧ H1 a = some (.ins C dx fs) ∧ Cls K C ∧ NoAttr K C f ∧ fs.length < 1000 ∧ Q σ (upd H1 a (.ins C dx (putF f v fs)))
def rCntF (K : PySem.W.Frag) : V → List V → Hp → VK → Prop := fun x xs H Q => ∃ (a : Addr) (ys : List V) (y : V), x = V.ref a ∧ xs = [y] ∧ SqL K H a ys ∧ flatV y = true ∧ ys.all flatV = true ∧ Q (.int ((ys.countP fun z => eqV z y : Nat) : Int)) H
end
end Ci
end

section
set_option Elab.async false
set_option linter.all false
set_option maxRecDepth 100000
set_option maxHeartbeats 2000000
/-! ## count and index of a list of texts, by hand -/
namespace Ci
open PySem PySem.Spec PyProof.Rows L2 Evl
def lsOf : RV → R (List D)
  | .sv (.fv (.d (.lst ds))) => .ok ds
  | _ => .bad
def cntF (ds : List D) : D → R RV
  | .str s => (R.ofO (strsOf ds)).bind fun ys => .ok (dv (.int ((ys.countP fun z => decide (z = s) : Nat) : Int)))
  | _ => .bad
theorem flat_strs {ys : List Str} : (ys.map V.str).all flatV = true := by
  rw [List.all_eq_true]
  intro x m
  obtain ⟨z, _, rfl⟩ := List.mem_map.mp m
  rfl
section
variable {G : Gm} {E : XE2} {ρ : En} {ta tb : TE} {ra rb : R RV}
/-- a list's method on a text -/
theorem do_lm {r : V → List V → Hp → VK → Prop} {f : List D → D → R RV} (ha : Does G E (relV G) ta ρ ra) (hb : Does G E (relV G) tb ρ rb)
    (hf : ∀ (E' : XK) B2 H2 a ds y u us Q, H2 a = some (.lst us) → Reps G B2 us ds → Rdb G B2 H2 u y → Post G E' (RvOk G) B2 H2 (f ds y) Q → Ex B2 H2 → r (.ref a) [u] H2 Q) :
    Does G E (relV G) (tBM G.K "list" r ta (tCons tb tNil)) ρ (ra.bind fun x => (lsOf x).bind fun ds => rb.bind fun y => y.rd.bind (f ds)) := fun pn H0 B H σ S Q P =>
  ha pn H0 B H σ S _ (P.bind fun x ex P v B1 H1 g1 r1 => by
    unfold lsOf at P
    split at P <;> first | exact P.elim | skip
    rename_i ds
    rw [R.bind_ok] at P
    cases r1.dat with
    | @lst a us _ h2 h3 =>
      have S1 := S.go g1
      have hh := S1.ex _ _ h2
      refine ⟨.inl ⟨rfl, _, sq_of hh⟩, hb pn H0 B1 H1 σ S1 _ ((P.go early_V g1).bind fun y ey P u B2 H2 g2 r2 => ?_)⟩
      cases e2 : y.rd with
      | ok y' =>
        rw [e2, R.bind_ok] at P
        exact hf (E σ) B2 H2 a ds y' u us Q (g2.hh _ _ hh) (h3.mono g2.bb) (r2.rd e2) (P.go (early_V (H0 := H0)) g2) (S1.go g2).ex
      | err a b => exact (rd_noerr e2).elim
      | bad => rw [e2] at P; exact P.elim)
end
def cnt_t (a b : P .e) (G : Gm) (E : XE2) : TE := tBM G.K "list" (rCntF G.K) (den G E a) (tCons (den G E b) tNil)
def cnt_f (a b : P .e) (ρ : En) : R RV := (ev a ρ).bind fun x => (lsOf x).bind fun ds => (ev b ρ).bind fun y => y.rd.bind (cntF ds)
def lix_t (a b : P .e) (G : Gm) (E : XE2) : TE := tBM G.K "list" (rIndex G.K) (den G E a) (tCons (den G E b) tNil)
def lix_f (a b : P .e) (ρ : En) : R RV := (ev a ρ).bind fun x => (lsOf x).bind fun ds => (ev b ρ).bind fun y => y.rd.bind (tixF ds)
theorem cnt_ok {a b : P .e} {G : Gm} {E : XE2} {ρ : En} (wa : Wf G a) (wb : Wf G b) : Does G E (relV G) (cnt_t a b G E) ρ (cnt_f a b ρ) :=
  do_lm (sound G a wa E ρ) (sound G b wb E ρ) fun E' B2 H2 a ds y u us Q h1 h2 h3 P ex => by
    unfold cntF at P
    split at P <;> first | exact P.elim | skip
    rename_i s
    obtain ⟨rfl, _⟩ := h3.str
    cases es : strsOf ds with
    | none => rw [es] at P; exact P.elim
    | some ys =>
      rw [es, R.ofO, R.bind_ok] at P
      cases strsOf_eq es
      cases Reps.strs h2
      refine ⟨a, _, .str s, rfl, rfl, sq_of h1, rfl, flat_strs, ?_⟩
      have ec : ((ys.map V.str).countP fun z => eqV z (.str s)) = ys.countP fun z => decide (z = s) := by
        rw [List.countP_map]
        rfl
      rw [ec]
      exact P _ B2 H2 (Go.refl ex) (.d (.int _))
theorem lix_ok {a b : P .e} {G : Gm} {E : XE2} {ρ : En} (wa : Wf G a) (wb : Wf G b) : Does G E (relV G) (lix_t a b G E) ρ (lix_f a b ρ) :=
  do_lm (sound G a wa E ρ) (sound G b wb E ρ) fun E' B2 H2 a ds y u us Q h1 h2 h3 P ex => by
    unfold tixF at P
    split at P <;> first | exact P.elim | skip
    rename_i s
    obtain ⟨rfl, _⟩ := h3.str
    cases es : strsOf ds with
    | none => rw [es] at P; exact P.elim
    | some ys =>
      rw [es, R.ofO, R.bind_ok] at P
      cases ej : idxN s ys with
      | none => rw [ej] at P; exact P.elim
      | some j =>
        rw [ej, R.ofO, R.bind_ok] at P
        cases strsOf_eq es
        cases Reps.strs h2
        obtain ⟨k1, k2⟩ := idxN_ok ej
        refine ⟨a, _, .str s, j, .str s, rfl, rfl, sq_of h1, rfl, flat_strs, by rw [List.getElem?_map, k1]; rfl, beq_self_eq_true s, fun m z' hm hz => ?_, P _ B2 H2 (Go.refl ex) (.d (.int _))⟩
        rw [List.getElem?_map] at hz
        cases q : ys[m]? with
        | none => rw [q] at hz; cases hz
        | some w =>
          rw [q] at hz
          cases hz
          show (w == s) = false
          exact beq_eq_false_iff_ne.mpr fun e => k2 m hm (by rw [q, e])
theorem x_cnt {a b : P .e} {ρ : En} : cnt_f a b ρ = (ev a ρ).bind fun x => (lsOf x).bind fun ds => (ev b ρ).bind fun y => y.rd.bind (cntF ds) := rfl
theorem x_lix {a b : P .e} {ρ : En} : lix_f a b ρ = (ev a ρ).bind fun x => (lsOf x).bind fun ds => (ev b ρ).bind fun y => y.rd.bind (tixF ds) := rfl
theorem lsOf_d {ds : List D} : lsOf (dv (.lst ds)) = .ok ds := rfl
theorem q_cnt {s : Str} {ys : List Str} : cntF (ys.map D.str) (.str s) = .ok (dv (.int ((ys.countP fun z => decide (z = s) : Nat) : Int))) := by
  show (R.ofO (strsOf _)).bind _ = _
  rw [strsOf_map]
  rfl
theorem q_lix {s : Str} {ys : List Str} {j : Nat} (h : idxN s ys = some j) : tixF (ys.map D.str) (.str s) = .ok (dv (.int (j : Nat))) := by
  show (R.ofO (strsOf _)).bind _ = _
  rw [strsOf_map]
  show (R.ofO (idxN s ys)).bind _ = _
  rw [h]
  rfl
end Ci
namespace Ci
open PySem PySem.Spec PyProof.Rows L2 Evl
/-! self.a, self.b = self.c.pop() -/
def pop2_t (c i : Nat) (fa fb fc : Str) (G : Gm) (E : XE2) : TS := tAsg (tBM0 G.K "list" rPop (tFld G.K (tVar i) fc)) (gTup G.K 2 (gCons (gAttr G.K (tVar i) fa) (gCons (gAttr G.K (tVar i) fb) gNil)))
def set2F (c i : Nat) (fa fb : Str) (x y : D) (ρ : En) : SR := match ρ[i]? with
  | some (some (.obj sf c' fs)) => if c' = c ∧ fs.length < 900 ∧ (putX fa (.d x) fs).length < 900 then .nx (ρ.set i (some (.obj sf c (putX fb (.d y) (putX fa (.d x) fs))))) else .bad
  | _ => .bad
def pop2_f (c i : Nat) (fa fb fc : Str) (ρ : En) : SR := (getL ρ (.pfld c i fc)).gr fun ds => match ds.getLast? with
  | some (.tup [x, y]) => set2F c i fa fb x y (putP ρ (.lst ds.dropLast) (.pfld c i fc))
  | _ => .bad
theorem pop2_ok {c i : Nat} {fa fb fc : Str} {G : Gm} {E : XE2} {ρ : En} (hc : Cls G.K (G.cm c)) (hn : NoAttr G.K (G.cm c) fc) (ha : NoAttr G.K (G.cm c) fa) (hb : NoAttr G.K (G.cm c) fb) : Runs G E (pop2_t c i fa fb fc G E) ρ (pop2_f c i fa fb fc ρ) := fun pn B0 H0 B H σ g S D' s0 => by
  obtain ⟨ds, hp, s1⟩ := s0.gr
  split at s1 <;> first | exact s1.elim | skip
  rename_i x y el
  obtain ⟨a, us, k1, k3, r, k5⟩ := placeL (E := E) (p := .pfld c i fc) ⟨hc, hn⟩ S hp
  obtain ⟨w, w1, rl⟩ := r.last el
  have S2 := k5 B H _ _ (Go.refl S.ex) r.dropLast
  have g2 := putNext g (Go.refl S.ex) S2
  show tFld G.K (tVar i) fc σ H fun x H1 => tyV G.K "list" x H1 ∧ rPop x [] H1 fun v H2 => gTup G.K 2 (gCons (gAttr G.K (tVar i) fa) (gCons (gAttr G.K (tVar i) fb) gNil)) v σ H2 D'.nx
  refine k1 H _ (ExT.refl H) ⟨.inl ⟨rfl, _, sq_of k3⟩, a, us, w, rfl, rfl, k3, w1, ?_⟩
  generalize putP ρ (.lst ds.dropLast) (.pfld c i fc) = ρ2 at *
  generalize upd H a (.lst us.dropLast) = H2 at *
  cases rl with
  | tup ht rs =>
    cases rs with
    | cons rx rs =>
      cases rs with
      | cons ry rs =>
        cases rs
        unfold set2F at s1
        split at s1 <;> first | exact s1.elim | skip
        rename_i sf c' fs ho
        split at s1 <;> first | exact s1.elim | skip
        rename_i cond
        obtain ⟨rfl, l1, l2⟩ := cond
        refine ⟨_, _, rfl, ex_t S2.ex ht, rfl, _, _, rfl, ?_⟩
        obtain ⟨l, dx, fv, e1, e2, e3, S3⟩ := (SlotsV.mk S2 (Go.refl S2.ex) rfl (SlotOk.pin (pn := 0) (SlotOk.fv (FvOk.d rx)) rfl)).fld fa ho
        refine ⟨.ref l, e1, l, _, dx, fv, rfl, e2, hc, ha, by rw [e3]; omega, _, _, rfl, ?_⟩
        have hi : i < ρ2.length := by
          rcases Nat.lt_or_ge i ρ2.length with h | h
          · exact h
          · rw [List.getElem?_eq_none h] at ho; cases ho
        have ho' : (ρ2.set i (some (.obj sf c' (putX fa (.d x) fs))))[i]? = some (some (.obj sf c' (putX fa (.d x) fs))) := List.getElem?_set_self hi
        obtain ⟨l', dx', fv', e1', e2', e3', S4⟩ := (SlotsV.mk S3 (Go.refl S3.ex) rfl (SlotOk.pin (pn := 0) (SlotOk.fv (FvOk.d ry)) rfl)).fld fb ho'
        refine ⟨.ref l', e1', l', _, dx', fv', rfl, e2', hc, hb, by rw [e3']; omega, rfl, ?_⟩
        rw [List.set_set] at S4
        exact s1 B _ _ ⟨g2.bb, S4.ex, S4.ex0, g2.fr⟩ S4
end Ci
namespace Ci
open PySem PySem.Spec PyProof.Rows L2 Evl
/-! a reading method of self within a method that changes self -/
def lendS_f (i : Nat) (a : P .e) (ρ : En) : R RV := match ρ[i]? with
  | some (some (.obj true c fs)) => lentR (ev a (ρ.set i (some (.d (.ins c (fsD fs))))))
  | _ => .bad
def lendS_t (i : Nat) (a : P .e) (G : Gm) (E : XE2) : TE := den G E a
theorem lendS_ok {i : Nat} {a : P .e} {G : Gm} {E : XE2} {ρ : En} (wa : Wf G a) : Does G E (relV G) (lendS_t i a G E) ρ (lendS_f i a ρ) := fun pn H0 B H σ S Q P => by
  unfold lendS_f at P
  split at P <;> first | exact P.elim | skip
  rename_i c fs es
  obtain ⟨ow, S'⟩ := S
  obtain ⟨v, h1, h2⟩ := S'.ok i _ es
  have hi : i < ρ.length := by
    rcases Nat.lt_or_ge i ρ.length with h | h
    · exact h
    · rw [List.getElem?_eq_none h] at es; cases es
  have S2 : Slots G pn H0 B H σ (ρ.set i (some (.obj false c fs))) := by
    refine ⟨_, S'.others (as' := ow i) es ⟨Ex.refl B, fun b o _ nb hb => hb, offT⟩ S'.ex0 S'.ex (fun t e => ?_) fun a m => .inl m⟩
    cases e
    refine ⟨v, h1, ?_⟩
    generalize ow i = as at *
    cases h2 with
    | obj zs h0 hb hl r nd => exact .obj (fun z => by cases z) h0 hb hl r nd
  refine do_lendO (i := i) (fun ρ => sound G a wa E ρ) pn H0 B H σ S2 Q ?_
  rw [List.getElem?_set_self hi]
  show Post G (E σ) (relV G H0) B H (lentR (ev a ((ρ.set i (some (.obj false c fs))).set i (some (.d (.ins c (fsD fs))))))) Q
  rw [List.set_set]
  exact P
end Ci
end

section
set_option Elab.async false
set_option linter.all false
set_option maxRecDepth 100000
set_option maxHeartbeats 2000000
/-! ## a dict of lists of ours: d = {"a": [], ..}, d[k].append(v), by hand -/
namespace Ci
open PySem PySem.Spec PyProof.Rows L2 Evl
theorem valV_look {s : Str} : ∀ {fv : List (Str × V)}, valV (fv.map fun p => ((.inr p.1 : Key), p.2)) (.inr s) = fv.lookup s
  | [] => rfl
  | (f, v) :: r => by
    have ih := valV_look (s := s) (fv := r)
    rw [List.map_cons, List.lookup_cons]
    by_cases c : f = s
    · subst c
      rw [valV_pos rfl, beq_self_eq_true]
    · rw [valV_neg (fun z => c (Sum.inr.inj z)), show (s == f) = false from beq_eq_false_iff_ne.mpr fun z => c z.symm]
      exact ih
section
variable {G : Gm} {pn : Addr} {H0 B H B1 H1 : Hp} {σ : L2.St} {ρ : En}
theorem Slots.dob (S : Slots G pn H0 B H σ ρ) {i : Nat} {fs : List (Str × FV)} (hi : ρ[i]? = some (some (.dob fs))) : ∃ (l : Addr) (fv : List (Str × V)) (ow : Nat → List Addr) (as : List Addr), Slots' G pn H0 B H σ ρ ow ∧ ow i = l :: as ∧ σ[i]? = some (some (.ref l)) ∧ H0 l = none ∧ B l = none ∧ H l = some (.dK (fv.map fun p => ((.inr p.1 : Key), p.2))) ∧ FsOk G H0 B H fv fs as ∧ (l :: as).Nodup := by
  obtain ⟨ow, S⟩ := S
  obtain ⟨v, h1, h2⟩ := S.ok i _ hi
  generalize hw : ow i = cs at h2
  cases h2 with
  | dob h0 hb hl r nd => exact ⟨_, _, ow, _, S, hw, h1, h0, hb, hl, r, nd⟩
/-- one of the lists: where it is, and what becomes of the slots when it changes -/
theorem placeB (S : Slots G pn H0 B H σ ρ) {i : Nat} {fs : List (Str × FV)} {s : Str} {ds : List D} (hi : ρ[i]? = some (some (.dob fs))) (hs : fs.lookup s = some (.lst ds)) : ∃ (l : Addr) (fv : List (Str × V)) (a : Addr) (vs : List V), σ[i]? = some (some (.ref l)) ∧ H l = some (.dK (fv.map fun p => ((.inr p.1 : Key), p.2))) ∧ fv.lookup s = some (.ref a) ∧ H a = some (.lst vs) ∧ Reps G B vs ds ∧
    ∀ B' H' vs' ds', Go G B H B' H' → Reps G B' vs' ds' → Slots G pn H0 B' (upd H' a (.lst vs')) σ (ρ.set i (some (.dob (putX s (.lst ds') fs)))) := by
  obtain ⟨l, fv, ow, as, S', e1, e2, e3, e4, e5, e6, e7⟩ := S.dob hi
  obtain ⟨n1, n2⟩ := List.nodup_cons.mp e7
  obtain ⟨a, o, k1, k2, k3, k4, k5, _⟩ := e6.up (o' := .lst []) (x' := .lst []) (fun y z => by cases z) (.lst .nil) n2 hs
  cases k5 with
  | @lst vs _ r =>
    refine ⟨l, fv, a, vs, e2, e5, k1, k4, r, fun B' H' vs' ds' g r' => ?_⟩
    have S2 := S'.go g
    obtain ⟨a', o', m1, m2, m3, m4, m5, m6⟩ := (e6.go g).up (o' := .lst vs') (x' := .lst ds') (fun y z => by cases z) (.lst r') n2 hs
    rw [k1] at m1
    cases m1
    have nal : l ≠ a := fun z => n1 (z ▸ k2)
    refine ⟨_, S2.others (as' := l :: as) hi (e1 ▸ Off.up (List.mem_cons_of_mem _ k2)) (updT S2.ex0 (e6.addr k2).1 m4 m5.plain) (upd_ex S2.ex m3) (fun t e => ?_) fun b m => .inl (e1 ▸ m)⟩
    cases e
    exact ⟨_, e2, .dob e3 (g.fr _ _ e5 e4) (by rw [upd_ne nal]; exact g.hh _ _ e5) m6 e7⟩
end
/-! d[k].append(v) -/
def keyS (y : RV) : R Str := y.rd.bind fun d => match d with
  | .str s => .ok s
  | _ => .bad
def lstF (fs : List (Str × FV)) (s : Str) : R (List D) := match fs.lookup s with
  | some (.lst ds) => .ok ds
  | _ => .bad
def dapp_t (i : Nat) (k : P .e) (as : P .a) (G : Gm) (E : XE2) : TS := tDrop (tBM G.K "list" Mo.append.den (tDGet (tVar i) (den G E k)) (den G E as))
def dapp_f (i : Nat) (k : P .e) (as : P .a) (ρ : En) : SR := match ρ[i]? with
  | some (some (.dob fs)) => (ev k ρ).sr ρ fun y => (keyS y).gr fun s => (lstF fs s).gr fun xs => (ev as ρ).sr ρ fun ds => (Mo.fn .append xs ds).gr fun ys => .nx (ρ.set i (some (.dob (putX s (.lst ys) fs))))
  | _ => .bad
theorem dapp_ok {i : Nat} {k : P .e} {as : P .a} {G : Gm} {E : XE2} {ρ : En} (wk : Wf G k) (wa : Wf G as) : Runs G E (dapp_t i k as G E) ρ (dapp_f i k as ρ) := fun pn B0 H0 B H σ g S D' s0 => by
  unfold dapp_f at s0
  split at s0 <;> first | exact s0.elim | skip
  rename_i fs ho
  obtain ⟨l0, fv0, _, _, _, _, e20, _⟩ := S.dob ho
  show tDGet (tVar i) (den G E k) σ H fun x H1 => tyV G.K "list" x H1 ∧ den G E as σ H1 fun us H2 => Mo.append.den x us H2 fun _ H3 => D'.nx σ H3
  refine ⟨.ref l0, e20, ?_⟩
  refine sound G k wk E ρ pn H0 B H σ S _ (s0.sr g S fun y ey s1 u B1 H1 g1 r1 => ?_)
  obtain ⟨s, es, s2⟩ := s1.gr
  obtain ⟨xs, exs, s3⟩ := s2.gr
  have hs : fs.lookup s = some (.lst xs) := by
    unfold lstF at exs
    split at exs <;> cases exs
    assumption
  have hu : u = .str s := by
    unfold keyS at es
    cases e : y.rd with
    | ok d =>
      rw [e, R.bind_ok] at es
      split at es <;> cases es
      exact ((r1.rd e).str).1
    | err a b => exact (rd_noerr e).elim
    | bad => rw [e] at es; cases es
  subst hu
  obtain ⟨l, fv, a, us, q1, q2, q3, q4, r, q5⟩ := placeB S ho hs
  rw [e20] at q1
  cases q1
  have g1' := g1
  have dg : DGet H1 l0 (kV (.inr s)) (valV (fv.map fun p => ((.inr p.1 : Key), p.2)) (.inr s)) := DGet.k (g1.hh _ _ q2)
  rw [valV_look, q3] at dg
  refine ⟨l0, .ref a, rfl, dg, .inl ⟨rfl, _, sq_of (g1.hh _ _ q4)⟩, ?_⟩
  refine sound G as wa E ρ pn H0 B1 H1 σ (S.go g1) _ (s3.sr (g.trans g1) (S.go g1) fun ds eds s4 vs B2 H2 g2 r2 => ?_)
  obtain ⟨ys, e2, s5⟩ := s4.gr
  have g12 := g1.trans g2
  have hl := g12.hh _ _ q4
  rcases ds with _ | ⟨d, _ | ⟨_, _⟩⟩ <;> first | (cases e2; done) | skip
  simp only [Mo.fn] at e2
  by_cases c : xs.length < sizeLine
  · rw [if_pos c] at e2
    cases e2
    cases r2 with
    | cons r2 r3 =>
    cases r3
    refine ⟨a, us, _, rfl, rfl, hl, by rw [r.len]; exact c, ?_⟩
    have S2 := q5 B2 H2 (us ++ [_]) (xs ++ [d]) g12 ((r.mono g12.bb).app (.cons r2 .nil))
    exact s5 B2 _ _ (putNext g g12 S2) S2
  · rw [if_neg c] at e2
    cases e2
/-! d = {"a": [], "b": [], ..} -/
theorem nodup_inr : ∀ {l : List Str}, l.Nodup → (l.map (Sum.inr : Str → Key)).Nodup
  | [], _ => List.nodup_nil
  | a :: r, h => by
    obtain ⟨h1, h2⟩ := List.nodup_cons.mp h
    exact List.nodup_cons.mpr ⟨fun m => by
      obtain ⟨b, mb, e⟩ := List.mem_map.mp m
      exact h1 (Sum.inr.inj e ▸ mb), nodup_inr h2⟩
theorem putK_new {acc : List (Key × V)} {k : Key} {v : V} (h : k ∉ acc.map (·.1)) : putK acc k v = acc ++ [(k, v)] := by
  unfold putK
  rw [if_neg]
  intro z
  rw [List.any_eq_true] at z
  obtain ⟨x, m, e⟩ := z
  exact h (List.mem_map.mpr ⟨x, m, of_decide_eq_true e⟩)
theorem merge_new : ∀ {more acc : List (Key × V)}, (acc.map (·.1) ++ more.map (·.1)).Nodup → mergeK acc more = acc ++ more
  | [], acc, _ => by rw [List.append_nil]; rfl
  | (k, v) :: r, acc, h => by
    have hk : k ∉ acc.map (·.1) := fun m => (List.nodup_append.mp h).2.2 k m k List.mem_cons_self rfl
    show mergeK (putK acc k v) r = _
    rw [putK_new hk, merge_new (acc := acc ++ [(k, v)]) (by rw [List.map_append, List.append_assoc]; exact h), List.append_assoc]
    rfl
section
variable {G : Gm} {H0 B : Hp} {σ : L2.St}
theorem pairs_new : ∀ (ks : List Str) {H1 : Hp} {Q : List (V × V) → Hp → Prop}, Ex H0 H1 → Ex B H1 →
    (∀ (H2 : Hp) (fv : List (Str × V)) (as : List Addr), Ex H1 H2 → FsOk G H0 B H2 fv (ks.map fun k => (k, .lst [])) as → as.Nodup → (∀ a, a ∈ as → H1 a = none) → fv.map (·.1) = ks → Q (fv.map fun p => (V.str p.1, p.2)) H2) →
    tPairs (ks.map fun k => (tC (.str k), tLst tNil)) σ H1 Q
  | [], H1, Q, _, _, h => h H1 [] [] (Ex.refl H1) .nil List.nodup_nil (fun a m => by cases m) rfl
  | k :: r, H1, Q, e0, eb, h => by
    show tLst tNil σ H1 fun y H2 => tPairs (r.map fun k => (tC (.str k), tLst tNil)) σ H2 fun ps H3 => Q ((V.str k, y) :: ps) H3
    refine ⟨Nat.le_of_ble_eq_true rfl, fun l hl => ?_⟩
    have el : Ex H1 (upd H1 l (.lst [])) := Ex.new hl
    refine pairs_new r (e0.trans el) (eb.trans el) fun H2 fv as e2 f nd fr ek => ?_
    have nl : l ∉ as := fun m => by
      have := fr l m
      rw [upd_same] at this
      cases this
    refine h H2 ((k, .ref l) :: fv) ([l] ++ as) (el.trans e2) (.cons (.own (none_of_ex e0 hl) (none_of_ex eb hl) (e2 _ _ upd_same) (.lst .nil)) f) (List.nodup_cons.mpr ⟨nl, nd⟩) (fun a m => ?_) (by rw [List.map_cons, ek])
    rcases List.mem_cons.mp m with z | z
    · rw [z]; exact hl
    · have := fr a z
      cases q : H1 a with
      | none => rfl
      | some o => rw [el a o q] at this; cases this
end
def dnew_t (i : Nat) (ks : List Str) (_G : Gm) (_E : XE2) : TS := tAsg (tDisp (ks.map fun k => (tC (.str k), tLst tNil))) (gName i)
def dnew_f (i : Nat) (ks : List Str) (ρ : En) : SR := .nx (ρ.set i (some (.dob (ks.map fun k => (k, .lst [])))))
theorem dnew_ok {i : Nat} {ks : List Str} {G : Gm} {E : XE2} {ρ : En} (hk : ks.Nodup) (hl : ks.length ≤ 15) : Runs G E (dnew_t i ks G E) ρ (dnew_f i ks ρ) := fun pn B0 H0 B H σ g S D' s0 => fun p hp => by
  have ep : Ex H (upd H p (.dK [])) := Ex.new hp
  refine pairs_new (G := G) (H0 := H) (B := B) ks ep (S.ex.trans ep) fun H2 fv as e2 f nd fr ek => ?_
  have k1 : ((fv.map fun p => ((.inr p.1 : Key), p.2)).map (·.1)).Nodup := by
    rw [List.map_map]
    have : (fv.map (·.1)).Nodup := by rw [ek]; exact hk
    rw [show (fv.map ((fun x : Key × V => x.1) ∘ fun p : Str × V => ((.inr p.1 : Key), p.2))) = (fv.map (·.1)).map (Sum.inr : Str → Key) by rw [List.map_map]; rfl]
    exact nodup_inr this
  refine ⟨e2 _ _ upd_same, fv.map fun p => ((.inr p.1 : Key), p.2), ?_, ?_, ?_⟩
  · rw [List.map_map]
    rfl
  · rw [List.length_map, ← List.length_map (f := (·.1)) (as := fv), ek]
    exact hl
  · have np : ∀ a, a ∈ as → a ≠ p := fun a m z => by
      have := fr a m
      rw [z, upd_same] at this
      cases this
    have eq : mergeK [] (fv.map fun p => ((.inr p.1 : Key), p.2)) = fv.map fun p => ((.inr p.1 : Key), p.2) := merge_new (acc := []) k1
    rw [eq]
    have hh : Ex H (upd H2 p (.dK (fv.map fun p => ((.inr p.1 : Key), p.2)))) := fun b o q => by
      rw [upd_ne (ne_of_none q hp)]
      exact e2 _ _ (ep _ _ q)
    have gg : Go G B H B (upd H2 p (.dK (fv.map fun p => ((.inr p.1 : Key), p.2)))) := ⟨Ex.refl B, S.ex.trans hh, .of hh, fun _ _ _ q => q⟩
    have off : Off G [p] B H2 B (upd H2 p (.dK (fv.map fun p => ((.inr p.1 : Key), p.2)))) := Off.up (List.mem_singleton.mpr rfl)
    have ok : SlotOk G pn H B (upd H2 p (.dK (fv.map fun p => ((.inr p.1 : Key), p.2)))) (.ref p) (.dob (ks.map fun k => (k, .lst []))) (p :: as) :=
      .dob hp (none_of_ex S.ex hp) upd_same (f.off off fun a m z => np a m (List.mem_singleton.mp z)) (List.nodup_cons.mpr ⟨fun m => np p m rfl, nd⟩)
    exact s0 B _ _ (g.trans gg) ((SlotsV.mk S gg rfl ok).set i)
end Ci
/-! ## the module's dicts whose values are tuples, by hand -/
namespace Ci
open PySem PySem.Spec PyProof.Rows L2 Evl
def rKdV (a : Addr) (kvs : List (Str × V)) : R2 := fun x y H Q => x = .ref a ∧ ∃ z c, y = .str z ∧ kvs.lookup z = some c ∧ Q c H
/-- the table: key, which constant tuple, what it holds -/
abbrev Kt := List (Str × Nat × List D)
def ktV (G : Gm) (t : Kt) : List (Str × V) := t.map fun r => (r.1, .ref (G.kt r.2.1))
def ktD (t : Kt) : List (Str × List D) := t.map fun r => (r.1, r.2.2)
def kdT_t (j : Nat) (t : Kt) (k : P .e) (G : Gm) (E : XE2) : TE := tOp (rKdV (G.kt j) (ktV G t)) (tC (.ref (G.kt j))) (den G E k)
def ktF (t : Kt) : D → R RV
  | .str z => (R.ofO ((ktD t).lookup z)).bind fun ds => .ok (dv (.tup ds))
  | _ => .bad
def kdT_f (_j : Nat) (t : Kt) (k : P .e) (ρ : En) : R RV := (ev k ρ).bind fun y => y.rd.bind (ktF t)
theorem kt_look {G : Gm} {z : Str} {ds : List D} : ∀ {t : Kt}, (ktD t).lookup z = some ds → ∃ r ∈ t, (ktV G t).lookup z = some (.ref (G.kt r.2.1)) ∧ r.2.2 = ds
  | [], h => by cases h
  | r :: t, h => by
    show ∃ x ∈ r :: t, ((r.1, V.ref (G.kt r.2.1)) :: ktV G t).lookup z = _ ∧ _
    replace h : ((r.1, r.2.2) :: ktD t).lookup z = some ds := h
    rw [List.lookup_cons] at h ⊢
    cases b : (z == r.1) with
    | true =>
      rw [b] at h
      exact ⟨r, List.mem_cons_self, by simp only [List.lookup_cons, b], Option.some.inj h⟩
    | false =>
      rw [b] at h
      obtain ⟨x, m, e1, e2⟩ := kt_look (G := G) h
      exact ⟨x, List.mem_cons_of_mem _ m, by simp only [List.lookup_cons, b]; exact e1, e2⟩
theorem kdT_ok {j : Nat} {t : Kt} {k : P .e} {G : Gm} {E : XE2} {ρ : En} (wk : Wf G k) (hq : ∀ r ∈ t, ∀ B : Hp, ∃ vs, SqT G.K B (G.kt r.2.1) vs ∧ Reps G B vs r.2.2) : Does G E (relV G) (kdT_t j t k G E) ρ (kdT_f j t k ρ) := fun pn H0 B H σ S Q P =>
  sound G k wk E ρ pn H0 B H σ S _ (P.bind fun x ex P v B1 H1 g1 r1 => by
    cases e : x.rd with
    | ok d =>
      rw [e, R.bind_ok] at P
      unfold ktF at P
      split at P <;> first | exact P.elim | skip
      rename_i z
      cases e2 : (ktD t).lookup z with
      | none => rw [e2] at P; exact P.elim
      | some ds =>
        rw [e2] at P
        obtain ⟨rfl, _⟩ := (r1.rd e).str
        obtain ⟨r, m, e3, rfl⟩ := kt_look (G := G) e2
        obtain ⟨vs, q1, q2⟩ := hq r m B1
        exact ⟨rfl, z, _, rfl, e3, P _ B1 H1 g1 (.d (.tup q1 q2))⟩
    | err a b => exact (rd_noerr e).elim
    | bad => rw [e] at P; exact P.elim)
end Ci
namespace Ci
open PySem PySem.Spec PyProof.Rows L2 Evl
end Ci
end

section
set_option Elab.async false
set_option linter.all false
set_option maxRecDepth 100000
set_option maxHeartbeats 4000000
/-! ## lambdas: handed to a def, called there -/
namespace Ci
open PySem PySem.Spec PyProof.Rows L2 Evl LamX NdefX LamP

structure LamI where
  f : Addr
  F : NF
  ws : List V
  cs : List D
  φ : List D → R RV
/-- what a lambda promises; cs: what its captured cells hold -/
def PrL (G : Gm) (ms : List Bool) (cs : List D) (φ : List D → R RV) (wo : List (Option V)) : Sp := fun vs H Q E => ∃ B ds ws, wo = ws.map some ∧ Ex B H ∧ Reps G B ws cs ∧ ArgsOk G B H ms vs ds ∧ TbOk G B H ∧ Post G E (RvOk G) B H (φ ds) Q
theorem PrL.len {G : Gm} {ms : List Bool} {cs : List D} {φ : List D → R RV} {n : Nat} (h : ms.length = n) : ∀ wo vs H Q E, PrL G ms cs φ wo vs H Q E → vs.length = n := fun wo vs H Q E ⟨B, ds, ws, _, _, _, a, _⟩ => a.len.1.trans h
/-! ### its body -/
theorem startF_slots {G : Gm} {B H : Hp} {pn : Addr} {N : List Str} {ms : List Bool} {vs ws : List V} {ds cs : List D} (e : Ex B H) (hm : (ms.all fun b => !b) = true) (a : ArgsOk G B H ms vs ds) (r : Reps G B ws cs) (t : TbOk G B H) :
    Slots G pn H B H (startF N vs (ws.map some)) (padE N.length (startE ms ds ++ cs.map fun c => some (.d c))) := by
  refine ⟨fun _ => [], ?_, ExT.refl H, e, fun i s h => ?_, (fun i j si sj a _ _ m _ => nomatch m), t⟩
  · unfold startF padE
    simp only [List.length_append, List.length_map, List.length_replicate, a.len.2, r.len]
    omega
  · have h := padE_some h
    by_cases c : i < vs.length
    · rw [List.getElem?_append_left (by rw [a.len.2]; exact c)] at h
      obtain ⟨v, h1, h2⟩ := a.slotD (pn := pn) (H0 := H) hm i s h
      refine ⟨v, ?_, h2⟩
      unfold startF
      rw [List.getElem?_append_left (by rw [List.length_map]; exact c), List.getElem?_map, h1]
      rfl
    · rw [List.getElem?_append_right (by rw [a.len.2]; omega), a.len.2, List.getElem?_map] at h
      cases ec : cs[i - vs.length]? with
      | none => rw [ec] at h; cases h
      | some d =>
        rw [ec] at h
        cases h
        obtain ⟨v, h1, h2⟩ := r.get ec
        refine ⟨v, ?_, .fv (.d h2)⟩
        have lt : i - vs.length < ws.length := (List.getElem?_eq_some_iff.mp h1).1
        unfold startF
        rw [List.getElem?_append_right (by rw [List.length_map]; omega), List.getElem?_append_left (by rw [List.length_map, List.length_map]; exact lt), List.getElem?_map, List.length_map, h1]
        rfl
/-- what a lambda computes: n names, its expression -/
def lamF (n : Nat) (ms : List Bool) (e : P .e) (cs : List D) (ds : List D) : R RV := ev e (padE n (startE ms ds ++ cs.map fun c => some (.d c)))
theorem lamBody {G : Gm} {N : List Str} {ms : List Bool} {e : P .e} {cs : List D} {wo : List (Option V)} {vs : List V} {H : Hp} {Q : VK} {E : XK} (w : Wf G e) (hm : (ms.all fun b => !b) = true) (h : PrL G ms cs (lamF N.length ms e cs) wo vs H Q E) : den G (fun _ => E) e (startF N vs wo) H Q := by
  obtain ⟨B, ds, ws, rfl, eb, r, a, t, P⟩ := h
  exact sound G e w (fun _ => E) _ 0 H B H _ (startF_slots eb hm a r t) Q P
theorem lok_mk {P : Program} {w : World} {K : PySem.W.Frag} {mg : Str → Option Value} {base : Heap} {CX : CXT} {k : Nat} {f c : Addr} {q : Str} {params : Arguments} {scope : Scope} {cl : List (Str × Addr)} {b : Expr} {N ps fr : List Str} {sp : List (Option V) → Sp} (S : NScope N ps fr scope)
    (hb : ∀ (pm ctv : Value) (us : List Value), us.length = ps.length → bindArgs (PySem.W.kla_fn "<lambda>" q params b scope cl pm (.ref c) ctv) ⟨us, []⟩ = (Pure.pure (ps.zip us) : Sem (List (Str × Value)))) (len : ∀ ws vs H Q E, sp ws vs H Q E → vs.length = ps.length)
    (hbody : ∀ (A : Around) (outer : List Env) (s : Shared) (H : Hp) (vs : List V) (ws : List (Option V)) (Q : VK) (E : XK), Room k (A.deeper (envF ⟨"<lambda>", q, params, [], scope, cl, c⟩ f s.heap.objs.size)) → ws.length = fr.length → sp ws vs H Q E →
      ∃ t, PE (ncx CX P w K mg base N ⟨"<lambda>", q, params, [], scope, cl, c⟩ f A outer s H E) b t ∧ t (startF N vs ws) H Q) :
    LOk P w K mg base CX (k + 1) f ⟨"<lambda>", q, params, [], scope, cl, c⟩ b ps fr sp := lok_of S hb len hbody
/-! ### called in the def that got it -/
def lamC_t (L : LamI) (i : Nat) (ms : List Bool) (as : P .m) (G : Gm) (E : XE2) : TE := fun σ H Q => σ[i]? = some (some (.ref L.f)) ∧ den G E as σ H fun vs H1 => H1 L.F.c = some (CodeO L.F.c L.F.qual) ∧ PrL G ms L.cs L.φ (L.ws.map some) vs H1 Q (E σ)
open Classical in
noncomputable def lamC_f (L : LamI) (i : Nat) (as : P .m) (ρ : En) : R RV := match ρ[i]? with
  | some (some (.lam f c q ws cs)) => if f = L.f ∧ c = L.F.c ∧ q = L.F.qual ∧ ws = L.ws ∧ cs = L.cs then (ev as ρ).bind L.φ else .bad
  | _ => .bad
def SV.ofL (L : LamI) : SV := .lam L.f L.F.c L.F.qual L.ws L.cs
theorem x_lamC {L : LamI} {i : Nat} {as : P .m} {ρ : En} (h : ρ[i]? = some (some (.ofL L))) : lamC_f L i as ρ = (ev as ρ).bind L.φ := by
  unfold lamC_f
  rw [h]
  exact if_pos ⟨rfl, rfl, rfl, rfl, rfl⟩
theorem lamC_ok {L : LamI} {i : Nat} {ms : List Bool} {as : P .m} {G : Gm} {E : XE2} {ρ : En} (hm : Wf.modes as = ms) (wa : Wf G as) : Does G E (relV G) (lamC_t L i ms as G E) ρ (lamC_f L i as ρ) := fun pn H0 B H σ S Q P => by
  unfold lamC_f at P
  split at P <;> first | exact P.elim | skip
  rename_i f c q ws cs hi
  by_cases e : f = L.f ∧ c = L.F.c ∧ q = L.F.qual ∧ ws = L.ws ∧ cs = L.cs
  · rw [if_pos e] at P
    obtain ⟨rfl, rfl, rfl, rfl, rfl⟩ := e
    have S0 := S
    obtain ⟨ow, S'⟩ := S
    obtain ⟨v, h1, h2⟩ := S'.ok i _ hi
    generalize ow i = xs at h2
    cases h2 with
    | lam hc r =>
      refine ⟨h1, ?_⟩
      refine sound G as wa E ρ pn H0 B H σ S0 _ (P.bind fun ds eds P vs B1 H1 g1 r1 => ?_)
      exact ⟨g1.hh _ _ hc, B1, ds, L.ws, rfl, g1.bh, r.mono g1.bb, hm ▸ r1, S0.tb.go g1, P.go (early_V (H0 := H0)) g1⟩
  · rw [if_neg e] at P
    exact P.elim
section
variable {X : Cx} {CX : CXT} {G : Gm} {L : LamI} {b : Expr} {ps fr : List Str} {i j k : Nat} {x : Str} {ms : List Bool} {E : XE2} {as : P .m} {e : Expr} {es : List Expr} {p pos : Pos}
theorem pe_lamC (Fn : LOk X.prog X.w X.K X.mg X.base CX k L.f L.F b ps fr (PrL G ms L.cs L.φ)) (Li : LamIn L.f L.F b fr (L.ws.map some) X.s_0.heap X.H_0 X.outer) (hex : X.ex = []) (hr : Room j X.A) (hk : k ≤ j) (hx : ∀ σ, PassesAt CX X σ (E σ)) (hN : X.N[i]? = some x) (hv : Vis X.env.scope x) (ha : PA X (e :: es) (den G E as))
    (hd : (x == ("__debug__" : Str)) = false := by decide) (hcd : (x == ("__classdict__" : Str)) = false := by decide)
    (he : starEach (e :: es) X.env = (false, eval e X.env) :: starEach es X.env := by rfl) (hpl : (backTo pos (starEach es X.env)).any (·.1) = false := by rfl) :
    PE X (.Call (.Name x p) (e :: es) [] pos) (lamC_t L i ms as G E) := by
  refine ⟨fun pins s σ H Q I h => ?_⟩
  obtain ⟨hs, ht⟩ := h
  refine wpAny_Call_Name_kw (thn ((pe_var (pos := p) hN hv hd hcd).run pins s σ H (fun v H1 => v = .ref L.f ∧ H1 = H) I ⟨.ref L.f, hs, rfl, rfl⟩) fun u s1 ⟨v, H1, I1, r1, q1⟩ => ?_)
  obtain ⟨ev, eH⟩ := q1
  subst ev
  rw [eH] at I1
  obtain rfl : u = Value.ref L.f := r1
  refine PySem.W.callWith_F (first := []) (lam_fnAt (Li.lam hex I1)) (thn (ha.run pos pins s1 σ H _ I1 ht) fun us s2 ⟨vs, H2, I2, r, h2, q⟩ => ⟨lam_fnAt (Li.lam hex I2), ?_⟩) he hpl
  show wpAny _ _ (call (.ref L.f) us) _ _ _
  refine wpAny_call (codeAny_mono (Fn.run X.A X.stack s2 H2 us vs _ Q (E σ) (hr.mono hk) I2.env0 (Li.lam hex I2) h2 (Li.later hex I2) r q) fun r s' hq => ?_)
  cases r with
  | error e => exact hx σ pins H2 s2 e s' I2 hq
  | ok fl =>
    cases fl with
    | ret u => exact I2.after hq
    | next => exact False.elim hq
    | brk => exact False.elim hq
    | cont => exact False.elim hq
end
/-! ### a def whose last argument is a lambda -/
def PrGL (G : Gm) (ms : List Bool) (L : LamI) (m : (List D → R RV) → List D → R RV) : Sp := fun vs H Q E => ∃ B ds, Ex B H ∧ ArgsOk G B H ms vs ds ∧ Reps G B L.ws L.cs ∧ TbOk G B H ∧ H L.F.c = some (CodeO L.F.c L.F.qual) ∧ Post G E (RvOk G) B H (m L.φ ds) Q
structure FnLam (P : Program) (w : World) (K : PySem.W.Frag) (mg : Str → Option Value) (base : Heap) (CX : CXT) (k kl : Nat) (g : Addr) (fd : FuncData) (ps : List Str) (G : Gm) (ms mL : List Bool) (m : (List D → R RV) → List D → R RV) : Prop where
  len : ps.length = ms.length + 1
  run : ∀ (L : LamI) (b : Expr) (qs fr : List Str), LOk P w K mg base CX kl L.f L.F b qs fr (PrL G mL L.cs L.φ) →
    ∀ (A : Around) (outer : List Env) (s : Shared) (H : Hp) (args : Args) (us : List Value) (vs : List V) (Q : VK) (E : XK), Room k A → Env0 P w K mg base A outer s H → BindsTo s fd args (ps.zip (us ++ [.ref L.f])) → Vals vs us →
      LamIn L.f L.F b fr (L.ws.map some) s.heap H outer → PrGL G ms L m vs H Q E → codeAny (model P w) A (.call (.ref g) args) (CR CX outer P w H s Q E) s
/-- n names, the body, what it computes of a lambda -/
def runLam (n : Nat) (ms : List Bool) (b : LamI → P .s) (L : LamI) (ds : List D) : R RV := (ev (b L) (padE n (startE ms ds ++ [some (.ofL L)]))).toR
theorem startL_slots {G : Gm} {B H : Hp} {pn : Addr} {N : List Str} {ms : List Bool} {vs : List V} {ds : List D} {L : LamI} (e : Ex B H) (hm : (ms.all fun b => !b) = true) (a : ArgsOk G B H ms vs ds) (r : Reps G B L.ws L.cs) (hc : H L.F.c = some (CodeO L.F.c L.F.qual)) (t : TbOk G B H) :
    Slots G pn H B H (L2.start N (vs ++ [.ref L.f])) (padE N.length (startE ms ds ++ [some (.ofL L)])) := by
  refine ⟨fun _ => [], ?_, ExT.refl H, e, fun i s h => ?_, (fun i j si sj a _ _ m _ => nomatch m), t⟩
  · unfold L2.start padE
    simp only [List.length_append, List.length_map, List.length_replicate, a.len.2, List.length_cons, List.length_nil]
  · have h := padE_some h
    by_cases c : i < vs.length
    · rw [List.getElem?_append_left (by rw [a.len.2]; exact c)] at h
      obtain ⟨v, h1, h2⟩ := a.slotD (pn := pn) (H0 := H) hm i s h
      refine ⟨v, ?_, h2⟩
      unfold L2.start
      rw [List.getElem?_append_left (by rw [List.length_map, List.length_append]; omega), List.getElem?_map, List.getElem?_append_left c, h1]
      rfl
    · rw [List.getElem?_append_right (by rw [a.len.2]; omega), a.len.2] at h
      cases ec : i - vs.length with
      | zero =>
        rw [ec] at h
        cases h
        refine ⟨.ref L.f, ?_, .lam hc r⟩
        have ei : i = vs.length := by omega
        unfold L2.start
        rw [List.getElem?_append_left (by rw [List.length_map, List.length_append, List.length_singleton]; omega), List.getElem?_map, List.getElem?_append_right (by omega), ei, Nat.sub_self]
        rfl
      | succ n =>
        rw [ec] at h
        simp at h
theorem fnLam_of {P : Program} {w : World} {G : Gm} {mg : Str → Option Value} {base : Heap} {CX : CXT} {k kl : Nat} {x qual : Str} {st : Stmt} {g : Addr} {fd : FuncData} {N ps : List Str} {ms mL : List Bool} {b : LamI → Ci.P .s} {m : (List D → R RV) → List D → R RV}
    (F : Fun G.K x qual st g fd) (S : FnScope N ps (defScope st)) (hl : ps.length = ms.length + 1) (hm : (ms.all fun b => !b) = true) (wf : ∀ L, Wf G (b L)) (hv : ∀ L ds, m L.φ ds ≠ .bad → runLam N.length ms b L ds = m L.φ ds)
    (hbody : ∀ (L : LamI) (bx : Expr) (qs fr : List Str), LOk P w G.K mg base CX kl L.f L.F bx qs fr (PrL G mL L.cs L.φ) → ∀ (cdv : Value) (A : Around) (outer : List Env) (s : Shared) (H : Hp) (E : XK), Room k (A.deeper (envOfC qual (defScope st) s.heap.objs.size g cdv)) →
      LamIn L.f L.F bx fr (L.ws.map some) s.heap H outer → PSs (cxOf CX P w G.K mg base N qual (defScope st) g cdv A outer s H E) (defBody st) (den G (fun _ => E) (b L))) :
    FnLam P w G.K mg base CX (k + 1) kl g fd ps G ms mL m := by
  obtain ⟨oc, od, kV, doc, pm, an, cdv, ct, osl, rfl, lk, hcd⟩ := F.ex
  refine ⟨hl, fun L bx qs fr LO A outer s H args us vs Q E hr e0 hb r Li h => ?_⟩
  obtain ⟨B, ds, eb, a, rc, t, hc, Pp⟩ := h
  refine run_ofS (vs := vs ++ [.ref L.f]) lk hcd S hr e0 hb (r.append (.cons (show L2.RelV (.ref L.f) (.ref L.f) from rfl) .nil)) (by rw [List.length_append, a.len.1, hl]; rfl) fun hr2 => ⟨_, hbody L bx qs fr LO cdv A outer s H E hr2 Li, ?_⟩
  have nb : m L.φ ds ≠ .bad := fun z => by rw [z] at Pp; exact Pp.elim
  refine sound G (b L) (wf L) (fun _ => E) _ 0 B H B H _ (Go.refl eb) (startL_slots eb hm a rc hc t) _ (toR_sat ?_)
  have e := hv L ds nb
  unfold runLam at e
  rw [e]
  exact Pp
/-! ### the call: g(a, .., lambda) -/
def lamG_t (j : Nat) (ms : List Bool) (m : (List D → R RV) → List D → R RV) (φ : List D → List D → R RV) (as : P .m) (js : List Nat) (G : Gm) (E : XE2) : TE := fun σ H Q => den G E as σ H fun vs H1 => ∃ p ws cs, G.T[j]? = some p ∧ TabS H1 p.1 p.2 ∧ js.map (NdefX.slotAt σ) = ws.map some ∧
  ∀ (f : Addr) (F : NF) (H2 : Hp), ExB p.1 H1 H2 → TabS H2 p.1 p.2 → H2 F.c = some (CodeO F.c F.qual) → PrGL G ms ⟨f, F, ws, cs, φ cs⟩ m vs H2 Q (E σ)
def capS (ρ : En) : List Nat → R (List D)
  | [] => .ok []
  | i :: js => match ρ[i]? with
    | some (some (.fv (.d x))) => (capS ρ js).bind fun cs => .ok (x :: cs)
    | _ => .bad
def lamG_f (m : (List D → R RV) → List D → R RV) (φ : List D → List D → R RV) (as : P .m) (js : List Nat) (ρ : En) : R RV := (ev as ρ).bind fun ds => (capS ρ js).bind fun cs => m (φ cs) ds
theorem capS_ok {G : Gm} {pn : Addr} {H0 B H : Hp} {σ : L2.St} {ρ : En} (S : Slots G pn H0 B H σ ρ) : ∀ {js : List Nat} {cs : List D}, capS ρ js = .ok cs → ∃ ws, js.map (NdefX.slotAt σ) = ws.map some ∧ Reps G B ws cs
  | [], cs, h => by
    cases h
    exact ⟨[], rfl, .nil⟩
  | i :: js, cs, h => by
    unfold capS at h
    split at h <;> first | (cases h; done) | skip
    rename_i x hi
    cases e : capS ρ js with
    | bad => rw [e] at h; cases h
    | err a b => rw [e] at h; cases h
    | ok cs2 =>
      rw [e] at h
      cases h
      obtain ⟨ws, h1, h2⟩ := capS_ok S e
      obtain ⟨v, hv, r⟩ := S.data hi
      refine ⟨v :: ws, ?_, .cons r h2⟩
      rw [List.map_cons, List.map_cons, h1]
      unfold NdefX.slotAt
      rw [hv]
theorem capS_noerr {ρ : En} {js : List Nat} {x : Nat} {f : Option (Str × D)} : capS ρ js ≠ .err x f := by
  induction js with
  | nil => intro h; cases h
  | cons i js ih =>
    intro h
    unfold capS at h
    split at h <;> first | (cases h; done) | skip
    cases e : capS ρ js with
    | bad => rw [e] at h; cases h
    | err a b => rw [e] at h; cases h; exact ih e
    | ok cs2 => rw [e] at h; cases h
theorem exB_go {G : Gm} {B H H2 : Hp} {P : Addr} {q : Str} (eb : Ex B H) (t : TbOk G B H) (hu : ∀ p ∈ G.T, p.1 = P → p.2 = q) (hP : TabS H P q) (nP : B P = none) (e : ExB P H H2) (t2 : TabS H2 P q) : Go G B H B H2 := by
  obtain ⟨ps, h1, _⟩ := hP
  refine ⟨Ex.refl B, fun a o h => e a o (fun z => ?_) (eb a o h), ⟨fun a o h p => e a o (fun z => ?_) h, fun a h => ?_, fun p m tt => ?_⟩, fun _ _ _ h => h⟩
  · rw [z, nP] at h; cases h
  · rw [z, h1] at h; cases h; cases p
  · by_cases z : a = P
    · obtain ⟨ps2, h2, _⟩ := t2
      rw [z, h2] at h; cases h
    · cases hh : H a with
      | none => rfl
      | some o => rw [e a o z hh] at h; cases h
  · by_cases z : p.1 = P
    · rw [hu p m z, z]; exact t2
    · exact LamP.TabS.kept tt e z h1
theorem lamG_ok {j : Nat} {ms : List Bool} {m : (List D → R RV) → List D → R RV} {φ : List D → List D → R RV} {as : P .m} {js : List Nat} {G : Gm} {E : XE2} {ρ : En} {p : Addr × Str} (hj : G.T[j]? = some p) (hu : ∀ p' ∈ G.T, p'.1 = p.1 → p'.2 = p.2) (hm : Wf.modes as = ms) (wa : Wf G as) : Does G E (relV G) (lamG_t j ms m φ as js G E) ρ (lamG_f m φ as js ρ) := fun pn H0 B H σ S Q P => by
  refine sound G as wa E ρ pn H0 B H σ S _ (P.bind fun ds eds P vs B1 H1 g1 r1 => ?_)
  have S1 := S.go g1
  cases ec : capS ρ js with
  | bad => rw [ec] at P; exact P.elim
  | err a b => exact (capS_noerr ec).elim
  | ok cs =>
    rw [ec] at P
    obtain ⟨ws, w1, w2⟩ := capS_ok S1 ec
    obtain ⟨nP, tP⟩ := S1.tb p (List.mem_of_getElem? hj)
    refine ⟨p, ws, cs, hj, tP, w1, fun f F H2 ex t2 hc => ?_⟩
    have g2 : Go G B1 H1 B1 H2 := exB_go S1.ex S1.tb hu tP nP ex t2
    exact ⟨B1, ds, g2.bh, (ArgsOk.go g2 (hm ▸ r1)), w2, S1.tb.go g2, hc, P.go (early_V (H0 := H0)) (g1.trans g2)⟩
section
variable {X : Cx} {CX : CXT} {G : Gm} {k kl j : Nat} {g c : Addr} {fd : FuncData} {ps qs fr : List Str} {ms mL : List Bool} {m : (List D → R RV) → List D → R RV} {φ : List D → List D → R RV} {js : List Nat} {x : Str} {E : XE2} {a b : Expr} {ya yb : Ci.P .e} {ba bb : Bool} {params : Arguments} {body : Expr} {scope : Scope} {p lpos pos : Pos} {PT : Addr} {qT qX : Str} {sc : Scope}
def freeB (sc scope : Scope) : Bool := scope.names.all fun y => !decide (y.2 = .free) || (decide (sc.names.lookup y.1 = some .cell) || decide (sc.names.lookup y.1 = some .free))
theorem freeB_ok {sc scope : Scope} (h : freeB sc scope = true) : ∀ y ∈ scope.names, y.2 = .free → sc.names.lookup y.1 = some .cell ∨ sc.names.lookup y.1 = some .free := fun y m e => by
  have q := List.all_eq_true.mp h y m
  simp only [Bool.or_eq_true, Bool.not_eq_true', decide_eq_true_eq, decide_eq_false_iff_not] at q
  exact q.resolve_left fun z => z e
def capB (fr : List Str) (scope : Scope) : Bool := fr.all fun y => scope.names.any fun z => decide (z.1 = y) && decide (z.2 = .free)
theorem capB_ok {fr : List Str} {scope : Scope} (h : capB fr scope = true) : ∀ y ∈ fr, (y, NameKind.free) ∈ scope.names := fun y m => by
  have q := List.any_eq_true.mp (List.all_eq_true.mp h y m)
  obtain ⟨⟨a, b⟩, m2, e⟩ := q
  simp only [Bool.and_eq_true, decide_eq_true_eq] at e
  obtain ⟨rfl, rfl⟩ := e
  exact m2
/-- behind the data: the lambda is made, the def called -/
theorem lamG_end {pins : List (Addr × Obj)} {σ : L2.St} {H : Hp} {s : Shared} {Q : VK} {us : List Value} {vs : List V} (Fn : FnLam X.prog X.w X.K X.mg X.base CX k kl g fd ps G ms mL m) (hr : Room k X.A) (hb : Binds X.K fd ps []) (hx : ∀ σ, PassesAt CX X σ (E σ))
    (hj : G.T[j]? = some (PT, qT)) (hq0 : X.env.qual = qX) (hq : qT = qX ++ "<lambda>") (TB : TabB X.base X.mg c PT) (hcode : X.env.code = .ref c) (hdef : defaultsOf params X.env = ([], []))
    (hsc : X.env.scope = sc) (hfree : freeB sc scope = true) (hfr : capB fr scope = true) (hjs : js.map (fun j => X.N[j]?) = fr.map some)
    (hL : ∀ (f : Addr) (cl : List (Str × Addr)) (c' : Addr) (cs : List D), LOk X.prog X.w X.K X.mg X.base CX kl f ⟨"<lambda>", X.env.qual ++ "<lambda>", params, [], scope, cl, c'⟩ body qs fr (PrL G mL cs (φ cs)))
    (I : Inv X pins σ H s) (r : Vals vs us) (h : ∃ p ws cs, G.T[j]? = some p ∧ TabS H p.1 p.2 ∧ js.map (NdefX.slotAt σ) = ws.map some ∧ ∀ (f : Addr) (F : NF) (H2 : Hp), ExB p.1 H H2 → TabS H2 p.1 p.2 → H2 F.c = some (CodeO F.c F.qual) → PrGL G ms ⟨f, F, ws, cs, φ cs⟩ m vs H2 Q (E σ))
    {R : List Value → Shared → Prop} (hR : ∀ (f : Addr) (s' : Shared), X.K.In s'.heap → wpAny (model X.prog X.w) X.A (call (.ref g) (us ++ [.ref f])) (EP X pins σ Q) X.xe s' → R [.ref f] s') :
    wpAny (model X.prog X.w) X.A (spliced ((false, eval (.Lambda params body scope lpos) X.env) :: backTo pos (starEach [] X.env))) R X.xe s := by
  obtain ⟨p0, ws, cs, ep, hT, hw, k0⟩ := h
  rw [hj] at ep
  cases ep
  have hq : qT = X.env.qual ++ "<lambda>" := by rw [hq0]; exact hq
  have hfree := freeB_ok hfree
  have hfr := capB_ok hfr
  rw [← hsc] at hfree
  dsimp only at hT k0
  rw [hq] at hT
  have hf : ∀ y ∈ scope.names, y.2 = .free → ∃ c, X.env.cells.lookup y.1 = some c := fun y hy e => (hfree y hy e).elim (fun z => I.ok.has _ (.inl z)) fun z => I.ok.has _ (.inr z)
  refine Calls.spliced_cons (lam_make I TB hcode hT hdef hf fun f c' H1 s' I1 ex t1 hat f0 ffr hc => ?_)
  refine Calls.spliced_nil (hR f s' I1.kIn ?_)
  have CA := cells_of I1 (Caps.made (fr := fr) (js := js) I1.ok hfree hfr hjs)
  rw [hw] at CA
  have pr := k0 f ⟨"<lambda>", X.env.qual ++ "<lambda>", params, [], scope, cloFrom X.env.cells scope.names [], c'⟩ H1 ex (by rw [hq]; exact t1) hc
  have len : (us ++ [Value.ref f]).length = ps.length := by
    obtain ⟨B, ds, _, a, _⟩ := pr
    rw [List.length_append, ← r.length, a.len.1, Fn.len]
    rfl
  refine wpAny_call (codeAny_mono (Fn.run ⟨f, _, ws, cs, φ cs⟩ body qs fr (hL f _ c' cs) X.A X.stack s' H1 ⟨us ++ [.ref f], []⟩ us vs Q (E σ) hr I1.env0 ?_ r ⟨hat, f0, ffr, CA⟩ pr) fun r s2 hq => ?_)
  · have q := hb s' (us ++ [.ref f]) I1.kIn (by simpa using len)
    simpa using q
  · cases r with
    | error e => exact hx σ pins H1 s' e s2 I1 hq
    | ok fl =>
      cases fl with
      | ret u => exact I1.after hq
      | next => exact False.elim hq
      | brk => exact False.elim hq
      | cont => exact False.elim hq
theorem pe_lamG2 (Fn : FnLam X.prog X.w X.K X.mg X.base CX k kl g fd ps G ms mL m) (hr : Room k X.A) (hg : Gl X x) (hm : X.mg x = some (.ref g)) (hk : PySem.W.keepIn X.K (.ref g) = true) (hb : Binds X.K fd ps []) (hx : ∀ σ, PassesAt CX X σ (E σ)) (pa : PE X a (den G E ya)) (pb : PE X b (den G E yb))
    (hj : G.T[j]? = some (PT, qT)) (hq0 : X.env.qual = qX) (hq : qT = qX ++ "<lambda>") (TB : TabB X.base X.mg c PT) (hcode : X.env.code = .ref c) (hdef : defaultsOf params X.env = ([], []))
    (hsc : X.env.scope = sc) (hfree : freeB sc scope = true) (hfr : capB fr scope = true) (hjs : js.map (fun j => X.N[j]?) = fr.map some)
    (hL : ∀ (f : Addr) (cl : List (Str × Addr)) (c' : Addr) (cs : List D), LOk X.prog X.w X.K X.mg X.base CX kl f ⟨"<lambda>", X.env.qual ++ "<lambda>", params, [], scope, cl, c'⟩ body qs fr (PrL G mL cs (φ cs)))
    (hdb : (x == ("__debug__" : Str)) = false := by decide) (he : starEach (a :: [b, .Lambda params body scope lpos]) X.env = (false, eval a X.env) :: starEach [b, .Lambda params body scope lpos] X.env := by rfl) (he2 : starEach (b :: [.Lambda params body scope lpos]) X.env = (false, eval b X.env) :: starEach [.Lambda params body scope lpos] X.env := by rfl) (hpl : (backTo pos (starEach [b, .Lambda params body scope lpos] X.env)).any (·.1) = false := by rfl) :
    PE X (.Call (.Name x p) [a, b, .Lambda params body scope lpos] [] pos) (lamG_t j ms m φ (.mcons ba ya (.mcons bb yb .mnil)) js G E) := by
  refine ⟨fun pins s σ H Q I h => ?_⟩
  refine wpAny_Call_Name_kw (ld_glob I hg hm ?_ hdb)
  refine PySem.W.callWith_K (h₀ := X.base) I.ok.mod.kin hk ?_ he hpl
  rw [he, he2]
  show wpAny _ _ (spliced ((false, eval a X.env) :: (false, eval b X.env) :: (false, eval (.Lambda params body scope lpos) X.env) :: backTo pos (starEach [] X.env))) _ _ s
  refine Calls.spliced_cons (thn (pa.run pins s σ H _ I h) fun u s1 ⟨v, H1, I1, r1, h1⟩ => ?_)
  refine Calls.spliced_cons (thn (pb.run pins s1 σ H1 _ I1 h1) fun u2 s2 ⟨v2, H2, I2, r2, h2⟩ => ?_)
  exact lamG_end (us := [u, u2]) (vs := [v, v2]) Fn hr hb hx hj hq0 hq TB hcode hdef hsc hfree hfr hjs hL I2 (.cons r1 (.cons r2 .nil)) h2 fun f s' kin w => ⟨kin, w⟩
end
end Ci
end

section
set_option Elab.async false
set_option linter.all false
set_option maxRecDepth 100000
set_option maxHeartbeats 4000000
/-! ## the end by a Hook of facts: what the top has left, looked at in one run -/
namespace Ci
open PySem PySem.Spec PyProof.Rows L2 Evl
abbrev Fg := PySem.W.Frag
theorem atB_all : ∀ {l : List Bool}, l.all id = true → ∀ (i : Nat) {b : Bool}, l[i]? = some b → b = true
  | [], _, i, b, h => by simp at h
  | x :: r, h, i, b, e => by
    simp only [List.all_cons, Bool.and_eq_true, id] at h
    cases i with
    | zero => cases e; exact h.1
    | succ i => exact atB_all h.2 i (by simpa using e)
theorem facts_at {l : Fg → List Bool} {K : Fg} (h : (l K).all id = true) (i : Nat) {p : Prop} [Decidable p] (e : (l K)[i]? = some (decide p)) : p := of_decide_eq_true (atB_all h i e)
theorem facts_b {l : Fg → List Bool} {K : Fg} (h : (l K).all id = true) (i : Nat) {b : Bool} (e : (l K)[i]? = some b) : b = true := atB_all h i e
/-- a whole number, a text of the module -/
def intB (K : Fg) (x : Str) (i : Int) : Bool := match PySem.W.nsIn K mainGlobals x with
  | some (some (.int j _)) => decide (j = i)
  | _ => false
theorem intB_ok {K : Fg} {x : Str} {i : Int} (h : intB K x i = true) : ∃ t, PySem.W.nsIn K mainGlobals x = some (some (.int i t)) := by
  unfold intB at h
  split at h
  · rename_i j t e
    rw [of_decide_eq_true h] at e
    exact ⟨t, e⟩
  · cases h
def strB (K : Fg) (x : Str) (i : Str) : Bool := match PySem.W.nsIn K mainGlobals x with
  | some (some (.str j _)) => decide (j = i)
  | _ => false
theorem strB_ok {K : Fg} {x : Str} {i : Str} (h : strB K x i = true) : ∃ t, PySem.W.nsIn K mainGlobals x = some (some (.str i t)) := by
  unfold strB at h
  split at h
  · rename_i j t e
    rw [of_decide_eq_true h] at e
    exact ⟨t, e⟩
  · cases h
/-- a tuple of the module -/
def TupK (K : Fg) (a : Addr) (vs : List V) : Prop := ∃ (o : Obj) (its : Array Value) (n : Nat), K.lookup a = some o ∧ o.cls = .type "tuple" ∧ o.data = .seq its n ∧ its.size ≤ sizeLine ∧ Vals vs its.toList
def tupA (K : Fg) (a : Addr) (vs : List V) : Bool := match K.lookup a with
  | some ⟨.type c, _, .seq its _, _⟩ => decide (c = "tuple") && (decide (its.size ≤ sizeLine) && He.relAll vs its.toList)
  | _ => false
theorem tupA_ok {K : Fg} {a : Addr} {vs : List V} (h : tupA K a vs = true) : TupK K a vs := by
  unfold tupA at h
  split at h
  · rename_i c d its n sl e
    obtain ⟨h1, h2⟩ := He.ba h
    obtain ⟨h3, h4⟩ := He.ba h2
    exact ⟨_, its, n, e, by rw [of_decide_eq_true h1], rfl, of_decide_eq_true h3, He.relAll_ok h4⟩
  · cases h
theorem tupK_q {G : Gm} {a : Addr} {vs : List V} {ds : List D} (h : TupK G.K a vs) (r : ∀ B : Hp, Reps G B vs ds) (B : Hp) : ∃ vs, SqT G.K B a vs ∧ Reps G B vs ds := ⟨vs, .inr h, r B⟩
/-- an own exception's class -/
def excB (K : Fg) (C : Addr) (bm : List Value) : Bool := match K.lookup C with
  | some ⟨.type t, _, .cls cd, sl⟩ => decide (t = "type") && (decide (cd.mro = .ref C :: bm) && (cd.hasDict && (!cd.hasDel && (match sl.toList with
    | [_, _, _, _, some (.builtin n), _] => decide (n = "ValueError.__new__")
    | _ => false))))
  | _ => false
theorem excB_ok {K : Fg} {C : Addr} {bm : List Value} (h : excB K C bm = true) : ∃ nm q N bs sn sub ab col dd k0 k1 k2 k3 k5, K.lookup C = some (excClassObj nm q C N bs bm true sn sub ab col dd k0 k1 k2 k3 k5 "ValueError.__new__") := by
  unfold excB at h
  split at h
  · rename_i t dd cd sl e
    obtain ⟨h1, h⟩ := He.ba h
    obtain ⟨h2, h⟩ := He.ba h
    obtain ⟨h3, h⟩ := He.ba h
    obtain ⟨h4, h⟩ := He.ba h
    split at h
    · rename_i k0 k1 k2 k3 n k5 es
      have en : n = "ValueError.__new__" := of_decide_eq_true h
      have et : t = "type" := of_decide_eq_true h1
      have em : cd.mro = .ref C :: bm := of_decide_eq_true h2
      have esl : sl = #[k0, k1, k2, k3, some (.builtin n), k5] := by
        apply Array.toList_inj.mp
        rw [es]
      obtain ⟨nm, bs, mro, N, qn, hd, sn, sub, ab, col, hdel⟩ := cd
      simp only at em h3 h4
      subst em et en esl
      have e4 : hdel = false := by simpa using h4
      subst h3 e4
      exact ⟨nm, qn, N, bs, sn, sub, ab, col, dd, k0, k1, k2, k3, k5, e⟩
    · cases h
  · cases h
theorem oex_of {K : Fg} {C : Addr} {bm : List Value} (h : excB K C bm = true) (hr : PySem.HandSPX.refsVE bm = true) (sa : PySem.W.findIn K (.ref C) "__setattr__" = some (some (.builtin "object.__setattr__"))) (exC : PySem.W.subIn K (.ref C) (.type "BaseException") = some true) (tyC : PySem.W.typeIn K (.ref C) = some (.type "type")) (kC : PySem.W.keepIn K (.ref C) = true) : OexC K C := by
  obtain ⟨nm, q, N, bs, sn, sub, ab, col, dd, k0, k1, k2, k3, k5, e⟩ := excB_ok h
  exact ⟨⟨nm, q, N, bs, bm, sn, sub, ab, col, dd, k0, k1, k2, k3, k5, e, hr⟩, sa, exC, tyC, kC⟩
/-! ### defs -/
theorem fnL_of {K : Fg} {nm qn : Str} {st : Stmt} {f : Addr} (h : ∃ fd, FunD K nm qn (defArgs st) (defBody st) (defScope st) [] [] f fd) : FnL K nm qn st f := by
  obtain ⟨fd, F⟩ := h
  obtain ⟨oc, od, dV, kV, doc, pm, an, cdv, ct, osl, rfl, lk, hcd, hd, _⟩ := F.ex
  rcases hd with ⟨_, rfl⟩ | ⟨z, _⟩
  · exact ⟨⟨od, an, osl, oc, kV, doc, pm, cdv, ct, lk, hcd⟩, F.kp⟩
  · exact absurd rfl z
/-- a def that makes lambdas: where its code object stands -/
structure FunC (K : Fg) (x qual : Str) (st : Stmt) (f : Addr) (fd : FuncData) (c : Addr) : Prop where
  ex : ∃ (oc : Value) (od : Option Addr) (kV doc pm : Value) (an : Option Addr) (ct : Value) (osl : Array (Option Value)),
    fd = PySem.W.fnOf x qual (defArgs st) (defBody st) (defScope st) .none kV doc pm an (.ref c) ct ∧ K.lookup f = some ⟨oc, od, .func fd, osl⟩ ∧ PySem.W.codeIn K (.ref c) qual = true
theorem FnL.atC {K : Fg} {nm qn : Str} {st : Stmt} {f : Addr} {ps : List Str} (h : FnL K nm qn st f) {p : Str × Option Str} (hp : He.fAd K p = f) (hb : ∀ (kV doc pm : Value) (an : Option Addr) (cdv ct : Value) (us : List Value), us.length = ps.length → bindArgs (PySem.W.fnOf nm qn (defArgs st) (defBody st) (defScope st) .none kV doc pm an cdv ct) ⟨us, []⟩ = (Pure.pure (ps.zip us) : Sem (List (Str × Value)))) :
    ∃ d, Fun K nm qn st f d ∧ FunC K nm qn st f d (He.codeOf K p) ∧ L2.Binds K d ps [] := by
  obtain ⟨⟨od, an, sl, oc, kV, dc, pm, cd, ct, l, c⟩, k⟩ := h
  have F := fun_mk (st := st) l c k
  refine ⟨_, F, ?_, F.binds hb⟩
  have hc : ∃ a, cd = .ref a := by
    unfold PySem.W.codeIn at c
    cases cd <;> first | cases c | exact ⟨_, rfl⟩
  obtain ⟨a, rfl⟩ := hc
  have e : He.codeOf K p = a := by
    unfold He.codeOf
    rw [hp, l]
  rw [e]
  exact ⟨oc, od, kV, dc, pm, an, ct, sl, rfl, l, c⟩
theorem FunC.okX {P : Program} {w : World} {K : Fg} {mg : Str → Option Value} {base : Heap} {x qual : Str} {st : Stmt} {f c : Addr} {fd : FuncData} {N ps : List Str} {k : Nat} {sp : Sp} (F : FunC K x qual st f fd c) (S : FnScope N ps (defScope st)) (len : ∀ vs H Q E, sp vs H Q E → vs.length = ps.length)
    (hbody : ∀ (A : Around) (outer : List Env) (s : Shared) (H : Hp) (vs : List V) (Q : VK) (E : XK), Room k (A.deeper (envOfC qual (defScope st) s.heap.objs.size f (.ref c))) → sp vs H Q E →
      ∃ t, PSs (cxOf (L2.CX P w) P w K mg base N qual (defScope st) f (.ref c) A outer s H E) (defBody st) t ∧ t { nx := fun _ H' => Q .non H', rt := Q } (start N vs) H) : FnOk P w K mg base (L2.CX P w) (k + 1) f fd ps sp := by
  obtain ⟨oc, od, kV, doc, pm, an, ct, osl, rfl, lk, hcd⟩ := F.ex
  exact fn_of lk hcd S len fun A outer s H vs Q E hr hsp => hbody A outer s H vs Q E hr hsp
/-! ### the law's beginning, with tables -/
theorem law_startT (G : Gm) (f : List D → R RV) (H : Hp) (a : Addr) (ns : List Int) (hS : SqL G.K H a (ns.map V.int)) (h : f [.scr ns] = .ok (dv (.bl true))) (hT : ∀ p ∈ G.T, H p.1 = some (.tbl #[])) : Pr G [false] f [.ref a] H (fun v _ => v = .bl true) fun _ _ _ => False := by
  have hB : ∀ b o, H b = some o → (∀ p ∈ G.T, p.1 ≠ b) → off H (G.T.map (·.1)) b = some o := fun b o e n => by
    rw [off_out]
    · exact e
    · intro m
      obtain ⟨p, m1, m2⟩ := List.mem_map.mp m
      exact n p m1 m2
  refine ⟨off H (G.T.map (·.1)), [.scr ns], off_exH, .d (.scr ?_) .nil, fun p m => ⟨off_in (List.mem_map.mpr ⟨p, m, rfl⟩), LamX.TabS.nil (hT p m)⟩, ?_⟩
  · rcases hS with (hh | ⟨o, hh⟩) | hh
    · refine .inl (.inl (hB _ _ hh fun p m z => ?_))
      have := hT p m
      rw [z, hh] at this
      cases this
    · refine .inl (.inr ⟨o, hB _ _ hh fun p m z => ?_⟩)
      have := hT p m
      rw [z, hh] at this
      cases this
    · exact .inr hh
  · rw [h]
    intro v B' H' _ r
    have r2 : Rdb G B' H' v (.bl true) := RvOk.rd r rfl
    exact r2.bl
def spT (K : Fg) (T : List (Addr × Str)) (f : List D → R RV) : Sp := fun vs H Q E => ∀ G : Gm, G.K = K → G.T = T → Pr G [false] f vs H Q E
/-- the law, told by the Hook's facts -/
theorem lawAt {l : PySem.W.OpenLaw} {w : World} {K : Fg} {CX : CXT} {k n : Nat} {x : Str} {mg : Str → Option Value} {fa : Addr} {h : Heap} {fas : List He.Fa} {fn : List He.DefD} {ts : List He.Tab} {tf : List He.Defn} {ex : Fg → Bool} {f : List D → R RV} {qs : List Str}
    (c : He.SaysX fas fn ts tf ex w h K) (X : K.In h) (hq : qs.length = tf.length) (hlaw : ∀ ns : List Int, ns.length ≤ n → f [.scr ns] = .ok (dv (.bl true)))
    (hF : ∃ fd : FuncData, (∀ (s : Shared) (u : Value), BindsTo s fd ⟨[u], []⟩ [(x, u)]) ∧ ∀ base : Heap, K.In base → base.Ns mainGlobals mg → (∀ p ∈ tf, LamX.TabB base mg (He.cT K p).1 (He.cT K p).2) → FnOk l.prog w K mg base CX k fa fd [x] (spT K ((tf.map fun p => (He.cT K p).2).zip qs) f)) :
    LamX.LawAtS l w K CX k n x mg fa h := by
  obtain ⟨fd, hb, hF⟩ := hF
  refine ⟨fd, tf.map (He.cT K), spT K ((tf.map fun p => (He.cT K p).2).zip qs) f, fun p m => ?_, fun p m => ?_, fun p m => ?_, hb, fun H a ns hl _ hH hS G e eT => ?_, fun base a b t => hF base a b fun p m => t _ (List.mem_map.mpr ⟨p, m, rfl⟩)⟩
  · obtain ⟨q, m1, rfl⟩ := List.mem_map.mp m
    exact c.empty q m1
  · obtain ⟨q, m1, rfl⟩ := List.mem_map.mp m
    exact c.out q m1
  · obtain ⟨q, m1, rfl⟩ := List.mem_map.mp m
    exact PySem.W.codeHd_of_K X (c.hd q m1)
  · refine law_startT G f H a ns (by rw [e]; exact hS) (hlaw ns hl) fun p m => ?_
    rw [eT] at m
    have m2 := (List.of_mem_zip m).1
    obtain ⟨q, m3, e3⟩ := List.mem_map.mp m2
    rw [← e3]
    exact hH _ (List.mem_map.mpr ⟨q, m3, rfl⟩)
end Ci
end

section
set_option Elab.async false
set_option linter.all false
set_option maxRecDepth 100000
set_option maxHeartbeats 0
namespace Lw
open PySem PySem.Spec PyProof.Rows L2 Ci
def topS (i : Nat) : Stmt := PySem.Challenge.pw_coastersafe_k71_plays_written_and_read.main.body.getD i (.Pass ⟨0, 0, 0, 0⟩)
abbrev s_read_lines : Stmt := topS 6
abbrev s_read_number : Stmt := topS 7
abbrev s_read_numbers : Stmt := topS 8
abbrev s_format_play : Stmt := topS 13
abbrev s_written_scan : Stmt := topS 14
abbrev s_fault_words : Stmt := topS 15
abbrev s_parse_play : Stmt := topS 16
abbrev s_read_scan : Stmt := topS 17
abbrev s__words_before : Stmt := topS 18
abbrev s__read_fault_of_play : Stmt := topS 19
abbrev s_read_fault : Stmt := topS 20
abbrev s__law_cell : Stmt := topS 22
abbrev s__law_draws : Stmt := topS 23
abbrev s__law_like : Stmt := topS 24
abbrev s__law_told : Stmt := topS 25
abbrev s_law : Stmt := topS 26
abbrev s_InvalidText : Stmt := inClass (topS 2) 0
abbrev ze_CoasterError (K : Ci.Fg) : Addr := He.ga K "CoasterError"
abbrev ze_InvalidText (K : Ci.Fg) : Addr := He.ga K "InvalidText"
abbrev zfE_InvalidText (K : Ci.Fg) : Addr := He.ma K (ze_InvalidText K) "__init__"
abbrev zf1 (K : Ci.Fg) : Addr := He.ga K "read_lines"
abbrev zf2 (K : Ci.Fg) : Addr := He.ga K "read_number"
abbrev zf3 (K : Ci.Fg) : Addr := He.ga K "read_numbers"
abbrev zf4 (K : Ci.Fg) : Addr := He.ga K "format_play"
abbrev zf5 (K : Ci.Fg) : Addr := He.ga K "written_scan"
abbrev zf6 (K : Ci.Fg) : Addr := He.ga K "fault_words"
abbrev zf7 (K : Ci.Fg) : Addr := He.ga K "parse_play"
abbrev zf8 (K : Ci.Fg) : Addr := He.ga K "read_scan"
abbrev zf9 (K : Ci.Fg) : Addr := He.ga K "_words_before"
abbrev zf10 (K : Ci.Fg) : Addr := He.ga K "_read_fault_of_play"
abbrev zf11 (K : Ci.Fg) : Addr := He.ga K "read_fault"
abbrev zf12 (K : Ci.Fg) : Addr := He.ga K "_law_cell"
abbrev zf13 (K : Ci.Fg) : Addr := He.ga K "_law_draws"
abbrev zf14 (K : Ci.Fg) : Addr := He.ga K "_law_like"
abbrev zf15 (K : Ci.Fg) : Addr := He.ga K "_law_told"
abbrev zf16 (K : Ci.Fg) : Addr := He.ga K "law"
def dd_read_lines : He.DefD := ⟨("read_lines", none), "read_lines", "read_lines", defArgs s_read_lines, defBody s_read_lines, defScope s_read_lines, [], []⟩
def dd_read_number : He.DefD := ⟨("read_number", none), "read_number", "read_number", defArgs s_read_number, defBody s_read_number, defScope s_read_number, [], []⟩
def dd_read_numbers : He.DefD := ⟨("read_numbers", none), "read_numbers", "read_numbers", defArgs s_read_numbers, defBody s_read_numbers, defScope s_read_numbers, [], []⟩
def dd_format_play : He.DefD := ⟨("format_play", none), "format_play", "format_play", defArgs s_format_play, defBody s_format_play, defScope s_format_play, [], []⟩
def dd_written_scan : He.DefD := ⟨("written_scan", none), "written_scan", "written_scan", defArgs s_written_scan, defBody s_written_scan, defScope s_written_scan, [], []⟩
def dd_fault_words : He.DefD := ⟨("fault_words", none), "fault_words", "fault_words", defArgs s_fault_words, defBody s_fault_words, defScope s_fault_words, [], []⟩
def dd_parse_play : He.DefD := ⟨("parse_play", none), "parse_play", "parse_play", defArgs s_parse_play, defBody s_parse_play, defScope s_parse_play, [], []⟩
def dd_read_scan : He.DefD := ⟨("read_scan", none), "read_scan", "read_scan", defArgs s_read_scan, defBody s_read_scan, defScope s_read_scan, [], []⟩
def dd__words_before : He.DefD := ⟨("_words_before", none), "_words_before", "_words_before", defArgs s__words_before, defBody s__words_before, defScope s__words_before, [], []⟩
def dd__read_fault_of_play : He.DefD := ⟨("_read_fault_of_play", none), "_read_fault_of_play", "_read_fault_of_play", defArgs s__read_fault_of_play, defBody s__read_fault_of_play, defScope s__read_fault_of_play, [], []⟩
def dd_read_fault : He.DefD := ⟨("read_fault", none), "read_fault", "read_fault", defArgs s_read_fault, defBody s_read_fault, defScope s_read_fault, [], []⟩
def dd__law_cell : He.DefD := ⟨("_law_cell", none), "_law_cell", "_law_cell", defArgs s__law_cell, defBody s__law_cell, defScope s__law_cell, [], []⟩
def dd__law_draws : He.DefD := ⟨("_law_draws", none), "_law_draws", "_law_draws", defArgs s__law_draws, defBody s__law_draws, defScope s__law_draws, [], []⟩
def dd__law_like : He.DefD := ⟨("_law_like", none), "_law_like", "_law_like", defArgs s__law_like, defBody s__law_like, defScope s__law_like, [], []⟩
def dd__law_told : He.DefD := ⟨("_law_told", none), "_law_told", "_law_told", defArgs s__law_told, defBody s__law_told, defScope s__law_told, [], []⟩
def dd_law : He.DefD := ⟨("law", none), "law", "law", defArgs s_law, defBody s_law, defScope s_law, [], []⟩
def dd_InvalidText : He.DefD := ⟨("InvalidText", some "__init__"), "__init__", "InvalidText.__init__", defArgs s_InvalidText, defBody s_InvalidText, defScope s_InvalidText, [], []⟩
def fn__0 : List He.DefD := [dd_read_lines,
  dd_read_number,
  dd_read_numbers,
  dd_format_play,
  dd_written_scan,
  dd_fault_words,
  dd_parse_play,
  dd_read_scan,
  dd__words_before,
  dd__read_fault_of_play,
  dd_read_fault,
  dd__law_cell,
  dd__law_draws,
  dd__law_like,
  dd__law_told,
  dd_law,
  dd_InvalidText]
def fn_ : List He.DefD := fn__0
abbrev zp_BUTTONS (K : Ci.Fg) : Addr := He.ga K "BUTTONS"
abbrev zp_KINDS_OF_PARTS (K : Ci.Fg) : Addr := He.ga K "KINDS_OF_PARTS"
def exL__0 (K : Ci.Fg) : List Bool := [decide (PySem.W.nsIn K mainGlobals "read_lines" = some (some (.ref (zf1 K)))),
  decide (PySem.W.nsIn K mainGlobals "read_number" = some (some (.ref (zf2 K)))),
  decide (PySem.W.nsIn K mainGlobals "read_numbers" = some (some (.ref (zf3 K)))),
  decide (PySem.W.nsIn K mainGlobals "format_play" = some (some (.ref (zf4 K)))),
  decide (PySem.W.nsIn K mainGlobals "written_scan" = some (some (.ref (zf5 K)))),
  decide (PySem.W.nsIn K mainGlobals "fault_words" = some (some (.ref (zf6 K)))),
  decide (PySem.W.nsIn K mainGlobals "parse_play" = some (some (.ref (zf7 K)))),
  decide (PySem.W.nsIn K mainGlobals "read_scan" = some (some (.ref (zf8 K)))),
  decide (PySem.W.nsIn K mainGlobals "_words_before" = some (some (.ref (zf9 K)))),
  decide (PySem.W.nsIn K mainGlobals "_read_fault_of_play" = some (some (.ref (zf10 K)))),
  decide (PySem.W.nsIn K mainGlobals "read_fault" = some (some (.ref (zf11 K)))),
  decide (PySem.W.nsIn K mainGlobals "_law_cell" = some (some (.ref (zf12 K)))),
  decide (PySem.W.nsIn K mainGlobals "_law_draws" = some (some (.ref (zf13 K)))),
  decide (PySem.W.nsIn K mainGlobals "_law_like" = some (some (.ref (zf14 K)))),
  decide (PySem.W.nsIn K mainGlobals "_law_told" = some (some (.ref (zf15 K)))),
  decide (PySem.W.nsIn K mainGlobals "law" = some (some (.ref (zf16 K)))),
  decide (PySem.W.specialIn K (.builtin "object.__class__") "__get__" = some (some (.builtin "getset_descriptor.__get__"))),
  decide (PySem.W.takesIn K (.builtin "object.__class__") = some true),
  decide (PySem.W.nsIn K mainGlobals "CoasterError" = some (some (.ref (ze_CoasterError K)))),
  decide (PySem.W.isClsIn K (ze_CoasterError K) = true),
  decide (PySem.W.subIn K (.ref (ze_CoasterError K)) (.type "BaseException") = some true),
  decide (PySem.W.typeIn K (.ref (ze_CoasterError K)) = some (.type "type")),
  decide (PySem.W.subIn K (.ref (ze_CoasterError K)) (.ref (ze_CoasterError K)) = some true),
  decide (PySem.W.excIn K (ze_CoasterError K) [.type "ValueError", .type "Exception", .type "BaseException", .type "object"] "ValueError.__new__" = true),
  decide (PySem.W.keepIn K (.ref (ze_CoasterError K)) = true),
  decide (PySem.W.findIn K (.ref (ze_CoasterError K)) "__getattribute__" = some (some (.builtin "BaseException.__getattribute__"))),
  decide (PySem.W.findIn K (.ref (ze_CoasterError K)) "__getattr__" = some none),
  decide (PySem.W.hasDictIn K (ze_CoasterError K) = true),
  decide (PySem.W.findIn K (.ref (ze_CoasterError K)) "__class__" = some (some (.builtin "object.__class__"))),
  decide (PySem.W.mroIn K (ze_CoasterError K) (.type "object") = some true)]
def exL__1 (K : Ci.Fg) : List Bool := [decide (PySem.W.kitOne K (.ref (ze_CoasterError K)) (.ref (ze_InvalidText K)) = some false),
  decide (PySem.W.nsIn K mainGlobals "InvalidText" = some (some (.ref (ze_InvalidText K)))),
  decide (PySem.W.isClsIn K (ze_InvalidText K) = true),
  decide (PySem.W.subIn K (.ref (ze_InvalidText K)) (.type "BaseException") = some true),
  decide (PySem.W.typeIn K (.ref (ze_InvalidText K)) = some (.type "type")),
  decide (PySem.W.subIn K (.ref (ze_InvalidText K)) (.ref (ze_InvalidText K)) = some true),
  Ci.excB K (ze_InvalidText K) [.ref (ze_CoasterError K), .type "ValueError", .type "Exception", .type "BaseException", .type "object"],
  decide (PySem.W.findIn K (.ref (ze_InvalidText K)) "__setattr__" = some (some (.builtin "object.__setattr__"))),
  decide (PySem.W.keepIn K (.ref (ze_InvalidText K)) = true),
  decide (PySem.W.findIn K (.ref (ze_InvalidText K)) "__init__" = some (some (.ref (zfE_InvalidText K)))),
  decide (PySem.W.typeIn K (.ref (zfE_InvalidText K)) = some (.type "function")),
  decide (PySem.W.findIn K (.ref (ze_InvalidText K)) "line" = some none),
  decide (PySem.W.findIn K (.ref (ze_InvalidText K)) "__getattribute__" = some (some (.builtin "BaseException.__getattribute__"))),
  decide (PySem.W.findIn K (.ref (ze_InvalidText K)) "__getattr__" = some none),
  decide (PySem.W.hasDictIn K (ze_InvalidText K) = true),
  decide (PySem.W.findIn K (.ref (ze_InvalidText K)) "__class__" = some (some (.builtin "object.__class__"))),
  decide (PySem.W.mroIn K (ze_InvalidText K) (.type "object") = some true),
  decide (PySem.W.kitOne K (.ref (ze_InvalidText K)) (.ref (ze_InvalidText K)) = some true),
  decide (PySem.W.subIn K (.ref (ze_InvalidText K)) (.ref (ze_CoasterError K)) = some true),
  decide (PySem.W.nsIn K mainGlobals "abs" = some none),
  decide (PySem.W.nsIn K mainGlobals "all" = some none),
  decide (PySem.W.nsIn K mainGlobals "bool" = some none),
  decide (PySem.W.nsIn K mainGlobals "enumerate" = some none),
  decide (PySem.W.nsIn K mainGlobals "int" = some none),
  decide (PySem.W.nsIn K mainGlobals "isinstance" = some none),
  decide (PySem.W.nsIn K mainGlobals "len" = some none),
  decide (PySem.W.nsIn K mainGlobals "list" = some none),
  decide (PySem.W.nsIn K mainGlobals "range" = some none),
  decide (PySem.W.nsIn K mainGlobals "str" = some none),
  decide (PySem.W.nsIn K mainGlobals "tuple" = some none)]
def exL__2 (K : Ci.Fg) : List Bool := [decide (PySem.W.nsIn K mainGlobals "zip" = some none),
  decide (PySem.W.nsIn K mainGlobals "BUTTONS" = some (some (.ref (zp_BUTTONS K)))),
  Ci.tupA K (zp_BUTTONS K) [.str "go", .str "stop", .str "open"],
  Ci.strB K "DIGITS" "0123456789",
  Ci.strB K "EMPTY_SCAN" "-",
  decide (PySem.W.nsIn K mainGlobals "KINDS_OF_PARTS" = some (some (.ref (zp_KINDS_OF_PARTS K)))),
  Ci.tupA K (zp_KINDS_OF_PARTS K) [.str "sensor", .str "present", .str "brake"],
  Ci.intB K "MOST_DIGITS" (9)]
def exL_ (K : Ci.Fg) : List Bool := exL__0 K ++ (exL__1 K ++ (exL__2 K))
theorem h_a1 {K : Ci.Fg} (cx : (exL_ K).all id = true) : PySem.W.nsIn K mainGlobals "read_lines" = some (some (.ref (zf1 K))) := Ci.facts_at cx 0 rfl
theorem h_a2 {K : Ci.Fg} (cx : (exL_ K).all id = true) : PySem.W.nsIn K mainGlobals "read_number" = some (some (.ref (zf2 K))) := Ci.facts_at cx 1 rfl
theorem h_a3 {K : Ci.Fg} (cx : (exL_ K).all id = true) : PySem.W.nsIn K mainGlobals "read_numbers" = some (some (.ref (zf3 K))) := Ci.facts_at cx 2 rfl
theorem h_a4 {K : Ci.Fg} (cx : (exL_ K).all id = true) : PySem.W.nsIn K mainGlobals "format_play" = some (some (.ref (zf4 K))) := Ci.facts_at cx 3 rfl
theorem h_a5 {K : Ci.Fg} (cx : (exL_ K).all id = true) : PySem.W.nsIn K mainGlobals "written_scan" = some (some (.ref (zf5 K))) := Ci.facts_at cx 4 rfl
theorem h_a6 {K : Ci.Fg} (cx : (exL_ K).all id = true) : PySem.W.nsIn K mainGlobals "fault_words" = some (some (.ref (zf6 K))) := Ci.facts_at cx 5 rfl
theorem h_a7 {K : Ci.Fg} (cx : (exL_ K).all id = true) : PySem.W.nsIn K mainGlobals "parse_play" = some (some (.ref (zf7 K))) := Ci.facts_at cx 6 rfl
theorem h_a8 {K : Ci.Fg} (cx : (exL_ K).all id = true) : PySem.W.nsIn K mainGlobals "read_scan" = some (some (.ref (zf8 K))) := Ci.facts_at cx 7 rfl
theorem h_a9 {K : Ci.Fg} (cx : (exL_ K).all id = true) : PySem.W.nsIn K mainGlobals "_words_before" = some (some (.ref (zf9 K))) := Ci.facts_at cx 8 rfl
theorem h_a10 {K : Ci.Fg} (cx : (exL_ K).all id = true) : PySem.W.nsIn K mainGlobals "_read_fault_of_play" = some (some (.ref (zf10 K))) := Ci.facts_at cx 9 rfl
theorem h_a11 {K : Ci.Fg} (cx : (exL_ K).all id = true) : PySem.W.nsIn K mainGlobals "read_fault" = some (some (.ref (zf11 K))) := Ci.facts_at cx 10 rfl
theorem h_a12 {K : Ci.Fg} (cx : (exL_ K).all id = true) : PySem.W.nsIn K mainGlobals "_law_cell" = some (some (.ref (zf12 K))) := Ci.facts_at cx 11 rfl
theorem h_a13 {K : Ci.Fg} (cx : (exL_ K).all id = true) : PySem.W.nsIn K mainGlobals "_law_draws" = some (some (.ref (zf13 K))) := Ci.facts_at cx 12 rfl
theorem h_a14 {K : Ci.Fg} (cx : (exL_ K).all id = true) : PySem.W.nsIn K mainGlobals "_law_like" = some (some (.ref (zf14 K))) := Ci.facts_at cx 13 rfl
theorem h_a15 {K : Ci.Fg} (cx : (exL_ K).all id = true) : PySem.W.nsIn K mainGlobals "_law_told" = some (some (.ref (zf15 K))) := Ci.facts_at cx 14 rfl
theorem h_a16 {K : Ci.Fg} (cx : (exL_ K).all id = true) : PySem.W.nsIn K mainGlobals "law" = some (some (.ref (zf16 K))) := Ci.facts_at cx 15 rfl
theorem h_iN {K : Ci.Fg} (cx : (exL_ K).all id = true) : PySem.W.specialIn K (.builtin "object.__class__") "__get__" = some (some (.builtin "getset_descriptor.__get__")) := Ci.facts_at cx 16 rfl
theorem h_iT {K : Ci.Fg} (cx : (exL_ K).all id = true) : PySem.W.takesIn K (.builtin "object.__class__") = some true := Ci.facts_at cx 17 rfl
theorem h_aE_CoasterError {K : Ci.Fg} (cx : (exL_ K).all id = true) : PySem.W.nsIn K mainGlobals "CoasterError" = some (some (.ref (ze_CoasterError K))) := Ci.facts_at cx 18 rfl
theorem h_iE_CoasterError {K : Ci.Fg} (cx : (exL_ K).all id = true) : PySem.W.isClsIn K (ze_CoasterError K) = true := Ci.facts_at cx 19 rfl
theorem h_bE_CoasterError {K : Ci.Fg} (cx : (exL_ K).all id = true) : PySem.W.subIn K (.ref (ze_CoasterError K)) (.type "BaseException") = some true := Ci.facts_at cx 20 rfl
theorem h_tE_CoasterError {K : Ci.Fg} (cx : (exL_ K).all id = true) : PySem.W.typeIn K (.ref (ze_CoasterError K)) = some (.type "type") := Ci.facts_at cx 21 rfl
theorem h_sE_CoasterError {K : Ci.Fg} (cx : (exL_ K).all id = true) : PySem.W.subIn K (.ref (ze_CoasterError K)) (.ref (ze_CoasterError K)) = some true := Ci.facts_at cx 22 rfl
theorem h_xE_CoasterError {K : Ci.Fg} (cx : (exL_ K).all id = true) : PySem.W.excIn K (ze_CoasterError K) [.type "ValueError", .type "Exception", .type "BaseException", .type "object"] "ValueError.__new__" = true := Ci.facts_at cx 23 rfl
theorem h_kE_CoasterError {K : Ci.Fg} (cx : (exL_ K).all id = true) : PySem.W.keepIn K (.ref (ze_CoasterError K)) = true := Ci.facts_at cx 24 rfl
theorem h_gA_CoasterError {K : Ci.Fg} (cx : (exL_ K).all id = true) : PySem.W.findIn K (.ref (ze_CoasterError K)) "__getattribute__" = some (some (.builtin "BaseException.__getattribute__")) := Ci.facts_at cx 25 rfl
theorem h_gG_CoasterError {K : Ci.Fg} (cx : (exL_ K).all id = true) : PySem.W.findIn K (.ref (ze_CoasterError K)) "__getattr__" = some none := Ci.facts_at cx 26 rfl
theorem h_hD_CoasterError {K : Ci.Fg} (cx : (exL_ K).all id = true) : PySem.W.hasDictIn K (ze_CoasterError K) = true := Ci.facts_at cx 27 rfl
theorem h_cA_CoasterError {K : Ci.Fg} (cx : (exL_ K).all id = true) : PySem.W.findIn K (.ref (ze_CoasterError K)) "__class__" = some (some (.builtin "object.__class__")) := Ci.facts_at cx 28 rfl
theorem h_mO_CoasterError {K : Ci.Fg} (cx : (exL_ K).all id = true) : PySem.W.mroIn K (ze_CoasterError K) (.type "object") = some true := Ci.facts_at cx 29 rfl
theorem h_ki_CoasterError_InvalidText {K : Ci.Fg} (cx : (exL_ K).all id = true) : PySem.W.kitOne K (.ref (ze_CoasterError K)) (.ref (ze_InvalidText K)) = some false := Ci.facts_at cx 30 rfl
theorem h_aE_InvalidText {K : Ci.Fg} (cx : (exL_ K).all id = true) : PySem.W.nsIn K mainGlobals "InvalidText" = some (some (.ref (ze_InvalidText K))) := Ci.facts_at cx 31 rfl
theorem h_iE_InvalidText {K : Ci.Fg} (cx : (exL_ K).all id = true) : PySem.W.isClsIn K (ze_InvalidText K) = true := Ci.facts_at cx 32 rfl
theorem h_bE_InvalidText {K : Ci.Fg} (cx : (exL_ K).all id = true) : PySem.W.subIn K (.ref (ze_InvalidText K)) (.type "BaseException") = some true := Ci.facts_at cx 33 rfl
theorem h_tE_InvalidText {K : Ci.Fg} (cx : (exL_ K).all id = true) : PySem.W.typeIn K (.ref (ze_InvalidText K)) = some (.type "type") := Ci.facts_at cx 34 rfl
theorem h_sE_InvalidText {K : Ci.Fg} (cx : (exL_ K).all id = true) : PySem.W.subIn K (.ref (ze_InvalidText K)) (.ref (ze_InvalidText K)) = some true := Ci.facts_at cx 35 rfl
theorem h_xL_InvalidText {K : Ci.Fg} (cx : (exL_ K).all id = true) : Ci.excB K (ze_InvalidText K) [.ref (ze_CoasterError K), .type "ValueError", .type "Exception", .type "BaseException", .type "object"] = true := Ci.facts_b cx 36 rfl
theorem h_sa_InvalidText {K : Ci.Fg} (cx : (exL_ K).all id = true) : PySem.W.findIn K (.ref (ze_InvalidText K)) "__setattr__" = some (some (.builtin "object.__setattr__")) := Ci.facts_at cx 37 rfl
theorem h_kx_InvalidText {K : Ci.Fg} (cx : (exL_ K).all id = true) : PySem.W.keepIn K (.ref (ze_InvalidText K)) = true := Ci.facts_at cx 38 rfl
theorem h_iI_InvalidText {K : Ci.Fg} (cx : (exL_ K).all id = true) : PySem.W.findIn K (.ref (ze_InvalidText K)) "__init__" = some (some (.ref (zfE_InvalidText K))) := Ci.facts_at cx 39 rfl
theorem h_tI_InvalidText {K : Ci.Fg} (cx : (exL_ K).all id = true) : PySem.W.typeIn K (.ref (zfE_InvalidText K)) = some (.type "function") := Ci.facts_at cx 40 rfl
theorem h_nI_InvalidText {K : Ci.Fg} (cx : (exL_ K).all id = true) : PySem.W.findIn K (.ref (ze_InvalidText K)) "line" = some none := Ci.facts_at cx 41 rfl
theorem h_gA_InvalidText {K : Ci.Fg} (cx : (exL_ K).all id = true) : PySem.W.findIn K (.ref (ze_InvalidText K)) "__getattribute__" = some (some (.builtin "BaseException.__getattribute__")) := Ci.facts_at cx 42 rfl
theorem h_gG_InvalidText {K : Ci.Fg} (cx : (exL_ K).all id = true) : PySem.W.findIn K (.ref (ze_InvalidText K)) "__getattr__" = some none := Ci.facts_at cx 43 rfl
theorem h_hD_InvalidText {K : Ci.Fg} (cx : (exL_ K).all id = true) : PySem.W.hasDictIn K (ze_InvalidText K) = true := Ci.facts_at cx 44 rfl
theorem h_cA_InvalidText {K : Ci.Fg} (cx : (exL_ K).all id = true) : PySem.W.findIn K (.ref (ze_InvalidText K)) "__class__" = some (some (.builtin "object.__class__")) := Ci.facts_at cx 45 rfl
theorem h_mO_InvalidText {K : Ci.Fg} (cx : (exL_ K).all id = true) : PySem.W.mroIn K (ze_InvalidText K) (.type "object") = some true := Ci.facts_at cx 46 rfl
theorem h_ki_InvalidText_InvalidText {K : Ci.Fg} (cx : (exL_ K).all id = true) : PySem.W.kitOne K (.ref (ze_InvalidText K)) (.ref (ze_InvalidText K)) = some true := Ci.facts_at cx 47 rfl
theorem h_sS_InvalidText_CoasterError {K : Ci.Fg} (cx : (exL_ K).all id = true) : PySem.W.subIn K (.ref (ze_InvalidText K)) (.ref (ze_CoasterError K)) = some true := Ci.facts_at cx 48 rfl
theorem h_z_abs {K : Ci.Fg} (cx : (exL_ K).all id = true) : PySem.W.nsIn K mainGlobals "abs" = some none := Ci.facts_at cx 49 rfl
theorem h_z_all {K : Ci.Fg} (cx : (exL_ K).all id = true) : PySem.W.nsIn K mainGlobals "all" = some none := Ci.facts_at cx 50 rfl
theorem h_z_bool {K : Ci.Fg} (cx : (exL_ K).all id = true) : PySem.W.nsIn K mainGlobals "bool" = some none := Ci.facts_at cx 51 rfl
theorem h_z_enumerate {K : Ci.Fg} (cx : (exL_ K).all id = true) : PySem.W.nsIn K mainGlobals "enumerate" = some none := Ci.facts_at cx 52 rfl
theorem h_z_int {K : Ci.Fg} (cx : (exL_ K).all id = true) : PySem.W.nsIn K mainGlobals "int" = some none := Ci.facts_at cx 53 rfl
theorem h_z_isinstance {K : Ci.Fg} (cx : (exL_ K).all id = true) : PySem.W.nsIn K mainGlobals "isinstance" = some none := Ci.facts_at cx 54 rfl
theorem h_z_len {K : Ci.Fg} (cx : (exL_ K).all id = true) : PySem.W.nsIn K mainGlobals "len" = some none := Ci.facts_at cx 55 rfl
theorem h_z_list {K : Ci.Fg} (cx : (exL_ K).all id = true) : PySem.W.nsIn K mainGlobals "list" = some none := Ci.facts_at cx 56 rfl
theorem h_z_range {K : Ci.Fg} (cx : (exL_ K).all id = true) : PySem.W.nsIn K mainGlobals "range" = some none := Ci.facts_at cx 57 rfl
theorem h_z_str {K : Ci.Fg} (cx : (exL_ K).all id = true) : PySem.W.nsIn K mainGlobals "str" = some none := Ci.facts_at cx 58 rfl
theorem h_z_tuple {K : Ci.Fg} (cx : (exL_ K).all id = true) : PySem.W.nsIn K mainGlobals "tuple" = some none := Ci.facts_at cx 59 rfl
theorem h_z_zip {K : Ci.Fg} (cx : (exL_ K).all id = true) : PySem.W.nsIn K mainGlobals "zip" = some none := Ci.facts_at cx 60 rfl
theorem h_kc_BUTTONS {K : Ci.Fg} (cx : (exL_ K).all id = true) : PySem.W.nsIn K mainGlobals "BUTTONS" = some (some (.ref (zp_BUTTONS K))) := Ci.facts_at cx 61 rfl
theorem h_kd_BUTTONS {K : Ci.Fg} (cx : (exL_ K).all id = true) : Ci.tupA K (zp_BUTTONS K) [.str "go", .str "stop", .str "open"] = true := Ci.facts_b cx 62 rfl
theorem h_kc_DIGITS {K : Ci.Fg} (cx : (exL_ K).all id = true) : Ci.strB K "DIGITS" "0123456789" = true := Ci.facts_b cx 63 rfl
theorem h_kc_EMPTY_SCAN {K : Ci.Fg} (cx : (exL_ K).all id = true) : Ci.strB K "EMPTY_SCAN" "-" = true := Ci.facts_b cx 64 rfl
theorem h_kc_KINDS_OF_PARTS {K : Ci.Fg} (cx : (exL_ K).all id = true) : PySem.W.nsIn K mainGlobals "KINDS_OF_PARTS" = some (some (.ref (zp_KINDS_OF_PARTS K))) := Ci.facts_at cx 65 rfl
theorem h_kd_KINDS_OF_PARTS {K : Ci.Fg} (cx : (exL_ K).all id = true) : Ci.tupA K (zp_KINDS_OF_PARTS K) [.str "sensor", .str "present", .str "brake"] = true := Ci.facts_b cx 66 rfl
theorem h_kc_MOST_DIGITS {K : Ci.Fg} (cx : (exL_ K).all id = true) : Ci.intB K "MOST_DIGITS" (9) = true := Ci.facts_b cx 67 rfl
theorem Lf1 {K : Ci.Fg} (cd : He.SaysD [] fn_ K) : FnL K "read_lines" "read_lines" s_read_lines (zf1 K) := Ci.fnL_of (cd.def_ 0 (d := dd_read_lines) rfl)
theorem Lf2 {K : Ci.Fg} (cd : He.SaysD [] fn_ K) : FnL K "read_number" "read_number" s_read_number (zf2 K) := Ci.fnL_of (cd.def_ 1 (d := dd_read_number) rfl)
theorem Lf3 {K : Ci.Fg} (cd : He.SaysD [] fn_ K) : FnL K "read_numbers" "read_numbers" s_read_numbers (zf3 K) := Ci.fnL_of (cd.def_ 2 (d := dd_read_numbers) rfl)
theorem Lf4 {K : Ci.Fg} (cd : He.SaysD [] fn_ K) : FnL K "format_play" "format_play" s_format_play (zf4 K) := Ci.fnL_of (cd.def_ 3 (d := dd_format_play) rfl)
theorem Lf5 {K : Ci.Fg} (cd : He.SaysD [] fn_ K) : FnL K "written_scan" "written_scan" s_written_scan (zf5 K) := Ci.fnL_of (cd.def_ 4 (d := dd_written_scan) rfl)
theorem Lf6 {K : Ci.Fg} (cd : He.SaysD [] fn_ K) : FnL K "fault_words" "fault_words" s_fault_words (zf6 K) := Ci.fnL_of (cd.def_ 5 (d := dd_fault_words) rfl)
theorem Lf7 {K : Ci.Fg} (cd : He.SaysD [] fn_ K) : FnL K "parse_play" "parse_play" s_parse_play (zf7 K) := Ci.fnL_of (cd.def_ 6 (d := dd_parse_play) rfl)
theorem Lf8 {K : Ci.Fg} (cd : He.SaysD [] fn_ K) : FnL K "read_scan" "read_scan" s_read_scan (zf8 K) := Ci.fnL_of (cd.def_ 7 (d := dd_read_scan) rfl)
theorem Lf9 {K : Ci.Fg} (cd : He.SaysD [] fn_ K) : FnL K "_words_before" "_words_before" s__words_before (zf9 K) := Ci.fnL_of (cd.def_ 8 (d := dd__words_before) rfl)
theorem Lf10 {K : Ci.Fg} (cd : He.SaysD [] fn_ K) : FnL K "_read_fault_of_play" "_read_fault_of_play" s__read_fault_of_play (zf10 K) := Ci.fnL_of (cd.def_ 9 (d := dd__read_fault_of_play) rfl)
theorem Lf11 {K : Ci.Fg} (cd : He.SaysD [] fn_ K) : FnL K "read_fault" "read_fault" s_read_fault (zf11 K) := Ci.fnL_of (cd.def_ 10 (d := dd_read_fault) rfl)
theorem Lf12 {K : Ci.Fg} (cd : He.SaysD [] fn_ K) : FnL K "_law_cell" "_law_cell" s__law_cell (zf12 K) := Ci.fnL_of (cd.def_ 11 (d := dd__law_cell) rfl)
theorem Lf13 {K : Ci.Fg} (cd : He.SaysD [] fn_ K) : FnL K "_law_draws" "_law_draws" s__law_draws (zf13 K) := Ci.fnL_of (cd.def_ 12 (d := dd__law_draws) rfl)
theorem Lf14 {K : Ci.Fg} (cd : He.SaysD [] fn_ K) : FnL K "_law_like" "_law_like" s__law_like (zf14 K) := Ci.fnL_of (cd.def_ 13 (d := dd__law_like) rfl)
theorem Lf15 {K : Ci.Fg} (cd : He.SaysD [] fn_ K) : FnL K "_law_told" "_law_told" s__law_told (zf15 K) := Ci.fnL_of (cd.def_ 14 (d := dd__law_told) rfl)
theorem Lf16 {K : Ci.Fg} (cd : He.SaysD [] fn_ K) : FnL K "law" "law" s_law (zf16 K) := Ci.fnL_of (cd.def_ 15 (d := dd_law) rfl)
theorem LfE_InvalidText {K : Ci.Fg} (cd : He.SaysD [] fn_ K) : FnL K "__init__" "InvalidText.__init__" s_InvalidText (zfE_InvalidText K) := Ci.fnL_of (cd.def_ 16 (d := dd_InvalidText) rfl)
def ts_ : List He.Tab := []
def tf_ : List He.Defn := [("parse_play", none)]
def qs_ : List Str := ["parse_play.<locals>.<lambda>"]
def nm__0 : List PySem.Str := ["CoasterError",
  "InvalidText",
  "DIGITS",
  "MOST_DIGITS",
  "read_lines",
  "read_number",
  "read_numbers",
  "BUTTONS",
  "KINDS_OF_PARTS",
  "EMPTY_SCAN",
  "format_play",
  "written_scan",
  "fault_words",
  "parse_play",
  "read_scan",
  "_words_before",
  "_read_fault_of_play",
  "read_fault",
  "_law_cell",
  "_law_draws",
  "_law_like",
  "_law_told"]
def nm_ : List PySem.Str := nm__0
abbrev Rw_ : PySem.W.OpenRow := PySem.W.OpenLaw.row PySem.Challenge.rw_coastersafe_k71_plays_written_and_read
abbrev qv_ : PySem.Program := PySem.W.view Rw_.prog [26]
def ex_ (K : Ci.Fg) : Bool := (exL_ K).all id
def hk_ : PySem.W.Hook := He.hookX 4 [] fn_ ts_ tf_ ex_
def ob_ (s : PySem.W.SharedT) : He.AlX := He.obsX 4 [] fn_ ts_ tf_ ex_ (HandSHeadRun.getT s)
theorem ob_eq (s : PySem.W.SharedT) : ob_ s = hk_.obs s.abs := He.obsX_eq (HandSHeadRun.getT_eq s)
theorem top_run_f (w : World) : HandSHeadRun.RunEq Rw_ qv_ hk_ ob_ 60000 nm_ (w.withFollow "special-get-raises" false) := by unfold HandSHeadRun.RunEq; intro os; kernel_rfl
theorem top_run_t (w : World) : HandSHeadRun.RunEq Rw_ qv_ hk_ ob_ 60000 nm_ (w.withFollow "special-get-raises" true) := by unfold HandSHeadRun.RunEq; intro os; kernel_rfl
theorem top_run (w : World) : HandSHeadRun.RunEq Rw_ qv_ hk_ ob_ 60000 nm_ w := PySem.W.byRow2 "special-get-raises" (P := fun w => HandSHeadRun.RunEq Rw_ qv_ hk_ ob_ 60000 nm_ w) top_run_f top_run_t w
end Lw
end

section
set_option Elab.async false
set_option linter.all false
set_option maxRecDepth 100000
set_option maxHeartbeats 4000000
/-! ## texts: numbers written and read, words, lines -/
namespace Lw
open PySem PySem.Spec PyProof.Rows L2 Ci
open Evl (Ex ex_t ex_l sq_of st_of)
abbrev tl (x : Str) : List Nat := x.cps.toList
theorem len_tl (x : Str) : x.length = (tl x).length := TL.len_tl x
theorem ext_tl {x y : Str} (h : tl x = tl y) : x = y := TL.ext_tl h
theorem tl_app (x y : Str) : tl (x ++ y) = tl x ++ tl y := TL.tl_append x y
theorem eq_tl {x y : Str} : (x = y) ↔ tl x = tl y := ⟨fun h => by rw [h], ext_tl⟩
theorem dec_tl {x y : Str} : decide (x = y) = decide (tl x = tl y) := decide_eq_decide.mpr eq_tl
theorem tl_nl : tl ("\n" : Str) = [10] := by decide +kernel
theorem tl_sp : tl (" " : Str) = [32] := by decide +kernel
theorem len_nl : ("\n" : Str).length = 1 := by rw [len_tl, tl_nl]; rfl
theorem len_sp : (" " : Str).length = 1 := by rw [len_tl, tl_sp]; rfl
/-! lines, words -/
theorem split_nl {ls : List Str} (h0 : ls ≠ []) (h : ∀ l ∈ ls, 10 ∉ tl l) : Txt.split (Txt.join "\n" ls) "\n" = ls := TL.split_join (s := 10) (S := []) tl_nl (by decide +kernel) h0 h
theorem split_sp {ls : List Str} (h0 : ls ≠ []) (h : ∀ l ∈ ls, 32 ∉ tl l) : Txt.split (Txt.join " " ls) " " = ls := TL.split_join (s := 32) (S := []) tl_sp (by decide +kernel) h0 h
theorem tl_join (y : Str) (ps : List Str) : tl (Txt.join y ps) = TL.joinL (tl y) (ps.map tl) := by rw [TL.join_eq]; exact TL.tl_join y ps
theorem joinL_len (S : List Nat) : ∀ ps : List (List Nat), (TL.joinL S ps).length ≤ (ps.map List.length).sum + ps.length * S.length
  | [] => Nat.zero_le _
  | [p] => by show p.length ≤ p.length + 0 + (0 + 1) * S.length; omega
  | p :: q :: r => by
    have ih := joinL_len S (q :: r)
    have e : TL.joinL S (p :: q :: r) = p ++ (S ++ TL.joinL S (q :: r)) := rfl
    rw [e, List.length_append, List.length_append, List.map_cons, List.sum_cons, List.length_cons, Nat.succ_mul]
    omega
theorem join_len (y : Str) (ps : List Str) : (Txt.join y ps).length ≤ (ps.map fun x => x.length).sum + ps.length * y.length := by
  rw [len_tl, tl_join]
  have := joinL_len (tl y) (ps.map tl)
  rw [List.map_map, List.length_map] at this
  have e : (List.map (List.length ∘ tl) ps) = ps.map fun x => x.length := List.map_congr_left fun x _ => (len_tl x).symm
  rw [e] at this
  rw [len_tl y]
  exact this
theorem sum_le {ps : List Str} {n : Nat} (h : ∀ p ∈ ps, p.length ≤ n) : (ps.map fun x => x.length).sum ≤ ps.length * n := by
  induction ps with
  | nil => exact Nat.zero_le _
  | cons p r ih =>
    have h1 := h p List.mem_cons_self
    have h2 := ih fun q m => h q (List.mem_cons_of_mem _ m)
    rw [List.map_cons, List.sum_cons, List.length_cons, Nat.succ_mul]
    omega
/-! numbers -/
theorem tl_num {n : Int} (h : 0 ≤ n) : tl (strI n) = TL.numL n.toNat := by
  obtain ⟨m, rfl⟩ := Int.eq_ofNat_of_zero_le h
  exact TL.tl_num m
theorem tl_neg {n : Int} (h : n < 0) : tl (strI n) = 45 :: TL.numL (-n).toNat := by
  obtain ⟨m, rfl⟩ : ∃ m : Nat, n = Int.negSucc m := ⟨(-n - 1).toNat, by omega⟩
  have e : (toString (Int.negSucc m) : String) = "-" ++ toString ((m + 1 : Nat) : Int) := rfl
  have e2 : (-(Int.negSucc m)).toNat = m + 1 := by omega
  show tl (Str.ofString (toString (Int.negSucc m))) = _
  rw [e2, e, ← TL.tl_num]
  show TL.tl (Str.ofString _) = 45 :: TL.tl (Str.ofString _)
  rw [TL.tl_ofString, TL.tl_ofString]
  simp
theorem numL_head {n : Nat} : (TL.numL n).head? = some 48 → n = 0 := by
  induction n using Nat.strongRecOn with
  | _ n ih =>
    intro h
    by_cases c : n < 10
    · rw [TL.numL_lt c] at h
      have := Option.some.inj h
      omega
    · rw [TL.numL_step (by omega)] at h
      have hn := TL.numL_ne (n / 10)
      cases e : TL.numL (n / 10) with
      | nil => exact absurd e hn
      | cons a r =>
        rw [e] at h
        have h' : (TL.numL (n / 10)).head? = some 48 := by rw [e]; exact h
        have := ih (n / 10) (by omega) h'
        omega
def digitB (c : Nat) : Bool := decide (48 ≤ c) && decide (c ≤ 57)
/-- a word as a number -/
def numR (w : Str) : Option Int :=
  if (1 ≤ w.length ∧ w.length ≤ 9) ∧ (tl w).all digitB = true ∧ ¬ ((tl w).head? = some 48 ∧ w ≠ "0") then some (NumText.digitsVal (tl w) : Nat) else none
theorem digitB_of {l : List Nat} (h : NumText.AllDigits l) : l.all digitB = true := List.all_eq_true.mpr fun c m => by
  have := h c m
  unfold digitB
  rw [decide_eq_true this.1, decide_eq_true this.2]
  rfl
theorem tl_zero : tl ("0" : Str) = [48] := by decide +kernel
theorem numR_num {n : Int} (h0 : 0 ≤ n) (h1 : n < 1000000000) : numR (strI n) = some n := by
  have e := tl_num h0
  have l1 : (TL.numL n.toNat).length ≤ 9 := TL.numL_len (by decide) (by omega)
  have l0 : 1 ≤ (TL.numL n.toNat).length := List.length_pos_iff.mpr (TL.numL_ne _)
  have z : ¬ ((tl (strI n)).head? = some 48 ∧ strI n ≠ "0") := fun z => by
    have h2 := z.1
    rw [e] at h2
    have := numL_head h2
    refine z.2 (ext_tl ?_)
    rw [e, this, tl_zero]
    rfl
  unfold numR
  rw [if_pos ⟨⟨by rw [len_tl, e]; exact l0, by rw [len_tl, e]; exact l1⟩, by rw [e]; exact digitB_of (TL.numL_digits _), z⟩, e, TL.numL_val, show ((n.toNat : Nat) : Int) = n by omega]
theorem strI_len {n : Int} (h : -1000000000 < n ∧ n < 1000000000) : (strI n).length ≤ 10 := by
  rw [len_tl]
  by_cases c : 0 ≤ n
  · rw [tl_num c]
    have : (TL.numL n.toNat).length ≤ 9 := TL.numL_len (by decide) (by omega)
    omega
  · rw [tl_neg (by omega), List.length_cons]
    have : (TL.numL (-n).toNat).length ≤ 9 := TL.numL_len (by decide) (by omega)
    omega
theorem strI_free {n : Int} {c : Nat} (h : c < 45 ∨ 57 < c) : c ∉ tl (strI n) := fun m => by
  by_cases k : 0 ≤ n
  · rw [tl_num k] at m
    exact TL.numL_free (by omega) m
  · rw [tl_neg (by omega)] at m
    rcases List.mem_cons.mp m with e | m
    · omega
    · exact TL.numL_free (by omega) m
theorem strI_log {n : Int} (h : -1000000000 < n ∧ n < 1000000000) : n.natAbs.log2 < 1920 := by
  have : n.natAbs.log2 ≤ 30 := by
    by_cases c : n.natAbs = 0
    · rw [c]; decide
    · have := (Nat.log2_lt (k := 30) c).mpr (by omega)
      omega
  omega
theorem o_str {n : Int} (h : -1000000000 < n ∧ n < 1000000000) : Cb.fn .str [.int n] = .ok (dv (.str (strI n))) := k_str (strI_log h)
theorem o_fmt {n : Int} (h : -1000000000 < n ∧ n < 1000000000) : fmtF (.int n) = .ok (dv (.str (strI n))) := fmt_int (strI_log h)
/-! signs -/
theorem in_sign {c : Nat} {s : Str} : B2.fn .in (.str ⟨#[c]⟩) (.str s) = .ok (dv (.bl (decide (c ∈ tl s)))) := by
  rfl
theorem notin_sign {c : Nat} {s : Str} : B2.fn .notin (.str ⟨#[c]⟩) (.str s) = .ok (dv (.bl (!decide (c ∈ tl s)))) := by
  rfl
theorem o_lenStr {s : Str} (h : s.length ≤ 16000000) : Cb.fn .len [.str s] = .ok (dv (.int (s.length : Nat))) := by
  show (R.bind (if s.length ≤ sizeLine then R.ok ((s.length : Nat) : Int) else R.bad) _) = _
  rw [if_pos (by rw [sizeLine_eq]; omega)]
  rfl
theorem o_ixS0 {s : Str} {c : Nat} {r : List Nat} (h : tl s = c :: r) (hl : s.length ≤ 16000000) : B2.fn .ix (.str s) (.int 0) = .ok (dv (.str ⟨#[c]⟩)) := by
  show (if _ then _ else _) = _
  rw [if_pos (by rw [sizeLine_eq]; omega)]
  have : atI s.cps.toList 0 = some c := by
    rw [show s.cps.toList = c :: r from h]
    exact atI_nat (j := 0) rfl
  rw [this]
  rfl
theorem o_intS {s : Str} (h : (tl s).all digitB = true) (h0 : tl s ≠ []) (h1 : s.length ≤ 600) : Cb.fn .int [.str s] = .ok (dv (.int (NumText.digitsVal (tl s) : Nat))) := by
  show (R.bind (if s.length ≤ 640 then R.ofO (PySem.intText? s) else R.bad) _) = _
  rw [if_pos (by omega)]
  have e : s = SX.S (tl s) := (SX.S_tl s).symm
  have := SX.int_S (a := tl s) h h0 (by rw [← len_tl]; omega)
  rw [← e] at this
  rw [this]
  rfl
theorem sl1 {s : Str} (h : s.length ≤ 16000000) : slF (.str s) (some 1) none = .ok (dv (.str (cutS s (some 1) none))) := if_pos (by rw [sizeLine_eq]; omega)
def encSo : Option Sg → D
  | none => .non
  | some s => encS s
theorem encSo_none : encSo none = .non := rfl
theorem encSo_some {s : Sg} : encSo (some s) = encS s := rfl
theorem encSo_non {o : Option Sg} : (encSo o).isNon = o.isNone := by cases o <;> rfl
/-- lines, one after the other: the number of the first that is none -/
def rdL {α : Type} (g : Str → Option α) : List Str → Int → Except Int (List α)
  | [], _ => .ok []
  | l :: r, k => match g l with
    | none => .error k
    | some a => match rdL g r (k + 1) with
      | .ok as => .ok (a :: as)
      | .error n => .error n
theorem chD_map {s : Str} : chD s = (tl s).map fun c => D.str ⟨#[c]⟩ := rfl
theorem all_id {α : Type} {f : α → Bool} {l : List α} : ((l.map f).all id) = l.all f := by rw [List.all_map]; rfl
end Lw
end

section
set_option Elab.async false
set_option linter.all false
set_option maxRecDepth 100000
set_option maxHeartbeats 4000000
/-! ## logics: conditions, their words, the reader of words -/
namespace Lw
open PySem PySem.Spec PyProof.Rows L2 Ci
/-! conditions -/
inductive Cd where
  | val (n : Int) | nm (s : Str) | neg (c : Cd) | con (c d : Cd) | dis (c d : Cd)
def Cd.dep : Cd → Nat
  | .val _ => 1
  | .nm _ => 1
  | .neg c => c.dep + 1
  | .con c d => max c.dep d.dep + 1
  | .dis c d => max c.dep d.dep + 1
/-- the words that wait -/
inductive Wt where
  | lp | or | and | not
  deriving DecidableEq
def Wt.str : Wt → Str
  | .lp => "("
  | .or => "or"
  | .and => "and"
  | .not => "not"
def Wt.st : Wt → Nat
  | .lp => 0
  | .or => 1
  | .and => 2
  | .not => 3
/-- parts and words, the top first; whether a part is needed; none: not so -/
structure Rs where
  ps : List Cd
  ws : List Wt
  nd : Bool
/-! names and digits -/
def isLet (c : Nat) : Bool := decide (c ∈ tl "abcdefghijklmnopqrstuvwxyz")
def isDig (c : Nat) : Bool := decide (c ∈ tl "0123456789")
def resW : List Str := ["input", "bit", "timer", "counts", "and", "or", "not"]
def nameB (s : Str) : Bool := decide (1 ≤ s.length ∧ s.length ≤ 12) && !(resW.contains s) && (match (tl s).head? with | some c => isLet c | none => false) && (tl s).all fun c => isLet c || isDig c
/-- what may be written: values 0 and 1, right names -/
def Cd.ok : Cd → Prop
  | .val n => n = 0 ∨ n = 1
  | .nm s => nameB s = true
  | .neg c => c.ok
  | .con c d => c.ok ∧ d.ok
  | .dis c d => c.ok ∧ d.ok
def brk (b : Bool) (ws : List Str) : List Str := if b then ("(" : Str) :: ws ++ [(")" : Str)] else ws
/-- the words of a condition, where what is around binds so strongly -/
def toks : Cd → Nat → List Str
  | .val n, _ => [strI n]
  | .nm s, _ => [s]
  | .neg c, _ => ("not" : Str) :: toks c 3
  | .con c d, L => brk (decide (2 < L)) (toks c 2 ++ ("and" : Str) :: toks d 3)
  | .dis c d, L => brk (decide (1 < L)) (toks c 1 ++ ("or" : Str) :: toks d 2)
def topLt (L : Nat) : List Wt → Prop
  | [] => True
  | w :: _ => w.st < L
theorem topLt.mono {a b : Nat} {ws : List Wt} (h : topLt a ws) (l : a ≤ b) : topLt b ws := by
  cases ws with
  | nil => trivial
  | cons w ws => exact Nat.lt_of_lt_of_le h l
/-! declarations -/
structure Dc where
  ins : List Str
  bs : List (Str × Int)
  ts : List (Str × Int)
  od : List Str
  ks : List (Str × Str)
def encSI (p : Str × Int) : D := .tup [.str p.1, .int p.2]
def encKs (ks : List (Str × Str)) : Kd := ks.map fun p => (.inr p.1, .str p.2)
def dcF (d : Dc) : List (Str × FV) := [("inputs", .lst (d.ins.map D.str)), ("bits", .lst (d.bs.map encSI)), ("timers", .lst (d.ts.map encSI)), ("order", .lst (d.od.map D.str)), ("_kinds", .dk (encKs d.ks))]
/-- a declaration -/
inductive Dl where
  | inp (s : Str) | bit (s : Str) (n : Int) | tim (s : Str) (n : Int)
def Dl.nm : Dl → Str
  | .inp s => s
  | .bit s _ => s
  | .tim s _ => s
def Dl.kd : Dl → Str
  | .inp _ => "input"
  | .bit _ _ => "bit"
  | .tim _ _ => "timer"
def Dl.ok (d : Dc) : Dl → Prop
  | .inp _ => d.ins.length < 60
  | .bit _ n => d.bs.length < 200 ∧ (n = 0 ∨ n = 1)
  | .tim _ n => d.ts.length < 40 ∧ 1 ≤ n ∧ n ≤ 999
def Dc.core (d : Dc) : Dl → Dc
  | .inp s => { d with ins := d.ins ++ [s] }
  | .bit s n => { d with bs := d.bs ++ [(s, n)], od := d.od ++ [s] }
  | .tim s n => { d with ts := d.ts ++ [(s, n)], od := d.od ++ [s] }
def Dc.add (d : Dc) (x : Dl) : Dc := { d.core x with ks := d.ks ++ [(x.nm, x.kd)] }
/-- the names in a condition, from the left -/
def namesC : Cd → List Str
  | .val _ => []
  | .nm s => [s]
  | .neg c => namesC c
  | .con c d => namesC c ++ namesC d
  | .dis c d => namesC c ++ namesC d
def Cd.size : Cd → Nat
  | .val _ => 1
  | .nm _ => 1
  | .neg c => c.size + 1
  | .con c d => c.size + d.size + 1
  | .dis c d => c.size + d.size + 1
/-! logics -/
structure Sm where
  set : Bool
  nm : Str
  cd : Cd
structure Lgc where
  ins : List Str
  bs : List (Str × Int)
  ts : List (Str × Int)
  od : List Str
  ss : List Sm
def Sm.op (s : Sm) : Str := if s.set then ":=" else "counts"
/-! memories -/
def setN (ns : List (Str × Int)) (s : Str) (v : Int) : List (Str × Int) := ns.map fun p => if p.1 = s then (p.1, v) else p
end Lw
end

section
set_option Elab.async false
set_option linter.all false
/-! ## logics as the laws keep them -/
namespace Lw
open PySem PySem.Spec PyProof.Rows L2 Ci
/-- the names of a condition have values, and those of no timer have 0 or 1 -/
def Bt (vs ls : List (Str × Int)) (c : Cd) : Prop := ∀ x ∈ namesC c, (vs.lookup x).isSome = true ∧ (ls.lookup x = none → vs.lookup x = some 0 ∨ vs.lookup x = some 1)
/-- the declarations of a logic, in their order -/
def dlO (l : Lgc) (n : Str) : Dl := match l.ts.lookup n with
  | some m => .tim n m
  | none => .bit n ((l.bs.lookup n).getD 0)
def dlsL (l : Lgc) : List Dl := l.ins.map Dl.inp ++ l.od.map (dlO l)
/-- a declaration by itself -/
def DlV : Dl → Prop
  | .inp s => nameB s = true
  | .bit s n => nameB s = true ∧ (n = 0 ∨ n = 1)
  | .tim s n => nameB s = true ∧ 1 ≤ n ∧ n ≤ 999
theorem DlV.nm {x : Dl} (h : DlV x) : nameB x.nm = true := by
  cases x with
  | inp s => exact h
  | bit s n => exact h.1
  | tim s n => exact h.1
end Lw
end

section
set_option Elab.async false
set_option linter.all false
/-! ## logics that are right: what is read from their texts, how they scan, which memories they may have -/
namespace Lw
open PySem PySem.Spec PyProof.Rows L2 Ci
/-- values as they may be: bits are 0 or 1, timers not above their limits -/
def Iv (ls vs : List (Str × Int)) : Prop := (vs.map (·.1)).Nodup ∧ ∀ x v, vs.lookup x = some v → match ls.lookup x with
  | some m => 0 ≤ v ∧ v ≤ m
  | none => v = 0 ∨ v = 1
theorem Iv.bt {ls vs : List (Str × Int)} {c : Cd} (i : Iv ls vs) (h : ∀ x ∈ namesC c, (vs.lookup x).isSome = true) : Bt vs ls c := fun x m => ⟨h x m, fun n => by
  obtain ⟨v, e⟩ := Option.isSome_iff_exists.mp (h x m)
  have := i.2 x v e
  rw [n] at this
  rcases this with q | q <;> subst q
  · exact .inl e
  · exact .inr e⟩
theorem look_mem {ls : List (Str × Int)} {x : Str} {v : Int} (h : ls.lookup x = some v) : (x, v) ∈ ls := by
  induction ls with
  | nil => cases h
  | cons p r ih =>
    obtain ⟨a, b⟩ := p
    rw [List.lookup_cons] at h
    by_cases c : x = a
    · subst c
      rw [beq_self_eq_true] at h
      cases h
      exact List.mem_cons_self
    · rw [show (x == a) = false from beq_eq_false_iff_ne.mpr c] at h
      exact List.mem_cons_of_mem _ (ih h)
/-- a logic as the document wants it, of moderate size -/
structure LgOk (l : Lgc) : Prop where
  nd : (l.ins ++ l.od).Nodup
  nb : ∀ x ∈ l.ins ++ l.od, nameB x = true
  pm : l.od.Perm (l.bs.map (·.1) ++ l.ts.map (·.1))
  bv : ∀ p ∈ l.bs, p.2 = 0 ∨ p.2 = 1
  tv : ∀ p ∈ l.ts, 1 ≤ p.2 ∧ p.2 ≤ 999
  il : l.ins.length ≤ 60
  ol : l.od.length ≤ 200
  tl : l.ts.length ≤ 40
  ne : 1 ≤ l.ins.length + l.od.length
  sl : l.ss.length ≤ 300
  sm : ∀ s ∈ l.ss, (s.nm ∈ l.od ∧ (if s.set then l.ts.lookup s.nm = none else (l.ts.lookup s.nm).isSome = true)) ∧ s.cd.ok ∧ s.cd.dep ≤ 12 ∧ s.cd.size ≤ 400 ∧ ∀ x ∈ namesC s.cd, x ∈ l.ins ++ l.od
section
variable {l : Lgc}
theorem LgOk.bt (h : LgOk l) : (l.bs.map (·.1) ++ l.ts.map (·.1)).Nodup := h.pm.nodup_iff.mp (List.nodup_append.mp h.nd).2.1
theorem LgOk.bn (h : LgOk l) : (l.bs.map (·.1)).Nodup := (List.nodup_append.mp h.bt).1
theorem LgOk.tn (h : LgOk l) : (l.ts.map (·.1)).Nodup := (List.nodup_append.mp h.bt).2.1
theorem LgOk.dv (h : LgOk l) : ∀ x ∈ dlsL l, DlV x := fun x m => by
  unfold dlsL at m
  rcases List.mem_append.mp m with m | m
  · obtain ⟨s, ms, rfl⟩ := List.mem_map.mp m
    exact h.nb s (List.mem_append_left _ ms)
  · obtain ⟨s, ms, rfl⟩ := List.mem_map.mp m
    have hs := h.nb s (List.mem_append_right _ ms)
    unfold dlO
    cases e : l.ts.lookup s with
    | some v => exact ⟨hs, h.tv (s, v) (look_mem e)⟩
    | none =>
      refine ⟨hs, ?_⟩
      cases e2 : l.bs.lookup s with
      | some v => exact h.bv (s, v) (look_mem e2)
      | none => exact .inl rfl
end
end Lw
end

section
set_option Elab.async false
set_option linter.all false
set_option maxRecDepth 100000
set_option maxHeartbeats 4000000
/-! ## the names of a ride's sensors and calipers, the logic that the program writes for a ride -/
namespace Lw
open PySem PySem.Spec PyProof.Rows L2 Ci
/-! comparisons of tuples of texts and numbers -/
theorem eqvT_str : ∀ xs ys : List Str, PyData.eqvAll (toPs (xs.map D.str)) (toPs (ys.map D.str)) = decide (xs = ys)
  | [], [] => rfl
  | [], _ :: _ => by simp [toPs, PyData.eqvAll]
  | _ :: _, [] => by simp [toPs, PyData.eqvAll]
  | x :: xs, y :: ys => by
    show (PyData.eqv (.str x) (.str y) && PyData.eqvAll (toPs (xs.map D.str)) (toPs (ys.map D.str))) = _
    rw [eqvT_str xs ys, show PyData.eqv (.str x) (.str y) = decide (x = y) from rfl, ← Bool.decide_and]
    congr 1
    rw [List.cons.injEq]
theorem pures_str : ∀ l : List Str, pures (l.map D.str) = true ∧ depL (l.map D.str) ≤ 1
  | [] => ⟨rfl, Nat.zero_le _⟩
  | a :: r => ⟨(by show (true && pures (r.map D.str)) = true; rw [(pures_str r).1]; rfl), Nat.max_le.mpr ⟨Nat.le_of_ble_eq_true rfl, (pures_str r).2⟩⟩
/-! scans of a ride -/
structure RS where
  ts : List Sg
  bars : Int
  ft : Option (Sg × Int)
def RS.d (r : RS) : D := encSt r.ts r.bars r.ft
structure Sc where
  bt : List Int
  ls : List Int
  ft : Option (Sg × Int)
instance : Inhabited Sc := ⟨⟨[], [], none⟩⟩
instance : Inhabited RS := ⟨⟨[], 0, none⟩⟩
def encSc (s : Sc) : D := .tup [.tup (s.bt.map D.int), .tup (s.ls.map D.int), encFt s.ft]
end Lw
end

section
set_option Elab.async false
set_option linter.all false
set_option maxRecDepth 100000
set_option maxHeartbeats 4000000
/-! ## lists of texts: words looked up, cut, compared -/
namespace Lw
open PySem PySem.Spec PyProof.Rows L2 Ci
theorem eqOk_strL {l : List Str} : eqOk (.lst (l.map D.str)) = true := by
  have := (pures_str l).2
  show (pures (l.map D.str) && decide (depL (l.map D.str) + 1 ≤ 60)) = true
  rw [(pures_str l).1, decide_eq_true (by omega)]
  rfl
theorem any_strL {s : Str} : ∀ {l : List Str}, ((l.map D.str).any fun z => eqv z (.str s)) = decide (s ∈ l)
  | [] => rfl
  | x :: r => by
    show (eqv (.str x) (.str s) || (r.map D.str).any _) = _
    rw [any_strL (l := r), show eqv (.str x) (.str s) = decide (x = s) from rfl, ← Bool.decide_or, decide_eq_decide, List.mem_cons]
    constructor <;> (rintro (h | h); exact .inl h.symm; exact .inr h)
theorem in_strL {s : Str} {l : List Str} : B2.fn .in (.str s) (.lst (l.map D.str)) = .ok (dv (.bl (decide (s ∈ l)))) := by
  show (inLst (.str s) (l.map D.str)).bind _ = _
  unfold inLst
  rw [show (eqOk (.str s) && eqOk (.lst (l.map D.str))) = true by rw [eqOk_strL]; rfl, any_strL]
  rfl
theorem idx_in {s : Str} : ∀ {l : List Str}, s ∈ l → ∃ j, idxN s l = some j ∧ j < l.length
  | [], h => absurd h List.not_mem_nil
  | y :: r, h => by
    unfold idxN
    by_cases c : y = s
    · rw [if_pos c]
      exact ⟨0, rfl, Nat.succ_pos _⟩
    · rw [if_neg c]
      obtain ⟨j, e, q⟩ := idx_in ((List.mem_cons.mp h).resolve_left fun z => c z.symm)
      exact ⟨j + 1, by rw [e]; rfl, Nat.succ_lt_succ q⟩
theorem idx_not {s : Str} : ∀ {l : List Str}, s ∉ l → idxN s l = none
  | [], _ => rfl
  | y :: r, h => by
    unfold idxN
    rw [if_neg fun z => h (by rw [z]; exact List.mem_cons_self), idx_not fun z => h (List.mem_cons_of_mem _ z)]
    rfl
/-- the words before a word -/
def befW (w : Str) (ws : List Str) : List Str := match idxN w ws with
  | some j => ws.take j
  | none => ws
theorem bef_len {w : Str} {ws : List Str} : (befW w ws).length ≤ ws.length := by
  unfold befW
  split
  · rw [List.length_take]; omega
  · exact Nat.le_refl _
theorem bef_sub {w : Str} {ws : List Str} : ∀ x ∈ befW w ws, x ∈ ws := fun x m => by
  unfold befW at m
  split at m
  · exact List.mem_of_mem_take m
  · exact m
theorem eq_strL {a b : List Str} : B2.fn .eq (.lst (a.map D.str)) (.lst (b.map D.str)) = .ok (dv (.bl (decide (a = b)))) := by
  rw [o_eq eqOk_strL eqOk_strL]
  show R.ok (dv (.bl (PyData.eqvAll (toPs (a.map D.str)) (toPs (b.map D.str))))) = _
  rw [eqvT_str]
theorem ne_strL {a b : List Str} : B2.fn .ne (.lst (a.map D.str)) (.lst (b.map D.str)) = .ok (dv (.bl (!decide (a = b)))) := by
  rw [o_ne eqOk_strL eqOk_strL]
  show R.ok (dv (.bl (!PyData.eqvAll (toPs (a.map D.str)) (toPs (b.map D.str))))) = _
  rw [eqvT_str]
theorem sl_to1 : ∀ {ws : List Str}, slF (.lst (ws.map D.str)) none (some 1) = .ok (ov (.lst ((ws.take 1).map D.str)))
  | [] => rfl
  | x :: r => q_slT (f := D.str) (xs := x :: r) (j := 1) (by decide) (by rw [List.length_cons]; omega)
theorem sl_12 : ∀ {ws : List Str}, slF (.lst (ws.map D.str)) (some 1) (some 2) = .ok (ov (.lst (((ws.drop 1).take 1).map D.str)))
  | [] => rfl
  | [_] => rfl
  | x :: y :: r => q_slM (f := D.str) (xs := x :: y :: r) (i := 1) (j := 2) (by decide) (by decide) (by rw [List.length_cons, List.length_cons]; omega)
theorem join_lines {ls : List Str} {n m : Nat} (h : ∀ l ∈ ls, l.length ≤ n) (hl : ls.length ≤ m) : (ls.map fun x => x.length).sum + ls.length * ("\n" : Str).length ≤ m * (n + 1) := by
  have := sum_le h
  rw [len_nl]
  have e : ls.length * (n + 1) ≤ m * (n + 1) := Nat.mul_le_mul_right _ hl
  rw [Nat.mul_add] at e
  omega
/-! ## plays and scenes, written -/
/-- the words of a fault -/
def fwW (f : Sg × Int) : List Str := [f.1.1, strI f.1.2.1, strI f.1.2.2, strI f.2]
def FtB : Option (Sg × Int) → Prop
  | none => True
  | some f => (-1000000000 < f.1.2.1 ∧ f.1.2.1 < 1000000000) ∧ (-1000000000 < f.1.2.2 ∧ f.1.2.2 < 1000000000) ∧ (-1000000000 < f.2 ∧ f.2 < 1000000000)
/-- the words of a scan -/
def bwW : List Str → List Int → List Str
  | x :: xs, b :: bs => if b = 1 then x :: bwW xs bs else bwW xs bs
  | _, _ => []
def trW : Int → List Int → List Str
  | _, [] => []
  | k, x :: r => if x = 1 then strI k :: trW (k + 1) r else trW (k + 1) r
theorem trW_cons {k x : Int} {r : List Int} : trW k (x :: r) = if x = 1 then strI k :: trW (k + 1) r else trW (k + 1) r := rfl
theorem bwW_cons {x : Str} {xs : List Str} {b : Int} {bs : List Int} : bwW (x :: xs) (b :: bs) = if b = 1 then x :: bwW xs bs else bwW xs bs := rfl
def latW (ls : List Int) : List Str := match trW 0 ls with
  | [] => []
  | w :: r => "late" :: w :: r
def ftW : Option (Sg × Int) → List Str
  | none => []
  | some f => "fault" :: fwW f
def scW (s : Sc) : List Str := bwW ["go", "stop", "open"] s.bt ++ latW s.ls ++ ftW s.ft
def scT (s : Sc) : Str := match scW s with
  | [] => "-"
  | w :: r => Txt.join " " (w :: r)
theorem tr_lc {step : D → R (Option D)} (h : ∀ (k : Int) (x : Int), 0 ≤ k → k < 1000 → step (.tup [.int k, .int x]) = .ok (if x = 1 then some (.str (strI k)) else none)) : ∀ {ls : List Int} {k : Int}, 0 ≤ k → k + ls.length ≤ 1000 → lcF step (enD k (ls.map D.int)) = .ok ((trW k ls).map D.str)
  | [], _, _, _ => rfl
  | x :: r, k, h0, h1 => by
    rw [List.length_cons] at h1
    show (step (.tup [.int k, .int x])).bind _ = _
    rw [h k x h0 (by omega), tr_lc h (ls := r) (k := k + 1) (by omega) (by omega)]
    rw [trW_cons]
    split <;> rfl
theorem bw_lc {step : D → R (Option D)} (h : ∀ (x : Str) (b : Int), step (.tup [.str x, .int b]) = .ok (if b = 1 then some (.str x) else none)) : ∀ {xs : List Str} {bs : List Int}, lcF step (zipD (xs.map D.str) (bs.map D.int)) = .ok ((bwW xs bs).map D.str)
  | [], _ => by unfold zipD bwW; rfl
  | _ :: _, [] => by rw [List.map_nil, List.map_cons]; unfold bwW; rfl
  | x :: r, b :: bs => by
    show (step (.tup [.str x, .int b])).bind _ = _
    rw [h x b, bw_lc h]
    rw [bwW_cons]
    split <;> rfl
theorem trW_wd : ∀ {ls : List Int} {k : Int}, 0 ≤ k → k + ls.length ≤ 1000 → ∀ w ∈ trW k ls, ∃ n : Int, 0 ≤ n ∧ n < 1000 ∧ w = strI n
  | [], _, _, _ => fun w m => absurd m List.not_mem_nil
  | x :: r, k, h0, h1 => fun w m => by
    rw [List.length_cons] at h1
    rw [trW_cons] at m
    split at m
    · rcases List.mem_cons.mp m with m | m
      · exact ⟨k, h0, by omega, m⟩
      · exact trW_wd (by omega) (by omega) w m
    · exact trW_wd (by omega) (by omega) w m
theorem trW_len : ∀ {ls : List Int} {k : Int}, (trW k ls).length ≤ ls.length
  | [], _ => Nat.zero_le _
  | x :: r, k => by
    have := trW_len (ls := r) (k := k + 1)
    rw [trW_cons]
    split <;> simp only [List.length_cons] <;> omega
theorem bwW_sub : ∀ {xs : List Str} {bs : List Int}, ∀ w ∈ bwW xs bs, w ∈ xs
  | [], _ => fun w m => by unfold bwW at m; exact absurd m List.not_mem_nil
  | _ :: _, [] => fun w m => by unfold bwW at m; exact absurd m List.not_mem_nil
  | x :: r, b :: bs => fun w m => by
    rw [bwW_cons] at m
    split at m
    · rcases List.mem_cons.mp m with m | m
      · rw [m]; exact List.mem_cons_self
      · exact List.mem_cons_of_mem _ (bwW_sub w m)
    · exact List.mem_cons_of_mem _ (bwW_sub w m)
theorem bwW_len : ∀ {xs : List Str} {bs : List Int}, (bwW xs bs).length ≤ xs.length
  | [], _ => by unfold bwW; exact Nat.le_refl _
  | _ :: _, [] => by unfold bwW; exact Nat.zero_le _
  | x :: r, b :: bs => by
    have := bwW_len (xs := r) (bs := bs)
    rw [bwW_cons]
    split <;> simp only [List.length_cons] <;> omega
/-- what a scan must be for its text to be short -/
structure ScB (s : Sc) : Prop where
  ls : s.ls.length ≤ 1000
  ft : FtB s.ft
  fk : ∀ f, s.ft = some f → f.1.1.length ≤ 1000
theorem lat_len {ls : List Int} : (latW ls).length ≤ ls.length + 1 := by
  have := trW_len (ls := ls) (k := 0)
  unfold latW
  split
  · exact Nat.zero_le _
  · rename_i e
    rw [e] at this
    simp only [List.length_cons] at *
    omega
theorem scW_wd {s : Sc} (h : ScB s) : (scW s).length ≤ 1010 ∧ ∀ w ∈ scW s, w.length ≤ 1000 := by
  have l1 := bwW_len (xs := ["go", "stop", "open"]) (bs := s.bt)
  have l2 := lat_len (ls := s.ls)
  have h1 := h.ls
  have c : ("late" : Str).length ≤ 1000 ∧ ("fault" : Str).length ≤ 1000 ∧ ∀ w ∈ (["go", "stop", "open"] : List Str), w.length ≤ 1000 := by decide +kernel
  unfold scW
  refine ⟨?_, fun w m => ?_⟩
  · rw [List.length_append, List.length_append]
    have l3 : (ftW s.ft).length ≤ 5 := by cases s.ft <;> unfold ftW <;> simp [fwW]
    simp only [List.length_cons, List.length_nil] at l1
    omega
  · rcases List.mem_append.mp m with m | m
    · rcases List.mem_append.mp m with m | m
      · exact c.2.2 w (bwW_sub w m)
      · unfold latW at m
        split at m
        · exact absurd m List.not_mem_nil
        · rename_i e
          rcases List.mem_cons.mp m with m | m
          · rw [m]; exact c.1
          · obtain ⟨n, n1, n2, rfl⟩ := trW_wd (ls := s.ls) (k := 0) (by omega) (by omega) w (by rw [e]; exact m)
            exact Nat.le_trans (strI_len ⟨by omega, by omega⟩) (by decide)
    · have hf := h.ft
      have hk := h.fk
      cases e : s.ft with
      | none => rw [e] at m; exact absurd m List.not_mem_nil
      | some f =>
        rw [e] at m hf
        unfold ftW fwW at m
        simp only [List.mem_cons, List.not_mem_nil, or_false] at m
        rcases m with rfl | rfl | rfl | rfl | rfl
        · exact c.2.1
        · exact hk f e
        · exact Nat.le_trans (strI_len hf.1) (by decide)
        · exact Nat.le_trans (strI_len hf.2.1) (by decide)
        · exact Nat.le_trans (strI_len hf.2.2) (by decide)
theorem zipD_le : ∀ {xs ys : List D}, (zipD xs ys).length ≤ xs.length
  | [], _ => by unfold zipD; exact Nat.le_refl _
  | _ :: _, [] => by unfold zipD; exact Nat.zero_le _
  | _ :: xs, _ :: ys => Nat.succ_le_succ (zipD_le (xs := xs) (ys := ys))
theorem enD_le : ∀ {xs : List D} {k : Int}, (enD k xs).length ≤ xs.length
  | [], _ => Nat.le_refl _
  | _ :: xs, k => Nat.succ_le_succ (enD_le (xs := xs) (k := k + 1))
theorem join_wd {ws : List Str} (h1 : ws.length ≤ 1010) (h2 : ∀ w ∈ ws, w.length ≤ 1000) : Tm.fn .join " " (.lst (ws.map D.str)) = .ok (dv (.str (Txt.join " " ws))) := by
  refine tm_joinL ?_
  have := sum_le (ps := ws) (n := 1000) h2
  have e1 : (" " : Str).length = 1 := by decide +kernel
  rw [e1]
  have : ws.length * 1000 ≤ 1010 * 1000 := Nat.mul_le_mul_right _ h1
  omega
theorem emp_map {ws : List Str} : (ws.map D.str).isEmpty = ws.isEmpty := by cases ws <;> rfl
theorem scT_ne {s : Sc} (h : (scW s).isEmpty = false) : scT s = Txt.join " " (scW s) := by
  unfold scT
  split
  · rename_i e; rw [e] at h; cases h
  · rename_i e; rw [e]
/-- a scene of a verdict: the ride's state, the logic's memory -/
structure Scn where
  ts : List Sg
  bars : Int
  ft : Option (Sg × Int)
  mem : List Int
instance : Inhabited Scn := ⟨⟨[], 0, none, []⟩⟩
def BdI (n : Int) : Prop := -1000000000 < n ∧ n < 1000000000
structure ScnB (s : Scn) : Prop where
  tn : s.ts.length ≤ 100
  ts : ∀ t ∈ s.ts, t.1.length ≤ 1000 ∧ BdI t.2.1 ∧ BdI t.2.2
  bars : BdI s.bars
  ft : FtB s.ft
  fk : ∀ f, s.ft = some f → f.1.1.length ≤ 1000
  mn : s.mem.length ≤ 400
  mem : ∀ n ∈ s.mem, BdI n
end Lw
end

section
set_option Elab.async false
set_option linter.all false
set_option maxRecDepth 100000
set_option maxHeartbeats 4000000
namespace Lw
open PySem PySem.Spec PyProof.Rows L2 Ci
open Evl (Ex ex_t ex_l sq_of st_of)
noncomputable def l_read_lines_1 (L_ : LamI) : P .s :=
  (.sq (.asgG (.gname 6) (.ownE (lamC_t L_ 2 [false] (.mcons false (.var 5) .mnil)) (lamC_f L_ 2 (.mcons false (.var 5) .mnil))))
  (.sq (.ifS (.tst (.bin .is (.var 6) (.c .non))) (.raiseF 6 "line" (.var 4)) .skip)
  (.mut .append (.pvar 3) (.acons (.var 6) .anil))))
noncomputable def b_read_lines (L_ : LamI) : P .s :=
  (.sq (.asgN 3 (.lst .anil))
  (.sq (.for (.enumK (.acons (.var 0) .anil) (.acons (.var 1) .anil)) (.gtup 2 (.gcons (.gname 4) (.gcons (.gname 5) .gnil))) (l_read_lines_1 L_) [4, 5, 6])
  (.retO 3)))
--spec eq_self
/-- what a line's reader tells -/
def tellB (φ : List D → R RV) (x : D) : R D := match φ [x] with
  | .ok (.sv (.fv (.d d))) => .ok d
  | _ => .bad
def rdF (φ : List D → R RV) : List D → Int → R (Except Int (List D))
  | [], _ => .ok (.ok [])
  | x :: r, k => (tellB φ x).bind fun d => if d.isNon then .ok (.error k) else (rdF φ r (k + 1)).bind fun q => .ok (match q with
    | .ok as => .ok (d :: as)
    | .error n => .error n)
def own_m_read_lines (φ : List D → R RV) (ds : List D) : R RV := match ds with
  | [.lst xs, .int 1] => if xs.length ≤ 10000 then (rdF φ xs 1).bind fun q => (match q with
    | .ok ss => .ok (ov (.lst ss))
    | .error n => .err 6 (some ("line", .int n))) else .bad
  | _ => .bad
theorem tell_ok {φ : List D → R RV} {x d : D} (h : tellB φ x = .ok d) : φ [x] = .ok (dv d) := by
  unfold tellB at h
  split at h
  · rename_i e; cases h; exact e
  · cases h
theorem tell_e {φ : List D → R RV} {x : D} {n : Nat} {f : Option (Str × D)} : tellB φ x ≠ .err n f := by
  unfold tellB
  split <;> intro h <;> cases h
theorem rdF_e {φ : List D → R RV} {n : Nat} {f : Option (Str × D)} : ∀ {xs : List D} {k : Int}, rdF φ xs k ≠ .err n f
  | [], _ => fun h => by cases h
  | x :: r, k => fun h => by
    unfold rdF at h
    cases e : tellB φ x with
    | bad => rw [e] at h; cases h
    | err a b => exact tell_e e
    | ok d =>
      rw [e, R.bind_ok] at h
      split at h
      · cases h
      · cases e2 : rdF φ r (k + 1) with
        | bad => rw [e2] at h; cases h
        | err a b => exact rdF_e e2
        | ok q => rw [e2] at h; cases h
theorem rlX {L : LamI} {x d : D} (h : tellB L.φ x = .ok d) : ∀ a0 a1 a3 a4 a6, lamC_f L 2 (.mcons false (.var 5) .mnil) [a0, a1, some (.ofL L), a3, a4, some (.d x), a6] = .ok (dv d) := fun a0 a1 a3 a4 a6 => by
  rw [x_lamC rfl]
  walk_at "ciw_run #0"
  exact tell_ok h
theorem rl_turn {L : LamI} {x d : D} {k : Int} {acc : List D} (h : tellB L.φ x = .ok d) (ha : acc.length ≤ 10000) (a0 a1 : Option SV) :
    wipeR [4, 5, 6] (forS (.gtup 2 (.gcons (.gname 4) (.gcons (.gname 5) .gnil))) (l_read_lines_1 L) (.tup [.int k, x]) [a0, a1, some (.ofL L), some (.fv (.lst acc)), none, none, none]) =
      (if d.isNon then .err 6 (some ("line", .int k)) [a0, a1, some (.ofL L), some (.fv (.lst acc)), some (.d (.int k)), some (.d x), some (.d d)] else .nx [a0, a1, some (.ofL L), some (.fv (.lst (acc ++ [d]))), none, none, none]) := by
  have X := rlX h
  unfold l_read_lines_1
  cases e : d.isNon with
  | true =>
    walk_at "ciw_run #0"
    rw [X]
    walk_at "ciw_run #0"
    cases d <;> first | rfl | cases e
  | false =>
    walk_at "ciw_run #0"
    rw [X]
    walk_at "ciw_run #0"
    cases d <;> first | rfl | cases e
theorem rl_loop {L : LamI} {a0 a1 : Option SV} : ∀ {xs : List D} {k : Int} {acc : List D} {q : Except Int (List D)}, acc.length + xs.length ≤ 10000 → rdF L.φ xs k = .ok q →
    ∃ ρ, forF (forS (.gtup 2 (.gcons (.gname 4) (.gcons (.gname 5) .gnil))) (l_read_lines_1 L)) [4, 5, 6] (enD k xs) [a0, a1, some (.ofL L), some (.fv (.lst acc)), none, none, none] =
      (match q with
      | .ok ss => .nx [a0, a1, some (.ofL L), some (.fv (.lst (acc ++ ss))), none, none, none]
      | .error n => .err 6 (some ("line", .int n)) ρ)
  | [], k, acc, q, _, h => by
    cases h
    exact ⟨[], by show SR.nx _ = .nx _; rw [List.append_nil]⟩
  | x :: r, k, acc, q, hl, h => by
    unfold rdF at h
    rw [List.length_cons] at hl
    cases e : tellB L.φ x with
    | bad => rw [e] at h; cases h
    | err a b => exact (tell_e e).elim
    | ok d =>
      have t := rl_turn (k := k) (acc := acc) e (by omega) a0 a1
      rw [e, R.bind_ok] at h
      show ∃ ρ, forF _ _ (.tup [.int k, x] :: enD (k + 1) r) _ = _
      rw [forF_turn, t]
      cases en : d.isNon with
      | true =>
        rw [en, if_pos rfl] at h
        cases h
        exact ⟨_, rfl⟩
      | false =>
        rw [en, if_neg (by decide)] at h
        cases e2 : rdF L.φ r (k + 1) with
        | bad => rw [e2] at h; cases h
        | err a b => exact (rdF_e e2).elim
        | ok q2 =>
          rw [e2, R.bind_ok] at h
          cases h
          obtain ⟨ρ, z⟩ := rl_loop (a0 := a0) (a1 := a1) (acc := acc ++ [d]) (by rw [List.length_append, List.length_singleton]; omega) e2
          refine ⟨ρ, ?_⟩
          show forF _ _ _ _ = _
          rw [z]
          cases q2 with
          | error n => rfl
          | ok ss => show SR.nx _ = .nx _; rw [List.append_assoc]; rfl
theorem own_eq_read_lines (L : LamI) (ds : List D) (h : own_m_read_lines L.φ ds ≠ .bad) : runLam 7 [false, false] b_read_lines L ds = own_m_read_lines L.φ ds := by
  unfold own_m_read_lines at h ⊢
  split at h <;> first | exact absurd rfl h | skip
  rename_i xs
  by_cases c : xs.length ≤ 10000
  · simp only [if_pos c] at h ⊢
    cases e : rdF L.φ xs 1 with
    | bad => rw [e] at h; exact absurd rfl h
    | err a b => exact (rdF_e e).elim
    | ok q =>
      obtain ⟨ρ, z⟩ := rl_loop (a0 := some (.d (.lst xs))) (a1 := some (.d (.int 1))) (acc := []) (by rw [List.length_nil]; omega) e
      unfold runLam b_read_lines
      cases q with
      | error n =>
        walk_at "ciw_all #0"
      | ok ss =>
        have z : _ = SR.nx [_, _, _, some (.fv (.lst ss)), _, _, _] := z
        walk_at "ciw_all #0"
  · simp only [if_neg c] at h
    exact absurd rfl h
end Lw
end

section
set_option Elab.async false
set_option linter.all false
set_option maxRecDepth 100000
set_option maxHeartbeats 4000000
namespace Lw
open PySem PySem.Spec PyProof.Rows L2 Ci
open Evl (Ex ex_t ex_l sq_of st_of)
def e_read_number_1 : P .e :=
  (.bin .in (.var 1) (.c (.str "0123456789")))
def b_read_number : P .s :=
  (.sq (.ifS (.notT (.tst (.chain .le .le (.c (.int 1)) (.cb .len (.rcons (.var 0) .rnil)) (.c (.int (9)))))) (.ret (.c .non)) .skip)
  (.sq (.ifS (.notT (.tru (.cb .all (.rcons (.lc (.seq (.var 0)) (.gname 1) .yes e_read_number_1 [1]) .rnil)))) (.ret (.c .non)) .skip)
  (.sq (.ifS (.andT (.tst (.bin .eq (.bin .ix (.var 0) (.c (.int 0))) (.c (.str "0")))) (.tst (.bin .ne (.var 0) (.c (.str "0"))))) (.ret (.c .non)) .skip)
  (.ret (.cb .int (.rcons (.var 0) .rnil))))))
def m_read_number : List D → R RV := runF 2 [false] b_read_number
--spec read_number
theorem digit_in {c : Nat} : decide (c ∈ tl ("0123456789" : Str)) = digitB c := by
  have e : tl ("0123456789" : Str) = [48, 49, 50, 51, 52, 53, 54, 55, 56, 57] := by decide +kernel
  rw [e]
  unfold digitB
  rw [← Bool.decide_and, decide_eq_decide]
  simp only [List.mem_cons, List.not_mem_nil, or_false]
  omega
theorem read_number {w : Str} (h : w.length ≤ 1000000) : m_read_number [.str w] = .ok (dv (encO (numR w))) := by
  have L : lcF (lcS (.gname 1) .yes e_read_number_1 [some (.d (.str w)), none]) (chD w) = .ok (((tl w).map digitB).map D.bl) := by
    rw [chD_map, List.map_map]
    exact lc_map (fun c => D.str ⟨#[c]⟩) (fun c => D.bl (digitB c)) fun c m => by
      unfold e_read_number_1
      walk_at "ciw_run #0"
      rw [digit_in]
  have hl : (chD w).length ≤ 1000000 := by rw [chD_len]; exact h
  unfold m_read_number runF b_read_number numR
  by_cases c1 : 1 ≤ w.length ∧ w.length ≤ 9
  · have d1 : decide ((1 : Int) ≤ (w.length : Nat)) = true := decide_eq_true (by omega)
    have d2 : decide (((w.length : Nat) : Int) ≤ 9) = true := decide_eq_true (by omega)
    have e1 := len_tl w
    cases ht : tl w with
    | nil => rw [ht] at e1; exact absurd e1 (by have := c1.1; simp; omega)
    | cons c r =>
    have hx := o_ixS0 ht (by omega)
    cases c2 : (tl w).all digitB with
    | false =>
      have c2' : ((tl w).map digitB).all id = false := by rw [all_id]; exact c2
      rw [if_neg (fun z => by rw [← ht, c2] at z; exact absurd z.2.1 (by decide))]
      clear e1 ht
      walk_at "ciw_all #0"
    | true =>
      have c2' : ((tl w).map digitB).all id = true := by rw [all_id]; exact c2
      have hi := o_intS c2 (by rw [ht]; exact List.cons_ne_nil _ _) (by omega)
      have e3 : decide ((⟨#[c]⟩ : Str) = "0") = decide (c = 48) := by
        rw [dec_tl, tl_zero, decide_eq_decide]
        show [c] = [48] ↔ _
        simp
      by_cases c3 : c = 48 ∧ w ≠ "0"
      · have d3 : decide (c = 48) = true := decide_eq_true c3.1
        have d4 : decide (w = "0") = false := decide_eq_false c3.2
        rw [if_neg (fun z => z.2.2 ⟨by rw [c3.1]; rfl, c3.2⟩)]
        clear e1 ht c3
        walk_at "ciw_all #0"
      · rw [if_pos ⟨c1, by rw [← ht]; exact c2, fun z => c3 ⟨Option.some.inj z.1, z.2⟩⟩]
        rw [← ht]
        by_cases c4 : c = 48
        · have d3 : decide (c = 48) = true := decide_eq_true c4
          have d4 : decide (w = "0") = true := decide_eq_true (by
            by_cases q : w = "0"
            · exact q
            · exact absurd ⟨c4, q⟩ c3)
          clear e1 ht c3 c4
          walk_at "ciw_all #0"
        · have d3 : decide (c = 48) = false := decide_eq_false c4
          clear e1 ht c3 c4
          walk_at "ciw_all #0"
  · rw [if_neg (fun z => c1 z.1)]
    by_cases c2 : 1 ≤ w.length
    · have d1 : decide ((1 : Int) ≤ (w.length : Nat)) = true := decide_eq_true (by omega)
      have d2 : decide (((w.length : Nat) : Int) ≤ 9) = false := decide_eq_false (by omega)
      walk_at "ciw_all #0"
    · have d1 : decide ((1 : Int) ≤ (w.length : Nat)) = false := decide_eq_false (by omega)
      walk_at "ciw_all #0"
end Lw
end

section
set_option Elab.async false
set_option linter.all false
set_option maxRecDepth 100000
set_option maxHeartbeats 4000000
namespace Lw
open PySem PySem.Spec PyProof.Rows L2 Ci
open Evl (Ex ex_t ex_l sq_of st_of)
def e_read_numbers_1 : P .e :=
  (.call [false] m_read_number (.mcons false (.var 2) .mnil))
def b_read_numbers : P .s :=
  (.sq (.asgG (.gname 1) (.lc (.seq (.var 0)) (.gname 2) .yes e_read_numbers_1 [2]))
  (.sq (.ifS (.tst (.bin .in (.c .non) (.var 1))) (.ret (.c .non)) .skip)
  (.ret (.var 1))))
def m_read_numbers : List D → R RV := runF 3 [false] b_read_numbers
--spec sp_nums
def numsR : List Str → Option (List Int)
  | [] => some []
  | w :: r => match numR w, numsR r with
    | some n, some ns => some (n :: ns)
    | _, _ => none
def nDs (ws : List Str) : List D := ws.map fun w => encO (numR w)
theorem nums_some : ∀ {ws : List Str} {ns : List Int}, numsR ws = some ns → nDs ws = ns.map D.int
  | [], ns, h => by cases h; rfl
  | w :: r, ns, h => by
    unfold numsR at h
    cases e1 : numR w with
    | none => rw [e1] at h; cases h
    | some n =>
      cases e2 : numsR r with
      | none => rw [e1, e2] at h; cases h
      | some ms =>
        rw [e1, e2] at h
        cases h
        show encO (numR w) :: nDs r = _
        rw [nums_some e2, e1]
        rfl
theorem nums_any : ∀ ws : List Str, (nDs ws).any (fun z => eqv z .non) = (numsR ws).isNone
  | [] => rfl
  | w :: r => by
    have ih := nums_any r
    show ((encO (numR w) :: nDs r).any fun z => eqv z .non) = (numsR (w :: r)).isNone
    rw [List.any_cons, ih]
    have e : numsR (w :: r) = (match numR w, numsR r with
      | some n, some ns => some (n :: ns)
      | _, _ => none) := rfl
    rw [e]
    generalize numsR r = q
    generalize numR w = n
    cases n <;> cases q <;> rfl
theorem nums_pure : ∀ ws : List Str, pures (nDs ws) = true ∧ depL (nDs ws) ≤ 1
  | [] => ⟨rfl, Nat.zero_le _⟩
  | w :: r => by
    have ih := nums_pure r
    have e : pure (encO (numR w)) = true ∧ (encO (numR w)).dep ≤ 1 := by cases numR w <;> exact ⟨rfl, Nat.le_of_ble_eq_true rfl⟩
    exact ⟨(by show (pure (encO (numR w)) && pures (nDs r)) = true; rw [e.1, ih.1]; rfl), Nat.max_le.mpr ⟨e.2, ih.2⟩⟩
theorem nums_in {ws : List Str} : B2.fn .in .non (.lst (nDs ws)) = .ok (dv (.bl (numsR ws).isNone)) := by
  have o : eqOk (.lst (nDs ws)) = true := by
    have := (nums_pure ws).2
    show (pures (nDs ws) && decide (depL (nDs ws) + 1 ≤ 60)) = true
    rw [(nums_pure ws).1, decide_eq_true (by omega)]
    rfl
  show (inLst .non (nDs ws)).bind _ = _
  unfold inLst
  rw [o, nums_any]
  rfl
theorem sp_nums {ws : List Str} (h : ∀ w ∈ ws, w.length ≤ 1000000) (hl : ws.length ≤ 1000000) : m_read_numbers [.lst (ws.map D.str)] = .ok (dv (match numsR ws with | some ns => .lst (ns.map D.int) | none => .non)) := by
  have C : lcF (lcS (.gname 2) .yes e_read_numbers_1 [some (.d (.lst (ws.map D.str))), none, none]) (ws.map D.str) = .ok (nDs ws) :=
    lc_map D.str (fun w => encO (numR w)) fun w m => by
      have e := read_number (h w m)
      unfold lcS e_read_numbers_1
      walk_at "ciw_all #1"
  have I := @nums_in ws
  have z : (nDs ws).length ≤ 1000000 := by unfold nDs; rw [List.length_map]; exact hl
  cases e : numsR ws with
  | none =>
    rw [e] at I
    replace I : B2.fn .in .non (.lst (nDs ws)) = .ok (dv (.bl true)) := I
    show _ = R.ok (dv D.non)
    generalize nDs ws = nd at *
    unfold m_read_numbers runF b_read_numbers
    clear h e
    walk_at "ciw_all #1"
  | some ns =>
    rw [e] at I
    replace I : B2.fn .in .non (.lst (nDs ws)) = .ok (dv (.bl false)) := I
    show _ = R.ok (dv (D.lst (ns.map D.int)))
    rw [← nums_some e]
    generalize nDs ws = nd at *
    unfold m_read_numbers runF b_read_numbers
    clear h e
    walk_at "ciw_all #1"
theorem numsR_len : ∀ {ws : List Str} {ns : List Int}, numsR ws = some ns → ns.length = ws.length
  | [], ns, h => by cases h; rfl
  | w :: r, ns, h => by
    have e : numsR (w :: r) = (match numR w, numsR r with
      | some n, some ns => some (n :: ns)
      | _, _ => none) := rfl
    rw [e] at h
    cases q : numsR r with
    | none => rw [q] at h; cases n : numR w <;> rw [n] at h <;> cases h
    | some ms =>
      rw [q] at h
      cases n : numR w with
      | none => rw [n] at h; cases h
      | some m => rw [n] at h; cases h; rw [List.length_cons, List.length_cons, numsR_len q]
theorem numsR_num : ∀ {ns : List Int}, (∀ n ∈ ns, 0 ≤ n ∧ n ≤ 999) → numsR (ns.map strI) = some ns
  | [], _ => rfl
  | n :: r, h => by
    have h1 := h n List.mem_cons_self
    show (match numR (strI n), numsR (r.map strI) with
      | some n, some ns => some (n :: ns)
      | _, _ => none) = _
    rw [numR_num h1.1 (by omega), numsR_num fun m q => h m (List.mem_cons_of_mem _ q)]
end Lw
end

section
set_option Elab.async false
set_option linter.all false
set_option maxRecDepth 100000
set_option maxHeartbeats 4000000
namespace Lw
open PySem PySem.Spec PyProof.Rows L2 Ci
open Evl (Ex ex_t ex_l sq_of st_of)
def b_fault_words : P .s :=
  (.sq (.asgG (.gtup 2 (.gcons (.gtup 3 (.gcons (.gname 1) (.gcons (.gname 2) (.gcons (.gname 3) .gnil)))) (.gcons (.gname 4) .gnil))) (.var 0))
  (.ret (.lst (.acons (.var 1) (.acons (.cb .str (.rcons (.var 2) .rnil)) (.acons (.cb .str (.rcons (.var 3) .rnil)) (.acons (.cb .str (.rcons (.var 4) .rnil)) .anil)))))))
def m_fault_words : List D → R RV := runF 5 [false] b_fault_words
--spec sp_fwords
theorem sp_fwords {p : Sg} {v : Int} (h : FtB (some (p, v))) : m_fault_words [.tup [encS p, .int v]] = .ok (ov (.lst ((fwW (p, v)).map D.str))) := by
  obtain ⟨k, a, b⟩ := p
  have s1 := o_str h.1
  have s2 := o_str h.2.1
  have s3 := o_str h.2.2
  unfold m_fault_words runF b_fault_words encS
  clear h
  walk_at "ciw_all #2"
  rfl
end Lw
end

section
set_option Elab.async false
set_option linter.all false
set_option maxRecDepth 100000
set_option maxHeartbeats 4000000
namespace Lw
open PySem PySem.Spec PyProof.Rows L2 Ci
open Evl (Ex ex_t ex_l sq_of st_of)
def t_written_scan_1 : P .t :=
  (.tst (.bin .eq (.var 6) (.c (.int 1))))
def e_written_scan_1 : P .e :=
  (.var 5)
def t_written_scan_2 : P .t :=
  (.tst (.bin .eq (.var 9) (.c (.int 1))))
def e_written_scan_2 : P .e :=
  (.cb .str (.rcons (.var 8) .rnil))
def b_written_scan : P .s :=
  (.sq (.asgG (.gtup 3 (.gcons (.gname 1) (.gcons (.gname 2) (.gcons (.gname 3) .gnil)))) (.var 0))
  (.sq (.asgN 4 (.lc (.zip (.acons (.kt 8 [(.str "go"), (.str "stop"), (.str "open")]) (.acons (.var 1) .anil))) (.gtup 2 (.gcons (.gname 5) (.gcons (.gname 6) .gnil))) t_written_scan_1 e_written_scan_1 [5, 6]))
  (.sq (.asgG (.gname 7) (.lc (.enum (.acons (.var 2) .anil)) (.gtup 2 (.gcons (.gname 8) (.gcons (.gname 9) .gnil))) t_written_scan_2 e_written_scan_2 [8, 9]))
  (.sq (.ifS (.tru (.var 7)) (.ext (.pvar 4) (.bin .add (.lst (.acons (.c (.str "late")) .anil)) (.var 7))) .skip)
  (.sq (.ifS (.tst (.bin .isnot (.var 3) (.c .non))) (.ext (.pvar 4) (.bin .add (.lst (.acons (.c (.str "fault")) .anil)) (.call [false] m_fault_words (.mcons false (.var 3) .mnil)))) .skip)
  (.sq (.ifS (.notT (.tru (.var 4))) (.ret (.c (.str "-"))) .skip)
  (.ret (.tm .join (.c (.str " ")) (.var 4)))))))))
def m_written_scan : List D → R RV := runF 10 [false] b_written_scan
--spec sp_written
theorem sp_written {s : Sc} (h : ScB s) : m_written_scan [encSc s] = .ok (dv (.str (scT s))) := by
  have L1 : ∀ a1 a2 a3 : Option SV, lcF (lcS (.gtup 2 (.gcons (.gname 5) (.gcons (.gname 6) .gnil))) t_written_scan_1 e_written_scan_1 [some (.d (.tup [.tup (s.bt.map D.int), .tup (s.ls.map D.int), encFt s.ft])), a1, a2, a3, none, none, none, none, none, none]) (zipD [.str "go", .str "stop", .str "open"] (s.bt.map D.int)) = .ok ((bwW ["go", "stop", "open"] s.bt).map D.str) := fun a1 a2 a3 =>
    bw_lc (xs := ["go", "stop", "open"]) fun x b => by
      unfold lcS t_written_scan_1 e_written_scan_1
      by_cases c : b = 1
      · have d := decide_eq_true c
        rw [if_pos c]
        walk_at "ciw_all #3"
      · have d := decide_eq_false c
        rw [if_neg c]
        walk_at "ciw_all #3"
  have L2 : ∀ a1 a2 a3 a4 : Option SV, lcF (lcS (.gtup 2 (.gcons (.gname 8) (.gcons (.gname 9) .gnil))) t_written_scan_2 e_written_scan_2 [some (.d (.tup [.tup (s.bt.map D.int), .tup (s.ls.map D.int), encFt s.ft])), a1, a2, a3, a4, none, none, none, none, none]) (enD 0 (s.ls.map D.int)) = .ok ((trW 0 s.ls).map D.str) := fun a1 a2 a3 a4 =>
    tr_lc (fun k x h0 h1 => by
      have hs := o_str (n := k) ⟨by omega, by omega⟩
      unfold lcS t_written_scan_2 e_written_scan_2
      by_cases c : x = 1
      · have d := decide_eq_true c
        rw [if_pos c]
        walk_at "ciw_all #3"
      · have d := decide_eq_false c
        rw [if_neg c]
        walk_at "ciw_all #3") (by omega) (by have := h.ls; omega)
  have W := scW_wd h
  have J := join_wd W.1 W.2
  have hft := h.ft
  have z1 := Nat.le_trans (zipD_le (xs := [.str "go", .str "stop", .str "open"]) (ys := s.bt.map D.int)) (show 3 ≤ 1000000 by decide)
  have z2 : (enD 0 (s.ls.map D.int)).length ≤ 1000000 := Nat.le_trans enD_le (by rw [List.length_map]; have := h.ls; omega)
  have b1 : (bwW ["go", "stop", "open"] s.bt).length ≤ 3 := bwW_len
  have b2 : (trW 0 s.ls).length ≤ 1000 := Nat.le_trans trW_len h.ls
  have ne := scT_ne (s := s)
  have e0 : (scW s).isEmpty = true → scT s = "-" := fun z => by
    unfold scT
    split
    · rfl
    · rename_i q; rw [q] at z; cases z
  obtain ⟨bt, ls, ft⟩ := s
  clear h W
  unfold encSc
  generalize scT _ = tx at *
  unfold scW at J ne e0
  dsimp only at *
  unfold m_written_scan runF b_written_scan
  generalize bwW ["go", "stop", "open"] bt = bw at *
  unfold latW at J ne e0
  generalize trW 0 ls = tw at *
  have eb := emp_map (ws := bw)
  have et := emp_map (ws := tw)
  rw [← List.length_map (f := D.str)] at b1 b2
  cases ft with
  | none =>
    unfold ftW at J ne e0
    rw [List.append_nil] at J ne e0
    rw [encFt_none] at *
    cases tw with
    | nil =>
      dsimp only at J ne e0
      rw [List.append_nil] at J ne e0
      rw [List.map_nil] at *
      replace et : ([] : List D).isEmpty = true := rfl
      generalize bw.map D.str = bd at *
      cases q : bw.isEmpty with
      | true =>
        rw [q] at eb
        rw [e0 q]
        clear ne e0 J q b1 b2
        walk_at "ciw_all #3"
      | false =>
        rw [q] at eb
        rw [ne q]
        generalize Txt.join " " bw = jt at *
        clear ne e0 q b1 b2
        walk_at "ciw_all #3"
    | cons t u =>
      dsimp only at J ne e0
      replace et : ((t :: u).map D.str).isEmpty = false := rfl
      rw [ne (by cases bw <;> rfl)]
      rw [List.map_append, List.map_cons] at J
      generalize (t :: u).map D.str = td at *
      generalize bw.map D.str = bd at *
      generalize Txt.join " " _ = jt at *
      have hs : bd.length + (td.length + 1) ≤ sizeLine := by rw [sizeLine_eq]; omega
      have hs2 : bd.length + td.length + 1 ≤ sizeLine := by rw [sizeLine_eq]; omega
      have he : (bd ++ D.str "late" :: td).isEmpty = false := by cases bd <;> rfl
      have ad : B2.fn .add (.lst [.str "late"]) (.lst td) = .ok (ov (.lst (.str "late" :: td))) := o_addL (by rw [sizeLine_eq, List.length_singleton]; omega)
      clear ne e0 b1 b2
      walk_at "ciw_all #3"
  | some f =>
    obtain ⟨p, v⟩ := f
    have F := sp_fwords hft
    rw [encFt_some] at *
    unfold ftW at J ne e0
    have fl : ((fwW (p, v)).map D.str).length = 4 := rfl
    cases tw with
    | nil =>
      dsimp only at J ne e0
      rw [List.append_nil] at J ne e0
      rw [List.map_nil] at *
      replace et : ([] : List D).isEmpty = true := rfl
      rw [ne (by cases bw <;> rfl)]
      rw [List.map_append, List.map_cons] at J
      generalize (fwW (p, v)).map D.str = fd at *
      generalize bw.map D.str = bd at *
      generalize Txt.join " " _ = jt at *
      have hs : bd.length + (fd.length + 1) ≤ sizeLine := by rw [sizeLine_eq]; omega
      have hs2 : bd.length + fd.length + 1 ≤ sizeLine := by rw [sizeLine_eq]; omega
      have he : (bd ++ D.str "fault" :: fd).isEmpty = false := by cases bd <;> rfl
      have ad : B2.fn .add (.lst [.str "fault"]) (.lst fd) = .ok (ov (.lst (.str "fault" :: fd))) := o_addL (by rw [sizeLine_eq, List.length_singleton]; omega)
      clear ne e0 b1 b2 fl
      walk_at "ciw_all #3"
    | cons t u =>
      dsimp only at J ne e0
      replace et : ((t :: u).map D.str).isEmpty = false := rfl
      rw [ne (by cases bw <;> rfl)]
      rw [List.map_append, List.map_append] at J
      replace J : Tm.fn .join " " (.lst (bw.map D.str ++ D.str "late" :: (t :: u).map D.str ++ D.str "fault" :: (fwW (p, v)).map D.str)) = _ := J
      generalize (fwW (p, v)).map D.str = fd at *
      generalize (t :: u).map D.str = td at *
      generalize bw.map D.str = bd at *
      generalize Txt.join " " _ = jt at *
      have hs : bd.length + (td.length + 1) ≤ sizeLine := by rw [sizeLine_eq]; omega
      have hs2 : bd.length + (td.length + 1) + (fd.length + 1) ≤ sizeLine := by rw [sizeLine_eq]; omega
      have he : (bd ++ D.str "late" :: td ++ D.str "fault" :: fd).isEmpty = false := by cases bd <;> rfl
      have ad : B2.fn .add (.lst [.str "late"]) (.lst td) = .ok (ov (.lst (.str "late" :: td))) := o_addL (by rw [sizeLine_eq, List.length_singleton]; omega)
      have ad2 : B2.fn .add (.lst [.str "fault"]) (.lst fd) = .ok (ov (.lst (.str "fault" :: fd))) := o_addL (by rw [sizeLine_eq, List.length_singleton]; omega)
      clear ne e0 b1 b2 fl
      walk_at "ciw_all #3"
end Lw
end

section
set_option Elab.async false
set_option linter.all false
set_option maxRecDepth 100000
set_option maxHeartbeats 4000000
namespace Lw
open PySem PySem.Spec PyProof.Rows L2 Ci
open Evl (Ex ex_t ex_l sq_of st_of)
def e_format_play_1 : P .e :=
  (.call [false] m_written_scan (.mcons false (.var 1) .mnil))
def b_format_play : P .s :=
  (.ret (.tm .join (.c (.str "\n")) (.lc (.seq (.var 0)) (.gname 1) .yes e_format_play_1 [1])))
def m_format_play : List D → R RV := runF 2 [false] b_format_play
--spec sp_format
theorem sp_format {ss : List Sc} (h1 : ∀ s ∈ ss, ScB s) (h2 : ∀ s ∈ ss, (scT s).length ≤ 1000) (h3 : ss.length ≤ 1000) : m_format_play [.lst (ss.map encSc)] = .ok (dv (.str (Txt.join "\n" (ss.map scT)))) := by
  have C : lcF (lcS (.gname 1) .yes e_format_play_1 [some (.d (.lst (ss.map encSc))), none]) (ss.map encSc) = .ok ((ss.map scT).map D.str) := by
    rw [List.map_map]
    exact lc_map encSc (fun s => D.str (scT s)) fun s m => by
      have e := sp_written (h1 s m)
      unfold lcS e_format_play_1
      walk_at "ciw_all #4"
  have J := tm_joinL (a := "\n") (ys := ss.map scT) (by
    have := join_lines (ls := ss.map scT) (n := 1000) (m := 1000) (fun l m => by
      obtain ⟨s, ms, rfl⟩ := List.mem_map.mp m
      exact h2 s ms) (by rw [List.length_map]; exact h3)
    omega)
  have z : ss.length ≤ 1000000 := by omega
  unfold m_format_play runF b_format_play
  clear h1 h2 h3
  generalize (ss.map scT).map D.str = td at *
  walk_at "ciw_all #4"
end Lw
end

section
set_option Elab.async false
set_option linter.all false
set_option maxRecDepth 100000
set_option maxHeartbeats 4000000
namespace Lw
open PySem PySem.Spec PyProof.Rows L2 Ci
open Evl (Ex ex_t ex_l sq_of st_of)
def b__words_before : P .s :=
  (.ret (.ife (.tst (.bin .in (.var 0) (.var 1))) (.sl (.var 1) .noP (.someP (.ownE (lix_t (.var 1) (.var 0)) (lix_f (.var 1) (.var 0))))) (.var 1)))
def m__words_before : List D → R RV := runF 2 [false, false] b__words_before
--spec wb_in wb_not
theorem wb_in {w : Str} {ws : List Str} (h : w ∈ ws) : m__words_before [.str w, .lst (ws.map D.str)] = .ok (ov (.lst ((befW w ws).map D.str))) := by
  obtain ⟨j, e, hj⟩ := idx_in h
  have q := q_lix e
  have i := in_strL (s := w) (l := ws)
  rw [decide_eq_true h] at i
  have sl := q_slT (f := D.str) (xs := ws) (j := (j : Int)) (by omega) (by omega)
  rw [Int.toNat_natCast] at sl
  unfold befW
  rw [e]
  dsimp only
  unfold m__words_before runF b__words_before
  clear h
  walk_at "ciw_all #5"
theorem wb_not {w : Str} {ws : List Str} (h : w ∉ ws) : m__words_before [.str w, .lst (ws.map D.str)] = .ok (dv (.lst ((befW w ws).map D.str))) := by
  have i := in_strL (s := w) (l := ws)
  rw [decide_eq_false h] at i
  unfold befW
  rw [idx_not h]
  dsimp only
  unfold m__words_before runF b__words_before
  clear h
  walk_at "ciw_all #5"
end Lw
end

section
set_option Elab.async false
set_option linter.all false
set_option maxRecDepth 100000
set_option maxHeartbeats 4000000
namespace Lw
open PySem PySem.Spec PyProof.Rows L2 Ci
open Evl (Ex ex_t ex_l sq_of st_of)
def b_read_fault : P .s :=
  (.sq (.ifS (.orT (.tst (.bin .ne (.cb .len (.rcons (.var 0) .rnil)) (.c (.int 4)))) (.tst (.bin .notin (.bin .ix (.var 0) (.c (.int 0))) (.kt 18 [(.str "sensor"), (.str "present"), (.str "brake")])))) (.ret (.c .non)) .skip)
  (.sq (.asgG (.gname 1) (.call [false] m_read_numbers (.mcons false (.sl (.var 0) (.someP (.c (.int 1))) .noP) .mnil)))
  (.sq (.ifS (.orT (.tst (.bin .is (.var 1) (.c .non))) (.tst (.bin .notin (.bin .ix (.var 1) (.c (.int 2))) (.tup (.acons (.c (.int 0)) (.acons (.c (.int 1)) .anil)))))) (.ret (.c .non)) .skip)
  (.ret (.tup (.acons (.tup (.acons (.bin .ix (.var 0) (.c (.int 0))) (.acons (.bin .ix (.var 1) (.c (.int 0))) (.acons (.bin .ix (.var 1) (.c (.int 1))) .anil)))) (.acons (.bin .ix (.var 1) (.c (.int 2))) .anil)))))))
def m_read_fault : List D → R RV := runF 2 [false] b_read_fault
--spec sp_rfault
def kindsP : List Str := ["sensor", "present", "brake"]
/-- a fault, read -/
def rfR : List Str → Option (Sg × Int)
  | [k, a, b, c] => if k ∈ kindsP then (match numsR [a, b, c] with
    | some [x, y, z] => if z = 0 ∨ z = 1 then some ((k, x, y), z) else none
    | _ => none) else none
  | _ => none
theorem rf_len {ws : List Str} (h : ws.length ≠ 4) : rfR ws = none := by
  unfold rfR
  split
  · exact absurd rfl h
  · rfl
theorem notin_str4 {k : Str} : B2.fn .notin (.str k) (.tup [.str "sensor", .str "present", .str "brake"]) = .ok (dv (.bl (!decide (k ∈ kindsP)))) := by
  rw [show B2.fn .notin (.str k) (.tup [.str "sensor", .str "present", .str "brake"]) = (inTup (.str k) [.str "sensor", .str "present", .str "brake"]).bind fun b => .ok (dv (.bl (!b))) by simp only [B2.fn, inF, if_true]]
  have h : inTup (.str k) [.str "sensor", .str "present", .str "brake"] = .ok (decide (k ∈ kindsP)) := by
    show (if _ = true then R.ok _ else _) = _
    rw [if_pos (by rfl)]
    congr 1
    exact any_strL (s := k) (l := kindsP)
  rw [h]
  rfl
theorem notin_01 {z : Int} : B2.fn .notin (.int z) (.tup [.int 0, .int 1]) = .ok (dv (.bl (!decide (z = 0 ∨ z = 1)))) := by
  rw [show B2.fn .notin (.int z) (.tup [.int 0, .int 1]) = (inTup (.int z) [.int 0, .int 1]).bind fun b => .ok (dv (.bl (!b))) by simp only [B2.fn, inF, if_true]]
  have h : inTup (.int z) [.int 0, .int 1] = .ok (decide (z = 0 ∨ z = 1)) := by
    show (if _ = true then R.ok _ else _) = _
    rw [if_pos (by rfl)]
    congr 1
    show (decide ((0 : Int) = z) || (decide ((1 : Int) = z) || false)) = _
    rw [Bool.or_false, ← Bool.decide_or, decide_eq_decide]
    omega
  rw [h]
  rfl
theorem sp_rfault {ws : List Str} (h : ∀ w ∈ ws, w.length ≤ 1000000) (hl : ws.length ≤ 1000000) : m_read_fault [.lst (ws.map D.str)] = .ok (dv (encFt (rfR ws))) := by
  by_cases c : ws.length = 4
  · match ws, c with
    | [k, a, b, d], _ =>
      have N := sp_nums (ws := [a, b, d]) (fun w m => h w (List.mem_cons_of_mem _ m)) (show 3 ≤ 1000000 by decide)
      replace N : m_read_numbers [.lst [.str a, .str b, .str d]] = _ := N
      have sl : slF (.lst [.str k, .str a, .str b, .str d]) (some 1) none = .ok (ov (.lst [.str a, .str b, .str d])) := by rfl
      have nk := notin_str4 (k := k)
      show m_read_fault [.lst [.str k, .str a, .str b, .str d]] = _
      have rf : rfR [k, a, b, d] = if k ∈ kindsP then (match numsR [a, b, d] with
        | some [x, y, z] => if z = 0 ∨ z = 1 then some ((k, x, y), z) else none
        | _ => none) else none := rfl
      rw [rf]
      clear rf
      unfold m_read_fault runF b_read_fault
      clear h hl
      by_cases ck : k ∈ kindsP
      · rw [decide_eq_true ck] at nk
        rw [if_pos ck]
        cases e : numsR [a, b, d] with
        | none =>
          rw [e] at N
          clear e
          walk_at "ciw_all #6"
          rfl
        | some ns =>
          have el := numsR_len e
          rw [e] at N
          clear e
          match ns, el with
          | [x, y, z], _ =>
            have n01 := notin_01 (z := z)
            replace N : m_read_numbers [.lst [.str a, .str b, .str d]] = .ok (dv (.lst [.int x, .int y, .int z])) := N
            dsimp only
            by_cases cz : z = 0 ∨ z = 1
            · rw [decide_eq_true cz] at n01
              rw [if_pos cz]
              clear cz ck
              walk_at "ciw_all #6"
              rfl
            · rw [decide_eq_false cz] at n01
              rw [if_neg cz]
              clear cz ck
              walk_at "ciw_all #6"
              rfl
      · rw [decide_eq_false ck] at nk
        rw [if_neg ck]
        clear ck
        walk_at "ciw_all #6"
        rfl
  · rw [rf_len c]
    have d : decide ((ws.length : Int) = 4) = false := decide_eq_false (by omega)
    unfold m_read_fault runF b_read_fault
    clear h hl c
    walk_at "ciw_all #6"
    rfl
end Lw
end

section
set_option Elab.async false
set_option linter.all false
set_option maxRecDepth 100000
set_option maxHeartbeats 4000000
namespace Lw
open PySem PySem.Spec PyProof.Rows L2 Ci
open Evl (Ex ex_t ex_l sq_of st_of)
def b__read_fault_of_play : P .s :=
  (.sq (.ifS (.andT (.tst (.bin .eq (.sl (.var 0) .noP (.someP (.c (.int 1)))) (.lst (.acons (.c (.str "present")) .anil)))) (.tst (.bin .ne (.sl (.var 0) (.someP (.c (.int 1))) (.someP (.c (.int 2)))) (.lst (.acons (.c (.str "0")) .anil))))) (.ret (.c .non)) .skip)
  (.ret (.call [false] m_read_fault (.mcons false (.var 0) .mnil))))
def m__read_fault_of_play : List D → R RV := runF 1 [false] b__read_fault_of_play
--spec sp_rfplay
def rfP (ws : List Str) : Option (Sg × Int) := if ws.take 1 = (["present"] : List Str) ∧ ¬ (ws.drop 1).take 1 = (["0"] : List Str) then none else rfR ws
theorem sp_rfplay {ws : List Str} (h : ∀ w ∈ ws, w.length ≤ 1000000) (hl : ws.length ≤ 1000000) : m__read_fault_of_play [.lst (ws.map D.str)] = .ok (dv (encFt (rfP ws))) := by
  have R := sp_rfault h hl
  have s1 := sl_to1 (ws := ws)
  have s2 := sl_12 (ws := ws)
  have q1 : B2.fn .eq (.lst ((ws.take 1).map D.str)) (.lst [.str "present"]) = _ := eq_strL (a := ws.take 1) (b := ["present"])
  have q2 : B2.fn .ne (.lst (((ws.drop 1).take 1).map D.str)) (.lst [.str "0"]) = _ := ne_strL (a := (ws.drop 1).take 1) (b := ["0"])
  unfold m__read_fault_of_play runF b__read_fault_of_play rfP
  clear h hl
  by_cases c1 : ws.take 1 = (["present"] : List Str)
  · rw [decide_eq_true c1] at q1
    by_cases c2 : (ws.drop 1).take 1 = (["0"] : List Str)
    · rw [decide_eq_true c2] at q2
      rw [if_neg fun z => z.2 c2]
      clear c1 c2
      generalize ((ws.drop 1).take 1).map D.str = d2 at *
      generalize (ws.take 1).map D.str = d1 at *
      generalize encFt _ = o at *
      walk_at "ciw_all #7"
    · rw [decide_eq_false c2] at q2
      rw [if_pos ⟨c1, c2⟩, encFt_none]
      clear c1 c2
      generalize ((ws.drop 1).take 1).map D.str = d2 at *
      generalize (ws.take 1).map D.str = d1 at *
      walk_at "ciw_all #7"
  · rw [decide_eq_false c1] at q1
    rw [if_neg fun z => c1 z.1]
    clear c1
    generalize (ws.take 1).map D.str = d1 at *
    generalize encFt _ = o at *
    walk_at "ciw_all #7"
end Lw
end

section
set_option Elab.async false
set_option linter.all false
set_option maxRecDepth 100000
set_option maxHeartbeats 4000000
namespace Lw
open PySem PySem.Spec PyProof.Rows L2 Ci
open Evl (Ex ex_t ex_l sq_of st_of)
def e_read_scan_1 : P .e :=
  (.ife (.tst (.bin .in (.var 6) (.var 4))) (.c (.int 1)) (.c (.int 0)))
def e_read_scan_2 : P .e :=
  (.ife (.andT (.tru (.var 7)) (.tst (.bin .in (.var 9) (.var 7)))) (.c (.int 1)) (.c (.int 0)))
def b_read_scan : P .s :=
  (.sq (.asgG (.gname 2) (.tm .split (.var 0) (.c (.str " "))))
  (.sq (.asgG (.gname 3) (.call [false, false] m__words_before (.mcons false (.c (.str "fault")) (.mcons false (.var 2) .mnil))))
  (.sq (.asgG (.gname 4) (.call [false, false] m__words_before (.mcons false (.c (.str "late")) (.mcons false (.var 3) .mnil))))
  (.sq (.asgG (.gname 5) (.cb .tuple (.rcons (.lc (.seq (.kt 8 [(.str "go"), (.str "stop"), (.str "open")])) (.gname 6) .yes e_read_scan_1 [6]) .rnil)))
  (.sq (.asgG (.gname 7) (.call [false] m_read_numbers (.mcons false (.sl (.var 3) (.someP (.bin .add (.cb .len (.rcons (.var 4) .rnil)) (.c (.int 1)))) .noP) .mnil)))
  (.sq (.asgG (.gname 8) (.cb .tuple (.rcons (.lc (.rng1 (.acons (.var 1) .anil)) (.gname 9) .yes e_read_scan_2 [9]) .rnil)))
  (.sq (.asgG (.gname 10) (.tup (.acons (.var 5) (.acons (.var 8) (.acons (.call [false] m__read_fault_of_play (.mcons false (.sl (.var 2) (.someP (.bin .add (.cb .len (.rcons (.var 3) .rnil)) (.c (.int 1)))) .noP) .mnil)) .anil)))))
  (.sq (.ifS (.tst (.bin .ne (.call [false] m_written_scan (.mcons false (.var 10) .mnil)) (.var 0))) (.ret (.c .non)) .skip)
  (.ret (.var 10))))))))))
def m_read_scan : List D → R RV := runF 11 [false, false] b_read_scan
--spec sp_rscan
theorem digits_fold : ∀ {l : List Nat} {acc : Nat}, l.all digitB = true → l.foldl (fun acc c => acc * 10 + (c - 48)) acc < (acc + 1) * 10 ^ l.length
  | [], acc, _ => by show acc < (acc + 1) * 1; omega
  | c :: r, acc, h => by
    rw [List.all_cons, Bool.and_eq_true] at h
    have ih := digits_fold (l := r) (acc := acc * 10 + (c - 48)) h.2
    have d : c ≤ 57 := by
      have := h.1
      unfold digitB at this
      simp only [Bool.and_eq_true, decide_eq_true_eq] at this
      exact this.2
    rw [List.foldl_cons, List.length_cons, Nat.pow_succ]
    have : (acc * 10 + (c - 48) + 1) * 10 ^ r.length ≤ ((acc + 1) * 10) * 10 ^ r.length := Nat.mul_le_mul_right _ (by omega)
    calc _ < _ := ih
      _ ≤ _ := this
      _ = _ := by rw [Nat.mul_assoc, Nat.mul_comm 10]
theorem digits_lt {l : List Nat} {n : Nat} (h : l.all digitB = true) (hl : l.length ≤ n) : NumText.digitsVal l < 10 ^ n := by
  have := digits_fold (acc := 0) h
  have p := Nat.pow_le_pow_right (show 0 < 10 by decide) hl
  show l.foldl _ 0 < _
  rw [Nat.zero_add, Nat.one_mul] at this
  omega
theorem cnt_le {c : Nat} : ∀ {l : List Nat}, PyProof.Rows.cnt c l ≤ (l.length : Int)
  | [] => by rw [PyProof.Rows.cnt_nil]; exact Int.le_refl _
  | n :: r => by
    have := cnt_le (c := c) (l := r)
    rw [PyProof.Rows.cnt_cons, List.length_cons]
    split <;> omega
theorem split_le {a : Str} : (Txt.split a " ").length ≤ a.length + 1 := by
  have e := PyProof.Rows.split_len a 32
  have c := cnt_le (c := 32) (l := a.cps.toList)
  have l := len_tl a
  have q : (" " : Str) = ⟨#[32]⟩ := by decide +kernel
  rw [q]
  have : (a.cps.toList.length : Int) = a.length := by rw [l]
  omega
theorem numR_bd {w : Str} {n : Int} (h : numR w = some n) : 0 ≤ n ∧ n < 1000000000 := by
  unfold numR at h
  split at h
  · rename_i c
    cases h
    have := digits_lt (n := 9) c.2.1 (by rw [← len_tl]; exact c.1.2)
    omega
  · cases h
theorem numsR_bd : ∀ {ws : List Str} {ns : List Int}, numsR ws = some ns → ∀ n ∈ ns, 0 ≤ n ∧ n < 1000000000
  | [], ns, h => by cases h; exact fun n m => absurd m List.not_mem_nil
  | w :: r, ns, h => by
    have e : numsR (w :: r) = (match numR w, numsR r with
      | some n, some ns => some (n :: ns)
      | _, _ => none) := rfl
    rw [e] at h
    cases e1 : numR w with
    | none => rw [e1] at h; cases numsR r <;> cases h
    | some n =>
      cases e2 : numsR r with
      | none => rw [e1, e2] at h; cases h
      | some ms =>
        rw [e1, e2] at h
        cases h
        intro x m
        rcases List.mem_cons.mp m with rfl | m
        · exact numR_bd e1
        · exact numsR_bd e2 x m
theorem rfR_bd {ws : List Str} : FtB (rfR ws) ∧ ∀ f, rfR ws = some f → f.1.1 ∈ kindsP := by
  unfold rfR
  split
  · rename_i k a b c
    split
    · rename_i hk
      split
      · rename_i x y z e
        split
        · have B := numsR_bd e
          have b1 := B x (by simp)
          have b2 := B y (by simp)
          have b3 := B z (by simp)
          exact ⟨⟨⟨by show _ < x; omega, b1.2⟩, ⟨by show _ < y; omega, b2.2⟩, ⟨by show _ < z; omega, b3.2⟩⟩, fun f q => by cases q; exact hk⟩
        · exact ⟨trivial, fun f q => by cases q⟩
      · exact ⟨trivial, fun f q => by cases q⟩
    · exact ⟨trivial, fun f q => by cases q⟩
  · exact ⟨trivial, fun f q => by cases q⟩
theorem rfP_bd {ws : List Str} : FtB (rfP ws) ∧ ∀ f, rfP ws = some f → f.1.1 ∈ kindsP := by
  unfold rfP
  split
  · exact ⟨trivial, fun f q => by cases q⟩
  · exact rfR_bd
def hasN (o : Option (List Int)) (t : Int) : Bool := match o with
  | some ns => ns.any fun z => decide (z = t)
  | none => false
def b2i : Bool → Int
  | true => 1
  | false => 0
def nmO : Option (List Int) → D
  | some ns => .lst (ns.map D.int)
  | none => .non
def btsW (bl : List Str) : List Int := (["go", "stop", "open"] : List Str).map fun b => if b ∈ bl then 1 else 0
def rdW (T : Nat) (ws : List Str) : Sc :=
  ⟨btsW (befW "late" (befW "fault" ws)),
   (List.range T).map fun (t : Nat) => b2i (hasN (numsR ((befW "fault" ws).drop ((befW "late" (befW "fault" ws)).length + 1))) (t : Int)),
   rfP (ws.drop ((befW "fault" ws).length + 1))⟩
/-- a line as a scan -/
def rdLn (T : Nat) (line : Str) : Option Sc := if scT (rdW T (Txt.split line " ")) = line then some (rdW T (Txt.split line " ")) else none
def scO : Option Sc → D
  | some s => encSc s
  | none => .non
theorem rdW_ok {T : Nat} {ws : List Str} (h : T ≤ 1000) : ScB (rdW T ws) where
  ls := by show ((List.range T).map _).length ≤ 1000; rw [List.length_map, List.length_range]; exact h
  ft := rfP_bd.1
  fk := fun f e => by
    have k := rfP_bd.2 f e
    have c : ∀ x ∈ kindsP, x.length ≤ 1000 := by decide +kernel
    exact c _ k
theorem sl_from {ws : List Str} {n : Nat} : slF (.lst (ws.map D.str)) (some ((n : Int))) none = .ok (ov (.lst ((ws.drop n).map D.str))) := by
  by_cases c : n ≤ ws.length
  · have := q_slF (f := D.str) (xs := ws) (i := (n : Int)) (by omega) (by omega)
    rw [Int.toNat_natCast] at this
    exact this
  · show R.ok (ov (.lst (Ci.cutD _ _ _))) = _
    unfold Ci.cutD
    have e2 : HT.sIx (ws.map D.str).length 0 (some (n : Int)) = (ws.map D.str).length := by rw [HT.sIx_nat, List.length_map]; omega
    rw [e2, List.drop_eq_nil_of_le (Nat.le_refl _), List.take_nil, List.drop_eq_nil_of_le (show ws.length ≤ n by omega)]
    rfl
theorem bt_lc {bl : List Str} (a0 a1 a2 a3 a5 a7 a8 a9 a10 : Option SV) : lcF (lcS (.gname 6) .yes e_read_scan_1 [a0, a1, a2, a3, some (.d (.lst (bl.map D.str))), a5, none, a7, a8, a9, a10]) [.str "go", .str "stop", .str "open"] = .ok ((btsW bl).map D.int) := by
  unfold btsW
  rw [List.map_map]
  refine lc_map (xs := (["go", "stop", "open"] : List Str)) D.str _ fun x _ => ?_
  have i := in_strL (s := x) (l := bl)
  unfold lcS e_read_scan_1
  by_cases c : x ∈ bl
  · rw [decide_eq_true c] at i
    show _ = R.ok (some (D.int (if x ∈ bl then 1 else 0)))
    rw [if_pos c]
    clear c
    walk_at "ciw_all #8"
  · rw [decide_eq_false c] at i
    show _ = R.ok (some (D.int (if x ∈ bl then 1 else 0)))
    rw [if_neg c]
    clear c
    walk_at "ciw_all #8"
theorem lt_lc {T : Nat} {o : Option (List Int)} (a0 a1 a2 a3 a4 a5 a6 a8 a10 : Option SV) : lcF (lcS (.gname 9) .yes e_read_scan_2 [a0, a1, a2, a3, a4, a5, a6, some (.d (nmO o)), a8, none, a10]) (rng 0 T) = .ok (((List.range T).map fun (t : Nat) => b2i (hasN o (t : Int))).map D.int) := by
  rw [List.map_map]
  refine lc_rng 0 T _ fun k _ => ?_
  rw [Int.zero_add]
  show _ = R.ok (some (D.int (b2i (hasN o (k : Int)))))
  unfold lcS e_read_scan_2
  cases o with
  | none =>
    unfold nmO
    show _ = R.ok (some (D.int 0))
    walk_at "ciw_all #8"
  | some ns =>
    have i := q_inI (x := (k : Int)) (xs := ns)
    show _ = R.ok (some (D.int (b2i (ns.any fun z => decide (z = (k : Int))))))
    unfold nmO
    dsimp only
    cases ns with
    | nil =>
      walk_at "ciw_all #8"
      rfl
    | cons n r =>
      have ne : (List.map D.int (n :: r)).isEmpty = false := rfl
      generalize List.map D.int (n :: r) = nd at *
      generalize (n :: r).any _ = b at *
      cases b <;> unfold b2i <;> walk_at "ciw_all #8"
theorem sp_rscan {T : Nat} {line : Str} (h : line.length ≤ 100000) (hT : T ≤ 1000) : m_read_scan [.str line, .int (T : Nat)] = .ok (dv (scO (rdLn T line))) := by
  have hs := tm_split (a := line) (b := " ") ⟨by rw [len_sp]; rfl, by rw [sizeLine_eq]; omega⟩
  have wl : ∀ w ∈ Txt.split line " ", w.length ≤ 1000000 := fun w m => Nat.le_trans (PyProof.Rows.part_short m) (by omega)
  have wn : (Txt.split line " ").length ≤ 1000000 := Nat.le_trans split_le (by omega)
  have W := sp_written (rdW_ok (T := T) (ws := Txt.split line " ") hT)
  unfold rdLn
  generalize Txt.split line " " = ws at *
  have bl1 := bef_len (w := "fault") (ws := ws)
  have bs1 := bef_sub (w := "fault") (ws := ws)
  have w1 : ∃ r, m__words_before [.str "fault", .lst (ws.map D.str)] = .ok r ∧ (r = ov (.lst ((befW "fault" ws).map D.str)) ∨ r = dv (.lst ((befW "fault" ws).map D.str))) := by
    by_cases c : ("fault" : Str) ∈ ws
    · exact ⟨_, wb_in c, .inl rfl⟩
    · exact ⟨_, wb_not c, .inr rfl⟩
  have w2 : ∃ r, m__words_before [.str "late", .lst ((befW "fault" ws).map D.str)] = .ok r ∧ (r = ov (.lst ((befW "late" (befW "fault" ws)).map D.str)) ∨ r = dv (.lst ((befW "late" (befW "fault" ws)).map D.str))) := by
    by_cases c : ("late" : Str) ∈ befW "fault" ws
    · exact ⟨_, wb_in c, .inl rfl⟩
    · exact ⟨_, wb_not c, .inr rfl⟩
  have P := sp_rfplay (ws := ws.drop ((befW "fault" ws).length + 1)) (fun w m => wl w (List.mem_of_mem_drop m)) (by rw [List.length_drop]; omega)
  have N := sp_nums (ws := (befW "fault" ws).drop ((befW "late" (befW "fault" ws)).length + 1)) (fun w m => wl w (bs1 w (List.mem_of_mem_drop m))) (by rw [List.length_drop]; omega)
  unfold rdW at *
  generalize befW "fault" ws = bf at *
  generalize befW "late" bf = bl at *
  have s1 : slF (.lst (bf.map D.str)) (some ((bl.length : Int) + 1)) none = _ := sl_from (ws := bf) (n := bl.length + 1)
  have s2 : slF (.lst (ws.map D.str)) (some ((bf.length : Int) + 1)) none = _ := sl_from (ws := ws) (n := bf.length + 1)
  have B := @bt_lc bl
  have L := @lt_lc T (numsR (bf.drop (bl.length + 1)))
  unfold encSc at W
  dsimp only at W
  generalize numsR (bf.drop (bl.length + 1)) = nr at *
  generalize rfP (ws.drop (bf.length + 1)) = rf at *
  replace N : _ = R.ok (dv (nmO nr)) := N
  obtain ⟨r1, w1, e1⟩ := w1
  obtain ⟨r2, w2, e2⟩ := w2
  clear wl wn bl1 bs1 h
  unfold m_read_scan runF b_read_scan
  generalize scT _ = tx at *
  by_cases c : tx = line
  · rw [if_pos c]
    have d := decide_eq_true c
    rw [show scO (some (⟨btsW bl, (List.range T).map fun (t : Nat) => b2i (hasN nr (t : Int)), rf⟩ : Sc)) = .tup [.tup ((btsW bl).map D.int), .tup (((List.range T).map fun (t : Nat) => b2i (hasN nr (t : Int))).map D.int), encFt rf] from rfl]
    generalize (btsW bl).map D.int = bd at *
    generalize ((List.range T).map fun (t : Nat) => b2i (hasN nr (t : Int))).map D.int = td at *
    generalize encFt rf = fd at *
    generalize nmO nr = nd at *
    clear c
    rcases e1 with rfl | rfl <;> rcases e2 with rfl | rfl <;> walk_at "ciw_all #8"
  · rw [if_neg c]
    have d := decide_eq_false c
    rw [show scO none = .non from rfl]
    generalize (btsW bl).map D.int = bd at *
    generalize ((List.range T).map fun (t : Nat) => b2i (hasN nr (t : Int))).map D.int = td at *
    generalize encFt rf = fd at *
    generalize nmO nr = nd at *
    clear c
    rcases e1 with rfl | rfl <;> rcases e2 with rfl | rfl <;> walk_at "ciw_all #8"
/-! what is written is read -/
structure PlS (T : Nat) (s : Sc) : Prop where
  bt : ∃ x y z : Int, s.bt = [x, y, z] ∧ (x = 0 ∨ x = 1) ∧ (y = 0 ∨ y = 1) ∧ (z = 0 ∨ z = 1)
  ln : s.ls.length = T
  ls : ∀ v ∈ s.ls, v = 0 ∨ v = 1
  ft : ∀ f, s.ft = some f → f.1.1 ∈ kindsP ∧ (0 ≤ f.1.2.1 ∧ f.1.2.1 ≤ 999) ∧ (0 ≤ f.1.2.2 ∧ f.1.2.2 ≤ 999) ∧ (f.2 = 0 ∨ f.2 = 1) ∧ (f.1.1 = "present" → f.1.2.1 = 0)
theorem strI_ne {n : Int} {w : Str} {c : Nat} (h : c < 45 ∨ 57 < c) (m : c ∈ tl w) : strI n ≠ w := fun e => strI_free h (by rw [e]; exact m)
theorem PlS.B {T : Nat} {s : Sc} (h : PlS T s) (hT : T ≤ 1000) : ScB s where
  ls := by rw [h.ln]; exact hT
  ft := by
    cases e : s.ft with
    | none => trivial
    | some f =>
      obtain ⟨_, h2, h3, h4, _⟩ := h.ft f e
      exact ⟨⟨by omega, by omega⟩, ⟨by omega, by omega⟩, ⟨by omega, by omega⟩⟩
  fk := fun f e => by
    have c : ∀ x ∈ kindsP, x.length ≤ 1000 := by decide +kernel
    exact c _ (h.ft f e).1
theorem bef_app {w : Str} : ∀ {a b : List Str}, w ∉ a → befW w (a ++ w :: b) = a
  | [], b, _ => by
    show befW w (w :: b) = []
    unfold befW idxN
    rw [if_pos rfl]
    rfl
  | x :: r, b, h => by
    have ih := bef_app (a := r) (b := b) fun m => h (List.mem_cons_of_mem _ m)
    have c : ¬ x = w := fun e => h (by rw [e]; exact List.mem_cons_self)
    unfold befW at ih ⊢
    rw [List.cons_append]
    rw [show idxN w (x :: (r ++ w :: b)) = (idxN w (r ++ w :: b)).map (· + 1) by conv => lhs; unfold idxN; rw [if_neg c]]
    cases e : idxN w (r ++ w :: b) with
    | none =>
      rw [e] at ih
      have := congrArg List.length ih
      simp only [List.length_append, List.length_cons] at this
      omega
    | some j =>
      rw [e] at ih
      show (x :: (r ++ w :: b)).take (j + 1) = _
      rw [List.take_succ_cons]
      congr 1
theorem bef_not {w : Str} {a : List Str} (h : w ∉ a) : befW w a = a := by
  unfold befW
  rw [idx_not h]
def trN : Int → List Int → List Int
  | _, [] => []
  | k, x :: r => if x = 1 then k :: trN (k + 1) r else trN (k + 1) r
theorem trN_cons {k x : Int} {r : List Int} : trN k (x :: r) = if x = 1 then k :: trN (k + 1) r else trN (k + 1) r := rfl
theorem trW_N : ∀ {ls : List Int} {k : Int}, trW k ls = (trN k ls).map strI
  | [], _ => rfl
  | x :: r, k => by
    rw [trW_cons, trN_cons, trW_N (ls := r)]
    split <;> rfl
theorem trN_bd : ∀ {ls : List Int} {k : Int}, ∀ n ∈ trN k ls, k ≤ n ∧ n < k + ls.length
  | [], _ => fun n m => absurd m List.not_mem_nil
  | x :: r, k => fun n m => by
    rw [trN_cons] at m
    rw [List.length_cons]
    have ih := trN_bd (ls := r) (k := k + 1) n
    split at m
    · rcases List.mem_cons.mp m with m | m
      · omega
      · have := ih m; omega
    · have := ih m; omega
theorem trN_mem : ∀ {ls : List Int} {k : Int} {j : Nat}, (k + (j : Int)) ∈ trN k ls ↔ ls[j]? = some 1
  | [], _, j => by
    constructor
    · intro m; exact absurd m List.not_mem_nil
    · intro e; cases e
  | x :: r, k, 0 => by
    have b := trN_bd (ls := r) (k := k + 1)
    have z : k + ((0 : Nat) : Int) = k := by omega
    rw [trN_cons, z]
    show _ ↔ some x = some 1
    rw [Option.some.injEq]
    constructor
    · intro m
      split at m
      · assumption
      · have := b _ m; omega
    · intro e
      rw [if_pos e]
      exact List.mem_cons_self
  | x :: r, k, j + 1 => by
    have ih := trN_mem (ls := r) (k := k + 1) (j := j)
    have z : k + ((j + 1 : Nat) : Int) = k + 1 + (j : Int) := by omega
    rw [trN_cons, z]
    show _ ↔ r[j]? = some 1
    rw [← ih]
    constructor
    · intro m
      split at m
      · rcases List.mem_cons.mp m with m | m
        · omega
        · exact m
      · exact m
    · intro m
      split
      · exact List.mem_cons_of_mem _ m
      · exact m
theorem latW_eq {ls : List Int} : latW ls = if trW 0 ls = [] then [] else ("late" : Str) :: trW 0 ls := by
  unfold latW
  split
  · rename_i e; rw [if_pos e]
  · rename_i e; rw [e, if_neg (List.cons_ne_nil _ _)]
theorem rd_lates {ls : List Int} (h : ∀ v ∈ ls, v = 0 ∨ v = 1) : ((List.range ls.length).map fun (t : Nat) => b2i (hasN (some (trN 0 ls)) (t : Int))) = ls := by
  apply List.ext_getElem?
  intro j
  rw [List.getElem?_map]
  by_cases c : j < ls.length
  · rw [List.getElem?_range c, List.getElem?_eq_getElem c]
    show some (b2i ((trN 0 ls).any fun z => decide (z = (j : Int)))) = _
    congr 1
    have e := trN_mem (ls := ls) (k := 0) (j := j)
    rw [Int.zero_add, List.getElem?_eq_getElem c, Option.some.injEq] at e
    have q : ((trN 0 ls).any fun z => decide (z = (j : Int))) = decide ((j : Int) ∈ trN 0 ls) := by
      rw [List.any_eq, decide_eq_decide]
      constructor
      · rintro ⟨z, m, d⟩; rw [← of_decide_eq_true d]; exact m
      · intro m; exact ⟨_, m, decide_eq_true rfl⟩
    rw [q, show decide ((j : Int) ∈ trN 0 ls) = decide (ls[j] = 1) from decide_eq_decide.mpr e]
    rcases h ls[j] (List.getElem_mem c) with v | v <;> simp [v, b2i]
  · rw [List.getElem?_eq_none (by rw [List.length_range]; omega), List.getElem?_eq_none (by omega)]
    rfl
theorem bts_bw {x y z : Int} (hx : x = 0 ∨ x = 1) (hy : y = 0 ∨ y = 1) (hz : z = 0 ∨ z = 1) : btsW (bwW ["go", "stop", "open"] [x, y, z]) = [x, y, z] := by
  rcases hx with rfl | rfl <;> rcases hy with rfl | rfl <;> rcases hz with rfl | rfl <;> decide +kernel
theorem rd_fault {f : Sg × Int} (h : f.1.1 ∈ kindsP ∧ (0 ≤ f.1.2.1 ∧ f.1.2.1 ≤ 999) ∧ (0 ≤ f.1.2.2 ∧ f.1.2.2 ≤ 999) ∧ (f.2 = 0 ∨ f.2 = 1) ∧ (f.1.1 = "present" → f.1.2.1 = 0)) : rfP (fwW f) = some f := by
  obtain ⟨⟨k, a, b⟩, v⟩ := f
  obtain ⟨h1, h2, h3, h4, h5⟩ := h
  dsimp only at *
  have N : numsR [strI a, strI b, strI v] = some [a, b, v] := numsR_num (ns := [a, b, v]) fun n m => by
    simp only [List.mem_cons, List.not_mem_nil, or_false] at m
    rcases m with rfl | rfl | rfl <;> omega
  unfold rfP
  rw [if_neg]
  · show (if k ∈ kindsP then (match numsR [strI a, strI b, strI v] with
      | some [x, y, z] => if z = 0 ∨ z = 1 then some ((k, x, y), z) else none
      | _ => none) else none) = _
    rw [if_pos h1, N]
    show (if v = 0 ∨ v = 1 then some ((k, a, b), v) else none) = _
    rw [if_pos h4]
  · rintro ⟨e1, e2⟩
    refine e2 ?_
    replace e1 : [k] = (["present"] : List Str) := e1
    injection e1 with e1 _
    show [strI a] = (["0"] : List Str)
    rw [h5 e1, show strI 0 = ("0" : Str) by decide +kernel]
theorem rdW_W {T : Nat} {s : Sc} (h : PlS T s) (hT : T ≤ 1000) : rdW T (scW s) = s := by
  obtain ⟨x, y, z, eb, hx, hy, hz⟩ := h.bt
  have hf := h.ft
  have hl := h.ls
  have hn := h.ln
  obtain ⟨bt, ls, ft⟩ := s
  dsimp only at *
  subst eb hn
  have c1 : ∀ w ∈ (["go", "stop", "open"] : List Str), w ≠ "fault" ∧ w ≠ "late" := by decide +kernel
  have c2 : ("late" : Str) ≠ "fault" ∧ 102 ∈ tl ("fault" : Str) ∧ 108 ∈ tl ("late" : Str) := by decide +kernel
  have b1 : ∀ w ∈ bwW ["go", "stop", "open"] [x, y, z], w ≠ "fault" ∧ w ≠ "late" := fun w m => c1 w (bwW_sub w m)
  have B := bts_bw hx hy hz
  have R := rd_lates hl
  have NT : numsR (trW 0 ls) = some (trN 0 ls) := by
    rw [trW_N]
    exact numsR_num fun n m => by have := trN_bd n m; omega
  have l1 : ("fault" : Str) ∉ latW ls := fun m => by
    rw [latW_eq] at m
    split at m
    · exact absurd m List.not_mem_nil
    · rcases List.mem_cons.mp m with m | m
      · exact c2.1 m.symm
      · obtain ⟨n, _, _, e⟩ := trW_wd (ls := ls) (k := 0) (by omega) (by omega) _ m
        exact strI_ne (.inr (by decide)) c2.2.1 e.symm
  rw [show scW ⟨[x, y, z], ls, ft⟩ = bwW ["go", "stop", "open"] [x, y, z] ++ latW ls ++ ftW ft from rfl]
  generalize bwW ["go", "stop", "open"] [x, y, z] = bw at *
  have f1 : befW "fault" (bw ++ latW ls ++ ftW ft) = bw ++ latW ls := by
    have nf : ("fault" : Str) ∉ bw ++ latW ls := fun m => (List.mem_append.mp m).elim (fun m => (b1 _ m).1 rfl) l1
    cases ft with
    | none =>
      show befW "fault" (bw ++ latW ls ++ []) = _
      rw [List.append_nil, bef_not nf]
    | some f => exact bef_app nf
  have f2 : befW "late" (bw ++ latW ls) = bw ∧ (bw ++ latW ls).drop (bw.length + 1) = trW 0 ls := by
    have nl : ("late" : Str) ∉ bw := fun m => (b1 _ m).2 rfl
    rw [latW_eq]
    split
    · rename_i e
      rw [List.append_nil, bef_not nl, e, List.drop_eq_nil_of_le (Nat.le_succ _)]
      exact ⟨rfl, rfl⟩
    · rw [bef_app nl, List.drop_append, List.drop_eq_nil_of_le (Nat.le_succ _), show bw.length + 1 - bw.length = 1 by omega]
      exact ⟨rfl, rfl⟩
  have f3 : rfP ((bw ++ latW ls ++ ftW ft).drop ((bw ++ latW ls).length + 1)) = ft := by
    rw [List.drop_append, List.drop_eq_nil_of_le (Nat.le_succ _), show (bw ++ latW ls).length + 1 - (bw ++ latW ls).length = 1 by omega]
    cases ft with
    | none => decide +kernel
    | some f => exact rd_fault (hf f rfl)
  unfold rdW
  rw [f1, f2.1, f2.2, NT, B, R, f3]
theorem rdLn_ok {T : Nat} {s : Sc} (h : PlS T s) (hT : T ≤ 1000) : rdLn T (scT s) = some s := by
  have W := rdW_W h hT
  have key : rdW T (Txt.split (scT s) " ") = s := by
    cases e : scW s with
    | nil =>
      have e2 : scT s = "-" := by unfold scT; rw [e]
      rw [e] at W
      rw [e2, show Txt.split ("-" : Str) " " = (["-"] : List Str) by decide +kernel, ← W]
      have q1 : befW "fault" (["-"] : List Str) = (["-"] : List Str) := by decide +kernel
      have q2 : befW "late" (["-"] : List Str) = (["-"] : List Str) := by decide +kernel
      have q3 : befW "fault" ([] : List Str) = [] := rfl
      have q4 : befW "late" ([] : List Str) = [] := rfl
      unfold rdW
      rw [q1, q2, q3, q4]
      have q5 : btsW (["-"] : List Str) = btsW [] := by decide +kernel
      rw [q5]
      rfl
    | cons w r =>
      have e2 : scT s = Txt.join " " (scW s) := scT_ne (by rw [e]; rfl)
      rw [e2, split_sp (by rw [e]; exact List.cons_ne_nil _ _), W]
      intro l m
      have c1 : ∀ w ∈ (["go", "stop", "open"] : List Str), 32 ∉ tl w := by decide +kernel
      have c2 : 32 ∉ tl ("late" : Str) ∧ 32 ∉ tl ("fault" : Str) ∧ ∀ w ∈ kindsP, 32 ∉ tl w := by decide +kernel
      unfold scW at m
      rcases List.mem_append.mp m with m | m
      · rcases List.mem_append.mp m with m | m
        · exact c1 l (bwW_sub l m)
        · rw [latW_eq] at m
          split at m
          · exact absurd m List.not_mem_nil
          · rcases List.mem_cons.mp m with m | m
            · rw [m]; exact c2.1
            · have hn := h.ln
              obtain ⟨n, _, _, rfl⟩ := trW_wd (ls := s.ls) (k := 0) (by omega) (by omega) l m
              exact strI_free (.inl (by decide))
      · cases ef : s.ft with
        | none => rw [ef] at m; exact absurd m List.not_mem_nil
        | some f =>
          have hf := h.ft f ef
          rw [ef] at m
          unfold ftW fwW at m
          simp only [List.mem_cons, List.not_mem_nil, or_false] at m
          rcases m with rfl | rfl | rfl | rfl | rfl
          · exact c2.2.1
          · exact c2.2.2 _ hf.1
          · exact strI_free (.inl (by decide))
          · exact strI_free (.inl (by decide))
          · exact strI_free (.inl (by decide))
  unfold rdLn
  rw [key, if_pos rfl]
end Lw
end

section
set_option Elab.async false
set_option linter.all false
set_option maxRecDepth 100000
set_option maxHeartbeats 4000000
namespace Lw
open PySem PySem.Spec PyProof.Rows L2 Ci
open Evl (Ex ex_t ex_l sq_of st_of)
def el_parse_play_1 : P .e :=
  (.call [false, false] m_read_scan (.mcons false (.var 0) (.mcons false (.var 1) .mnil)))
def b_parse_play : P .s :=
  (.sq (.ifS (.tst (.bin .eq (.var 0) (.c (.str "")))) (.ret (.lst .anil)) .skip)
  (.ret (.ownE (lamG_t 0 [false, false] own_m_read_lines (lamF 2 [false] el_parse_play_1) (.mcons false (.tm .split (.var 0) (.c (.str "\n"))) (.mcons false (.c (.int 1)) .mnil)) [1]) (lamG_f own_m_read_lines (lamF 2 [false] el_parse_play_1) (.mcons false (.tm .split (.var 0) (.c (.str "\n"))) (.mcons false (.c (.int 1)) .mnil)) [1]))))
def m_parse_play : List D → R RV := runF 2 [false, false] b_parse_play
--spec sp_parse0 sp_parse
def resL (q : Except Int (List Sc)) : R RV := match q with
  | .ok ss => .ok (ov (.lst (ss.map encSc)))
  | .error n => .err 6 (some ("line", .int n))
theorem isNon_scO {o : Option Sc} : (scO o).isNon = o.isNone := by cases o <;> rfl
theorem own_rl {φ : List D → R RV} {xs : List D} (h : xs.length ≤ 10000) : own_m_read_lines φ [.lst xs, .int 1] = (rdF φ xs 1).bind fun q => (match q with
    | .ok ss => .ok (ov (.lst ss))
    | .error n => .err 6 (some ("line", .int n))) := by
  unfold own_m_read_lines
  split
  · rename_i ys e
    cases e
    exact (if_pos h).trans rfl
  · rename_i hn
    exact absurd rfl (hn _)
theorem rdL_cs {α : Type} {g : Str → Option α} {l : Str} {r : List Str} {k : Int} : rdL g (l :: r) k = (match g l with
    | none => .error k
    | some a => match rdL g r (k + 1) with
      | .ok as => .ok (a :: as)
      | .error n => .error n) := rfl
theorem rdF_ls {φ : List D → R RV} {g : Str → Option Sc} : ∀ {ls : List Str} {k : Int}, (∀ l ∈ ls, φ [.str l] = .ok (dv (scO (g l)))) → rdF φ (ls.map D.str) k = .ok (match rdL g ls k with
    | .ok ss => .ok (ss.map encSc)
    | .error n => .error n)
  | [], k, _ => rfl
  | l :: r, k, h => by
    have t : tellB φ (.str l) = .ok (scO (g l)) := by
      unfold tellB
      rw [h l List.mem_cons_self]
    rw [List.map_cons, rdL_cs]
    unfold rdF
    rw [t, R.bind_ok, isNon_scO]
    cases g l with
    | none => rfl
    | some a =>
      rw [rdF_ls (k := k + 1) fun x m => h x (List.mem_cons_of_mem _ m)]
      cases rdL g r (k + 1) <;> rfl
theorem sp_parse0 {T : Int} : m_parse_play [.str "", .int T] = .ok (ov (.lst [])) := by
  unfold m_parse_play runF b_parse_play
  walk_at "ciw_all #9"
theorem sp_parse {text : Str} {T : Nat} (h0 : text ≠ "") (h1 : text.length ≤ 1000000) (hT : T ≤ 1000) (h2 : ∀ l ∈ Txt.split text "\n", l.length ≤ 100000) (h3 : (Txt.split text "\n").length ≤ 10000) : m_parse_play [.str text, .int (T : Nat)] = resL (rdL (rdLn T) (Txt.split text "\n") 1) := by
  have hs := tm_split (a := text) (b := "\n") ⟨by rw [len_nl]; rfl, by rw [sizeLine_eq]; omega⟩
  generalize Txt.split text "\n" = ls at *
  have A : ev (.mcons false (.tm .split (.var 0) (.c (.str "\n"))) (.mcons false (.c (.int 1)) .mnil)) [some (.d (.str text)), some (.d (.int (T : Nat)))] = .ok [.lst (ls.map D.str), .int 1] := by
    walk_at "ciw_all #9"
  have ph : ∀ l ∈ ls, lamF 2 [false] el_parse_play_1 [.int (T : Nat)] [.str l] = .ok (dv (scO (rdLn T l))) := fun l m => by
    have e := sp_rscan (h2 l m) hT
    show ev el_parse_play_1 [some (.d (.str l)), some (.d (.int (T : Nat)))] = _
    unfold el_parse_play_1
    walk_at "ciw_all #9"
  have C : lamG_f own_m_read_lines (lamF 2 [false] el_parse_play_1) (.mcons false (.tm .split (.var 0) (.c (.str "\n"))) (.mcons false (.c (.int 1)) .mnil)) [1] [some (.d (.str text)), some (.d (.int (T : Nat)))] = resL (rdL (rdLn T) ls 1) := by
    unfold lamG_f
    rw [A]
    show own_m_read_lines (lamF 2 [false] el_parse_play_1 [.int (T : Nat)]) [.lst (ls.map D.str), .int 1] = _
    rw [own_rl (by rw [List.length_map]; exact h3), rdF_ls ph]
    cases rdL (rdLn T) ls 1 <;> rfl
  have d : decide (text = "") = false := decide_eq_false h0
  unfold m_parse_play runF b_parse_play
  clear A ph hs h0
  walk_at "ciw_run #9"
  rw [C]
  unfold resL
  cases rdL (rdLn T) ls 1 <;> walk_at "ciw_all #9"
end Lw
end

section
set_option Elab.async false
set_option linter.all false
set_option maxRecDepth 100000
set_option maxHeartbeats 4000000
namespace Lw
open PySem PySem.Spec PyProof.Rows L2 Ci
open Evl (Ex ex_t ex_l sq_of st_of)
def b__law_cell : P .s :=
  (.sq (.ifS (.tst (.bin .lt (.var 1) (.cb .len (.rcons (.var 0) .rnil)))) (.ret (.cb .abs (.rcons (.cb .int (.rcons (.bin .ix (.var 0) (.var 1)) .rnil)) .rnil))) .skip)
  (.ret (.c (.int 0))))
def m__law_cell : List D → R RV := runF 2 [false, false] b__law_cell
--spec law_cell
/-- what a script holds at a place -/
def cell (ns : List Int) (k : Int) : Int := match ns[k.toNat]? with
  | some x => if x < 0 then -x else x
  | none => 0
theorem cell_nn (ns : List Int) (k : Int) : 0 ≤ cell ns k := by
  unfold cell
  split
  · split <;> omega
  · omega
theorem law_cell {ns : List Int} {k : Int} (h : 0 ≤ k) : m__law_cell [.scr ns, .int k] = .ok (dv (.int (cell ns k))) := by
  unfold m__law_cell runF b__law_cell
  unfold cell
  by_cases c : k < (ns.length : Int)
  · have e := at0_some h c
    walk_at "ciw_run #2"
    rw [if_pos (decide_eq_true c), e]
  · have e : ns[k.toNat]? = none := List.getElem?_eq_none (by omega)
    rw [e]
    walk_at "ciw_run #2"
    rw [if_neg (by simpa using c)]
end Lw
end

section
set_option Elab.async false
set_option linter.all false
set_option maxRecDepth 100000
set_option maxHeartbeats 4000000
namespace Lw
open PySem PySem.Spec PyProof.Rows L2 Ci
open Evl (Ex ex_t ex_l sq_of st_of)
def l__law_draws_1 : P .s :=
  (.ifS (.andT (.tst (.bin .ge (.var 0) (.bin .pow (.c (.int 10)) (.c (.int 18))))) (.tst (.bin .gt (.var 3) (.c (.int 0))))) (.sq (.mut .append (.pvar 2) (.acons (.bin .mod (.cb .int (.rcons (.var 3) .rnil)) (.c (.int 4096))) .anil))
  (.asgG (.gname 3) (.bin .div (.var 3) (.c (.int 4096))))) (.sq (.asgG (.gname 5) (.bin .mod (.cb .int (.rcons (.bin .add (.bin .mul (.var 0) (.c (.int 48271))) (.bin .mul (.bin .add (.var 4) (.c (.int 1))) (.c (.int 69621)))) .rnil)) (.c (.int 2147483647))))
  (.sq (.asgG (.gname 5) (.bin .mod (.cb .int (.rcons (.bin .add (.bin .add (.bin .mul (.var 5) (.var 5)) (.bin .mul (.var 5) (.c (.int 16807)))) (.bin .mul (.var 4) (.c (.int 7919)))) .rnil)) (.c (.int 2147483629))))
  (.sq (.asgG (.gname 5) (.bin .mod (.cb .int (.rcons (.bin .add (.bin .add (.bin .mul (.var 5) (.var 5)) (.var 0)) (.bin .mul (.c (.int 13)) (.var 4))) .rnil)) (.c (.int 2147483587))))
  (.mut .append (.pvar 2) (.acons (.bin .mod (.bin .div (.var 5) (.c (.int 7))) (.c (.int 4096))) .anil))))))
def b__law_draws : P .s :=
  (.sq (.asgN 2 (.lst .anil))
  (.sq (.asgG (.gname 3) (.var 0))
  (.sq (.for (.rng1 (.acons (.var 1) .anil)) (.gname 4) l__law_draws_1 [4, 5])
  (.retO 2))))
def m__law_draws : List D → R RV := runF 6 [false, false] b__law_draws
--spec law_draws
def drStep (c : Int) (s : List Int × Int) (k : Nat) : List Int × Int :=
  if 1000000000000000000 ≤ c ∧ 0 < s.2 then (s.1 ++ [s.2 % 4096], s.2 / 4096)
  else (s.1 ++ [((((c * 48271 + ((k : Int) + 1) * 69621) % 2147483647 * ((c * 48271 + ((k : Int) + 1) * 69621) % 2147483647) + (c * 48271 + ((k : Int) + 1) * 69621) % 2147483647 * 16807 + (k : Int) * 7919) % 2147483629 * (((c * 48271 + ((k : Int) + 1) * 69621) % 2147483647 * ((c * 48271 + ((k : Int) + 1) * 69621) % 2147483647) + (c * 48271 + ((k : Int) + 1) * 69621) % 2147483647 * 16807 + (k : Int) * 7919) % 2147483629) + c + 13 * (k : Int)) % 2147483587) / 7 % 4096], s.2)
def drN (c : Int) : Nat → List Int × Int
  | 0 => ([], c)
  | k + 1 => drStep c (drN c k) k
/-- the draws from a cell -/
def draws (c : Int) (n : Nat) : List Int := (drN c n).1
theorem drN_inv (c : Int) : ∀ k : Nat, (∀ x ∈ (drN c k).1, 0 ≤ x ∧ x < 4096) ∧ (drN c k).1.length = k
  | 0 => ⟨fun x m => (nomatch m), rfl⟩
  | k + 1 => by
    obtain ⟨h1, h2⟩ := drN_inv c k
    show (∀ x ∈ (drStep c (drN c k) k).1, _) ∧ (drStep c (drN c k) k).1.length = _
    unfold drStep
    split
    all_goals
      refine ⟨fun x m => ?_, by simp [h2]⟩
      rcases List.mem_append.mp m with m | m
      · exact h1 x m
      · rw [List.mem_singleton.mp m]
        omega
theorem draws_bd {c : Int} {n : Nat} : ∀ x ∈ draws c n, 0 ≤ x ∧ x < 4096 := (drN_inv c n).1
theorem draws_len {c : Int} {n : Nat} : (draws c n).length = n := (drN_inv c n).2
theorem draws_turn {c n left : Int} {rows : List Int} {k : Nat} (h0 : 0 ≤ c) (hk : k ≤ 100000) (hl : rows.length ≤ 100000) :
    wipeR [4, 5] (forS (.gname 4) l__law_draws_1 (.int (0 + (k : Int))) [some (.d (.int c)), some (.d (.int n)), some (.fv (.lst (rows.map D.int))), some (.d (.int left)), none, none]) =
      .nx [some (.d (.int c)), some (.d (.int n)), some (.fv (.lst ((drStep c (rows, left) k).1.map D.int))), some (.d (.int (drStep c (rows, left) k).2)), none, none] := by
  unfold l__law_draws_1 drStep
  walk_at "ciw_run #2"
  by_cases h : 1000000000000000000 ≤ c ∧ 0 < left
  · simp only [h.1, h.2, and_self, decide_true, Bool.and_true, if_true, bool_if_true]
  · rw [if_neg h, if_neg (by simpa using h)]
theorem law_draws {c n : Int} (h0 : 0 ≤ c) (h1 : 0 ≤ n) (h2 : n ≤ 100000) : m__law_draws [.int c, .int n] = .ok (ov (.lst ((draws c n.toNat).map D.int))) := by
  have L := for_rng (step := forS (.gname 4) l__law_draws_1) (kill := [4, 5]) (lo := 0) (n := n.toNat) (fun k => [some (.d (.int c)), some (.d (.int n)), some (.fv (.lst ((drN c k).1.map D.int))), some (.d (.int (drN c k).2)), none, none]) fun k hk =>
    draws_turn h0 (by omega) (by rw [(drN_inv c k).2]; omega)
  have L : forF (forS (.gname 4) l__law_draws_1) [4, 5] (rng 0 n.toNat) [some (.d (.int c)), some (.d (.int n)), some (.fv (.lst [])), some (.d (.int c)), none, none] = _ := L
  unfold m__law_draws runF b__law_draws
  walk_at "ciw_run #2"
  rw [L]
  walk_at "ciw_run #2"
  rfl
end Lw
end

section
set_option Elab.async false
set_option linter.all false
set_option maxRecDepth 100000
set_option maxHeartbeats 4000000
namespace Lw
open PySem PySem.Spec PyProof.Rows L2 Ci
open Evl (Ex ex_t ex_l sq_of st_of)
def e__law_like_1 (self_ : List D → R RV) : P .e :=
  (.call [false, false] self_ (.mcons false (.bin .ix (.var 0) (.var 2)) (.mcons false (.bin .ix (.var 1) (.var 2)) .mnil)))
def b__law_like (self_ : List D → R RV) : P .s :=
  (.sq (.ifS (.tst (.bin .is (.var 1) (.c .non))) (.ret (.bin .is (.var 0) (.c .non))) .skip)
  (.sq (.ifS (.tru (.isi (.var 1) "bool")) (.ret (.andV (.isi (.var 0) "bool") (.bin .eq (.var 0) (.var 1)))) .skip)
  (.sq (.ifS (.tru (.isi (.var 1) "str")) (.ret (.andV (.isi (.var 0) "str") (.bin .eq (.var 0) (.var 1)))) .skip)
  (.sq (.ifS (.tru (.isi (.var 1) "int")) (.ret (.andV (.isi (.var 0) "int") (.andV (.notV (.isi (.var 0) "bool")) (.bin .eq (.var 0) (.var 1))))) .skip)
  (.sq (.ifS (.orT (.tst (.bin .ne (.isi (.var 1) "list") (.isi (.var 0) "list"))) (.tst (.bin .ne (.isi (.var 1) "tuple") (.isi (.var 0) "tuple")))) (.ret (.c (.bl false))) .skip)
  (.sq (.ifS (.tst (.bin .ne (.cb .len (.rcons (.var 0) .rnil)) (.cb .len (.rcons (.var 1) .rnil)))) (.ret (.c (.bl false))) .skip)
  (.ret (.cb .all (.rcons (.lc (.rng1 (.acons (.cb .len (.rcons (.var 1) .rnil)) .anil)) (.gname 2) .yes (e__law_like_1 self_) [2]) .rnil)))))))))
def n__law_like : Nat → List D → R RV
  | 0 => fun _ => .bad
  | n + 1 => runF 3 [false, false] (b__law_like (n__law_like n))
def m__law_like : List D → R RV := n__law_like 12
--spec law_like law_like_int law_like_bl law_like_non law_like_ints law_like_intl
/-- data that is like itself, so deep -/
def liked : Nat → D → Bool
  | 0, _ => false
  | _ + 1, .non => true
  | _ + 1, .bl _ => true
  | _ + 1, .int _ => true
  | _ + 1, .str _ => true
  | n + 1, .tup ds => decide (ds.length ≤ 1000000) && ds.all (liked n)
  | n + 1, .lst ds => decide (ds.length ≤ 1000000) && ds.all (liked n)
  | _, _ => false
theorem like_elems {f : List D → R RV} {ds : List D} {ix : List D → D} (hz : ds.length ≤ 1000000) (h : ∀ d ∈ ds, f [d, d] = .ok (dv (.bl true))) (hix : ∀ (k : Nat) (d : D), ds[k]? = some d → B2.fn .ix (ix ds) (.int (k : Int)) = .ok (dv d)) :
    lcF (lcS (.gname 2) .yes (e__law_like_1 f) [some (.d (ix ds)), some (.d (ix ds)), none]) (rng 0 ds.length) = .ok ((List.replicate ds.length true).map D.bl) := by
  rw [lc_rng (f := fun _ => D.bl true)]
  · congr 1
    rw [List.map_replicate]
    generalize ds.length = n
    induction n with
    | zero => rfl
    | succ n ih => rw [List.range_succ, List.map_append, ih, List.replicate_succ']; rfl
  · intro k hk
    have e := List.getElem?_eq_getElem hk
    unfold lcS e__law_like_1
    walk_at "ciw_go"
    simp only [hix k _ e]
    walk_at "ciw_go"
    rw [h _ (List.mem_of_getElem? e)]
    walk_at "ciw_go"
theorem all_rep (n : Nat) : (List.replicate n true).all id = true := by simp
theorem law_like_n : ∀ {n : Nat} {d : D}, liked n d = true → n__law_like n [d, d] = .ok (dv (.bl true))
  | 0, d, h => by cases h
  | n + 1, d, h => by
    unfold n__law_like runF b__law_like
    cases d with
    | non =>
      walk_at "ciw_run #2"
    | bl b =>
      walk_at "ciw_run #2"
    | int b =>
      walk_at "ciw_run #2"
    | str b =>
      walk_at "ciw_run #2"
    | tup ds =>
      unfold liked at h
      rw [Bool.and_eq_true, decide_eq_true_eq, List.all_eq_true] at h
      have L := like_elems (ix := D.tup) h.1 (fun d m => law_like_n (h.2 d m)) (fun k d e => o_ixT (by rw [at_nat (List.getElem?_eq_some_iff.mp e).1]; exact e))
      have hz := h.1
      walk_at "ciw_run #2"
      rw [L]
      walk_at "ciw_run #2"
      rw [all_rep]
    | lst ds =>
      unfold liked at h
      rw [Bool.and_eq_true, decide_eq_true_eq, List.all_eq_true] at h
      have L := like_elems (ix := D.lst) h.1 (fun d m => law_like_n (h.2 d m)) (fun k d e => o_ixL (by rw [at_nat (List.getElem?_eq_some_iff.mp e).1]; exact e))
      have hz := h.1
      walk_at "ciw_run #2"
      rw [L]
      walk_at "ciw_run #2"
      rw [all_rep]
    | _ => cases h
theorem law_like {d : D} (h : liked 12 d = true) : m__law_like [d, d] = .ok (dv (.bl true)) := law_like_n h
theorem law_like_int {m n : Int} : m__law_like [.int m, .int n] = .ok (dv (.bl (decide (m = n)))) := by
  show n__law_like (11 + 1) _ = _
  unfold n__law_like runF b__law_like
  walk_at "ciw_run #2"
theorem law_like_bl {m n : Bool} : m__law_like [.bl m, .bl n] = .ok (dv (.bl (m == n))) := by
  show n__law_like (11 + 1) _ = _
  unfold n__law_like runF b__law_like
  walk_at "ciw_run #2"
theorem law_like_non : m__law_like [.non, .non] = .ok (dv (.bl true)) := law_like rfl
theorem liked_map {α : Type} {n : Nat} {f : α → D} {xs : List α} (hz : xs.length ≤ 1000000) (h : ∀ x ∈ xs, liked n (f x) = true) : liked (n + 1) (.lst (xs.map f)) = true := by
  unfold liked
  rw [Bool.and_eq_true, decide_eq_true_eq, List.length_map, List.all_map, List.all_eq_true]
  exact ⟨hz, h⟩
theorem liked_mapT {α : Type} {n : Nat} {f : α → D} {xs : List α} (hz : xs.length ≤ 1000000) (h : ∀ x ∈ xs, liked n (f x) = true) : liked (n + 1) (.tup (xs.map f)) = true := by
  unfold liked
  rw [Bool.and_eq_true, decide_eq_true_eq, List.length_map, List.all_map, List.all_eq_true]
  exact ⟨hz, h⟩
theorem law_like_ints {xs : List Int} (hz : xs.length ≤ 1000000) : m__law_like [.lst (xs.map D.int), .lst (xs.map D.int)] = .ok (dv (.bl true)) := law_like (liked_map hz fun _ _ => rfl)
theorem law_like_intl {s : Sg} : m__law_like [encS s, encS s] = .ok (dv (.bl true)) := law_like (by
  show liked (11 + 1) (.tup _) = true
  unfold liked
  rfl)
end Lw
end

section
set_option Elab.async false
set_option linter.all false
set_option maxRecDepth 100000
set_option maxHeartbeats 4000000
namespace Lw
open PySem PySem.Spec PyProof.Rows L2 Ci
open Evl (Ex ex_t ex_l sq_of st_of)
def b__law_told : P .s :=
  (.tryA 0 2 [0, 6] (.ret (.call [false, false] m_parse_play (.mcons false (.var 0) (.mcons false (.var 1) .mnil)))) (.hif 6 [(0, false), (6, true)] (.hret (.xf 6 "line")) (.hret (.xe (.neg (.c (.int 1)))))))
def m__law_told : List D → R RV := runF 3 [false, false] b__law_told
--spec sp_told0 sp_told
def toldR (q : Except Int (List Sc)) : R RV := match q with
  | .ok ss => .ok (ov (.lst (ss.map encSc)))
  | .error n => .ok (dv (.int n))
theorem sp_told0 {T : Int} : m__law_told [.str "", .int T] = .ok (ov (.lst [])) := by
  unfold m__law_told runF b__law_told
  walk_at "ciw_all #10"
theorem sp_told {text : Str} {T : Nat} (h0 : text ≠ "") (h1 : text.length ≤ 1000000) (hT : T ≤ 1000) (h2 : ∀ l ∈ Txt.split text "\n", l.length ≤ 100000) (h3 : (Txt.split text "\n").length ≤ 10000) : m__law_told [.str text, .int (T : Nat)] = toldR (rdL (rdLn T) (Txt.split text "\n") 1) := by
  have p := sp_parse h0 h1 hT h2 h3
  clear h2 h3
  generalize rdL (rdLn T) (Txt.split text "\n") 1 = q at *
  unfold m__law_told runF b__law_told
  cases q with
  | ok ss =>
    replace p : _ = R.ok (ov (.lst (ss.map encSc))) := p
    show _ = R.ok (ov (.lst (ss.map encSc)))
    walk_at "ciw_all #10"
  | error n =>
    replace p : _ = R.err 6 (some ("line", .int n)) := p
    show _ = R.ok (dv (.int n))
    walk_at "ciw_all #10"
    rfl
end Lw
end

section
set_option Elab.async false
set_option linter.all false
set_option maxRecDepth 100000
set_option maxHeartbeats 4000000
namespace Lw
open PySem PySem.Spec PyProof.Rows L2 Ci
open Evl (Ex ex_t ex_l sq_of st_of)
def e_law_1 : P .e :=
  (.bin .mod (.bin .div (.var 7) (.bin .shl (.c (.int 8)) (.var 10))) (.c (.int 2)))
def l_law_1 : P .s :=
  (.ifS (.tst (.bin .eq (.bin .ix (.var 8) (.var 10)) (.c (.int 1)))) (.mut .append (.pvar 11) (.acons (.bin .ix (.lst (.acons (.c (.str "go")) (.acons (.c (.str "stop")) (.acons (.c (.str "open")) .anil)))) (.var 10)) .anil)) .skip)
def t_law_1 : P .t :=
  (.tst (.bin .eq (.bin .ix (.var 9) (.var 10)) (.c (.int 1))))
def e_law_2 : P .e :=
  (.cb .str (.rcons (.var 10) .rnil))
def l_law_2 : P .s :=
  (.sq (.asgG (.gname 7) (.bin .ix (.var 1) (.var 6)))
  (.sq (.asgG (.gname 8) (.tup (.acons (.bin .mod (.var 7) (.c (.int 2))) (.acons (.bin .mod (.bin .div (.var 7) (.c (.int 2))) (.c (.int 2))) (.acons (.bin .mod (.bin .div (.var 7) (.c (.int 4))) (.c (.int 2))) .anil)))))
  (.sq (.asgG (.gname 9) (.cb .tuple (.rcons (.lc (.rng1 (.acons (.var 3) .anil)) (.gname 10) .yes e_law_1 [10]) .rnil)))
  (.sq (.asgN 11 (.lst .anil))
  (.sq (.for (.rng1 (.acons (.c (.int 3)) .anil)) (.gname 10) l_law_1 [10])
  (.sq (.ifS (.tst (.bin .in (.c (.int 1)) (.var 9))) (.asgN 11 (.bin .add (.bin .add (.var 11) (.lst (.acons (.c (.str "late")) .anil))) (.lc (.rng1 (.acons (.var 3) .anil)) (.gname 10) t_law_1 e_law_2 [10]))) .skip)
  (.sq (.asgG (.gname 12) (.c .non))
  (.sq (.ifS (.tst (.bin .eq (.bin .mod (.bin .ix (.var 1) (.bin .add (.c (.int 10)) (.var 6))) (.c (.int 3))) (.c (.int 0)))) (.sq (.asgG (.gname 13) (.bin .ix (.lst (.acons (.c (.str "sensor")) (.acons (.c (.str "present")) (.acons (.c (.str "brake")) .anil)))) (.bin .mod (.bin .div (.bin .ix (.var 1) (.bin .add (.c (.int 10)) (.var 6))) (.c (.int 3))) (.c (.int 3)))))
  (.sq (.asgG (.gname 14) (.bin .mul (.bin .mod (.bin .div (.bin .ix (.var 1) (.bin .add (.c (.int 10)) (.var 6))) (.c (.int 9))) (.c (.int 20))) (.cb .int (.rcons (.bin .ne (.var 13) (.c (.str "present"))) .rnil))))
  (.sq (.asgG (.gname 12) (.tup (.acons (.tup (.acons (.var 13) (.acons (.var 14) (.acons (.bin .mod (.bin .ix (.var 1) (.bin .add (.c (.int 20)) (.var 6))) (.c (.int 3))) .anil)))) (.acons (.bin .mod (.bin .div (.bin .ix (.var 1) (.bin .add (.c (.int 20)) (.var 6))) (.c (.int 3))) (.c (.int 2))) .anil))))
  (.asgN 11 (.bin .add (.var 11) (.lst (.acons (.c (.str "fault")) (.acons (.var 13) (.acons (.cb .str (.rcons (.var 14) .rnil)) (.acons (.cb .str (.rcons (.bin .ix (.bin .ix (.var 12) (.c (.int 0))) (.c (.int 2))) .rnil)) (.acons (.cb .str (.rcons (.bin .ix (.var 12) (.c (.int 1))) .rnil)) .anil))))))))))) .skip)
  (.sq (.mut .append (.pvar 4) (.acons (.tup (.acons (.var 8) (.acons (.var 9) (.acons (.var 12) .anil)))) .anil))
  (.mut .append (.pvar 5) (.acons (.bin .ix (.lst (.acons (.tm .join (.c (.str " ")) (.var 11)) (.acons (.c (.str "-")) .anil))) (.cb .int (.rcons (.bin .eq (.cb .len (.rcons (.var 11) .rnil)) (.c (.int 0))) .rnil))) .anil)))))))))))
def c_law_1 : P .s :=
  (.sq (.asgG (.gname 17) (.bin .mod (.bin .ix (.var 2) (.c (.int 2))) (.bin .add (.cb .len (.rcons (.var 5) .rnil)) (.c (.int 1)))))
  (.sq (.asgG (.gname 18) (.call [false, false] m__law_told (.mcons false (.tm .join (.c (.str "\n")) (.bin .add (.bin .add (.bin .add (.sl (.var 5) .noP (.someP (.var 17))) (.lst (.acons (.bin .ix (.var 16) (.bin .mod (.bin .ix (.var 2) (.c (.int 3))) (.cb .len (.rcons (.var 16) .rnil)))) .anil))) (.sl (.var 5) (.someP (.var 17)) .noP)) (.lst (.acons (.c (.str "?")) .anil)))) (.mcons false (.var 3) .mnil))))
  (.sq (.ifS (.orT (.tru (.isi (.var 18) "list")) (.tst (.bin .ne (.var 18) (.bin .add (.var 17) (.c (.int 1)))))) (.ret (.c (.bl false))) .skip)
  (.sq (.asgG (.gname 18) (.call [false, false] m__law_told (.mcons false (.bin .add (.var 15) (.c (.str "\n"))) (.mcons false (.var 3) .mnil))))
  (.ret (.orV (.bin .eq (.cb .len (.rcons (.var 5) .rnil)) (.c (.int 0))) (.bin .eq (.var 18) (.bin .add (.cb .len (.rcons (.var 5) .rnil)) (.c (.int 1))))))))))
def c_law_2 : P .s :=
  (.sq (.asgN 16 (.lst (.acons (.c (.str "stop go")) (.acons (.c (.str "go go")) (.acons (.c (.str "late")) (.acons (.bin .add (.c (.str "late ")) (.cb .str (.rcons (.var 3) .rnil))) (.acons (.c (.str "late 0 0")) (.acons (.c (.str "late 00")) (.acons (.c (.str "late x")) (.acons (.c (.str "go late")) (.acons (.c (.str "fault")) (.acons (.c (.str "fault sensor 0 0")) (.acons (.c (.str "fault sensor 0 0 2")) .anil)))))))))))))
  (.sq (.asgN 16 (.bin .add (.var 16) (.lst (.acons (.c (.str "fault present 1 0 1")) (.acons (.c (.str "fault wheel 0 0 1")) (.acons (.c (.str "fault brake 0 0 1 1")) (.acons (.c (.str "fault brake 0 0 1 go")) (.acons (.c (.str "- go")) (.acons (.c (.str "go -")) (.acons (.c (.str "--")) (.acons (.c (.str "open stop")) (.acons (.c (.str "Go")) (.acons (.c (.str "go  stop")) (.acons (.c (.str " go")) .anil))))))))))))))
  (.sq (.asgN 16 (.bin .add (.var 16) (.lst (.acons (.c (.str "late 0 go")) (.acons (.c (.str "fault sensor 01 0 1")) (.acons (.c (.str "go ")) (.acons (.c (.str "late 0  fault brake 0 0 1")) .anil)))))))
  (.sq (.ifS (.tst (.bin .gt (.var 3) (.c (.int 1)))) (.mut .append (.pvar 16) (.acons (.c (.str "late 1 0")) .anil)) .skip)
  c_law_1))))
def c_law_3 : P .s :=
  (.sq (.ifS (.orT (.notT (.tru (.call [false, false] m__law_like (.mcons false (.call [false] m_format_play (.mcons false (.cb .list (.rcons (.var 4) .rnil)) .mnil)) (.mcons false (.var 15) .mnil))))) (.notT (.tru (.call [false, false] m__law_like (.mcons false (.call [false, false] m__law_told (.mcons false (.var 15) (.mcons false (.var 3) .mnil))) (.mcons false (.var 4) .mnil)))))) (.ret (.c (.bl false))) .skip)
  (.sq (.ifS (.notT (.tru (.call [false, false] m__law_like (.mcons false (.call [false, false] m__law_told (.mcons false (.c (.str "")) (.mcons false (.var 3) .mnil))) (.mcons false (.lst .anil) .mnil))))) (.ret (.c (.bl false))) .skip)
  c_law_2))
def b_law : P .s :=
  (.sq (.asgG (.gname 1) (.call [false, false] m__law_draws (.mcons false (.call [false, false] m__law_cell (.mcons false (.var 0) (.mcons false (.c (.int 0)) .mnil))) (.mcons false (.c (.int 30)) .mnil))))
  (.sq (.asgG (.gname 2) (.call [false, false] m__law_draws (.mcons false (.call [false, false] m__law_cell (.mcons false (.var 0) (.mcons false (.c (.int 1)) .mnil))) (.mcons false (.c (.int 20)) .mnil))))
  (.sq (.asgG (.gname 3) (.bin .add (.c (.int 1)) (.bin .mod (.bin .ix (.var 2) (.c (.int 0))) (.c (.int 4)))))
  (.sq (.asgN 4 (.lst .anil))
  (.sq (.asgN 5 (.lst .anil))
  (.sq (.for (.rng1 (.acons (.bin .mod (.bin .ix (.var 2) (.c (.int 1))) (.c (.int 9))) .anil)) (.gname 6) l_law_2 [6, 7, 8, 9, 10, 11, 12, 13, 14])
  (.sq (.asgG (.gname 15) (.tm .join (.c (.str "\n")) (.var 5)))
  (.sq (.frz 4)
  c_law_3))))))))
def m_law : List D → R RV := runF 19 [false] b_law
theorem in_intT {x : Int} {xs : List Int} : B2.fn .in (.int x) (.tup (xs.map D.int)) = .ok (dv (.bl (decide (x ∈ xs)))) := by
  have hp : ∀ l : List Int, pures (l.map D.int) = true ∧ depL (l.map D.int) ≤ 1 := fun l => by
    induction l with
    | nil => exact ⟨rfl, Nat.zero_le _⟩
    | cons a r ih => exact ⟨(by show (true && pures (r.map D.int)) = true; rw [ih.1]; rfl), Nat.max_le.mpr ⟨Nat.le_of_ble_eq_true rfl, ih.2⟩⟩
  have e : ∀ l : List Int, (l.map D.int).any (fun z => eqv z (.int x)) = decide (x ∈ l) := fun l => by
    induction l with
    | nil => rfl
    | cons a r ih =>
      show (eqv (.int a) (.int x) || (r.map D.int).any _) = _
      rw [ih, show eqv (.int a) (.int x) = decide (a = x) from rfl, ← Bool.decide_or, decide_eq_decide, List.mem_cons]
      constructor <;> (rintro (h | h); exact .inl h.symm; exact .inr h)
  have k : eqOk (.tup (xs.map D.int)) = true := by
    have := (hp xs).2
    show (pures (xs.map D.int) && decide (depL (xs.map D.int) + 1 ≤ 60)) = true
    rw [(hp xs).1, decide_eq_true (by omega)]
    rfl
  show (inTup (.int x) (xs.map D.int)).bind _ = _
  unfold inTup
  rw [show (eqOk (.int x) && eqOk (.tup (xs.map D.int))) = true by rw [k]; rfl, e]
  rfl
theorem tr_rng {step : D → R (Option D)} : ∀ {pre suf : List Int}, (∀ j : Nat, j < (pre ++ suf).length → step (.int (j : Int)) = .ok (if at0 (pre ++ suf) (j : Int) = 1 then some (.str (strI (j : Int))) else none)) →
    lcF step ((List.range' pre.length suf.length).map fun (j : Nat) => D.int (j : Int)) = .ok ((trW (pre.length : Int) suf).map D.str)
  | pre, [], _ => rfl
  | pre, x :: r, h => by
    have hx := h pre.length (by rw [List.length_append, List.length_cons]; omega)
    have ex : at0 (pre ++ x :: r) ((pre.length : Nat) : Int) = x := by
      rw [at0_get (by rw [List.length_append, List.length_cons]; omega)]
      simp
    have e : pre ++ x :: r = (pre ++ [x]) ++ r := by simp
    have ih := tr_rng (step := step) (pre := pre ++ [x]) (suf := r) (by rw [← e]; exact h)
    rw [List.length_append, List.length_singleton] at ih
    rw [List.length_cons, List.range'_succ, List.map_cons, trW_cons]
    show (step (.int ((pre.length : Nat) : Int))).bind _ = _
    rw [hx, ex, ih, show ((pre.length : Int) + 1) = ((pre.length + 1 : Nat) : Int) by omega]
    split <;> rfl
theorem tr_rng0 {step : D → R (Option D)} {xs : List Int} (h : ∀ j : Nat, j < xs.length → step (.int (j : Int)) = .ok (if at0 xs (j : Int) = 1 then some (.str (strI (j : Int))) else none)) : lcF step (rng 0 xs.length) = .ok ((trW 0 xs).map D.str) := by
  have t := tr_rng (step := step) (pre := []) (suf := xs) h
  have e : rng 0 xs.length = (List.range' 0 xs.length).map fun (j : Nat) => D.int (j : Int) := by
    unfold rng
    rw [List.range_eq_range']
    exact List.map_congr_left fun j _ => by rw [Int.zero_add]
  rw [e]
  exact t
/-! ## the drawn plays -/
def k3 : List Str := ["sensor", "present", "brake"]
def latL (T : Nat) (a : Int) : List Int := (List.range T).map fun (j : Nat) => a / (8 * 2 ^ j) % 2
def plF (ds : List Int) (k : Nat) : Option (Sg × Int) :=
  if at0 ds (10 + (k : Int)) % 3 = 0 then
    some ((at0 k3 (at0 ds (10 + (k : Int)) / 3 % 3), at0 ds (10 + (k : Int)) / 9 % 20 * (if at0 k3 (at0 ds (10 + (k : Int)) / 3 % 3) = "present" then 0 else 1), at0 ds (20 + (k : Int)) % 3), at0 ds (20 + (k : Int)) / 3 % 2)
  else none
def plC (T : Nat) (ds : List Int) (k : Nat) : Sc := ⟨[at0 ds (k : Int) % 2, at0 ds (k : Int) / 2 % 2, at0 ds (k : Int) / 4 % 2], latL T (at0 ds (k : Int)), plF ds k⟩
theorem b01 (x : Int) : x % 2 = 0 ∨ x % 2 = 1 := by omega
theorem pl_s {T : Nat} {ds : List Int} {k : Nat} : PlS T (plC T ds k) where
  bt := ⟨_, _, _, rfl, b01 _, b01 _, b01 _⟩
  ln := by show ((List.range T).map _).length = T; rw [List.length_map, List.length_range]
  ls := fun v m => by
    obtain ⟨j, _, rfl⟩ := List.mem_map.mp (show v ∈ (List.range T).map _ from m)
    exact b01 _
  ft := fun f e => by
    replace e : plF ds k = some f := e
    unfold plF at e
    split at e
    · cases e
      have m := at0_mem (xs := k3) (i := at0 ds (10 + (k : Int)) / 3 % 3) (Int.emod_nonneg _ (by decide)) (Int.emod_lt_of_pos _ (by decide))
      dsimp only
      generalize at0 k3 _ = kd at *
      refine ⟨m, ?_, by omega, by omega, fun q => by rw [if_pos q, Int.mul_zero]⟩
      split
      · rw [Int.mul_zero]; omega
      · rw [Int.mul_one]; omega
    · cases e
def shV (j : Nat) : Int := 8 * 2 ^ j
theorem sh_ok {j : Nat} (h : j < 4) : B2.fn .shl (.int 8) (.int (j : Int)) = .ok (dv (.int (shV j))) ∧ 0 < shV j ∧ shV j < 18446744073709551616 := by
  have : j = 0 ∨ j = 1 ∨ j = 2 ∨ j = 3 := by omega
  rcases this with rfl | rfl | rfl | rfl <;> exact ⟨by rfl, by decide, by decide⟩
theorem late_lc {T : Nat} {a : Int} (hT : T ≤ 4) (a0 a1 a2 a3 a4 a5 a6 a8 a9 a11 a12 a13 a14 a15 a16 a17 a18 : Option SV) :
    lcF (lcS (.gname 10) .yes e_law_1 [a0, a1, a2, a3, a4, a5, a6, some (.d (.int a)), a8, a9, none, a11, a12, a13, a14, a15, a16, a17, a18]) (rng 0 T) = .ok ((latL T a).map D.int) := by
  unfold latL
  rw [List.map_map]
  refine lc_rng 0 T _ fun j hj => ?_
  rw [Int.zero_add]
  obtain ⟨s1, s2, s3⟩ := sh_ok (j := j) (by omega)
  show _ = R.ok (some (D.int (a / shV j % 2)))
  have q := q_div (m := a) s2 s3
  unfold lcS e_law_1
  generalize shV j = s at *
  walk_at "ciw_all #11"
theorem trn_lc {xs : List Int} (hl : xs.length ≤ 100) (a0 a1 a2 a3 a4 a5 a6 a7 a8 a11 a12 a13 a14 a15 a16 a17 a18 : Option SV) :
    lcF (lcS (.gname 10) t_law_1 e_law_2 [a0, a1, a2, a3, a4, a5, a6, a7, a8, some (.d (.tup (xs.map D.int))), none, a11, a12, a13, a14, a15, a16, a17, a18]) (rng 0 xs.length) = .ok ((trW 0 xs).map D.str) :=
  tr_rng0 fun j hj => by
    have q := q_ixT (f := D.int) (xs := xs) (i := (j : Int)) (by omega) (by omega)
    have s := o_str (n := (j : Int)) ⟨by omega, by omega⟩
    unfold lcS t_law_1 e_law_2
    generalize at0 xs (j : Int) = x at *
    by_cases c : x = 1
    · have d := decide_eq_true c
      rw [if_pos c]
      clear c
      walk_at "ciw_all #11"
    · have d := decide_eq_false c
      rw [if_neg c]
      clear c
      walk_at "ciw_all #11"
theorem btn_loop {x y z : Int} (hx : x = 0 ∨ x = 1) (hy : y = 0 ∨ y = 1) (hz : z = 0 ∨ z = 1) (a0 a1 a2 a3 a4 a5 a6 a7 a9 a12 a13 a14 a15 a16 a17 a18 : Option SV) :
    forF (forS (.gname 10) l_law_1) [10] (rng 0 3) [a0, a1, a2, a3, a4, a5, a6, a7, some (.d (.tup [.int x, .int y, .int z])), a9, none, some (.fv (.lst [])), a12, a13, a14, a15, a16, a17, a18] =
      .nx [a0, a1, a2, a3, a4, a5, a6, a7, some (.d (.tup [.int x, .int y, .int z])), a9, none, some (.fv (.lst ((bwW ["go", "stop", "open"] [x, y, z]).map D.str))), a12, a13, a14, a15, a16, a17, a18] := by
  have e : rng 0 3 = [.int 0, .int 1, .int 2] := by rfl
  rw [e]
  rcases hx with rfl | rfl <;> rcases hy with rfl | rfl <;> rcases hz with rfl | rfl <;> (simp only [forF_turn]; unfold l_law_1; walk_at "ciw_all #11"; rfl)
theorem k3_at {i : Int} (h : i = 0 ∨ i = 1 ∨ i = 2) : B2.fn .ix (.lst [.str "sensor", .str "present", .str "brake"]) (.int i) = .ok (dv (.str (at0 k3 i))) ∧ B2.fn .ne (.str (at0 k3 i)) (.str "present") = .ok (dv (.bl (!decide (at0 k3 i = ("present" : Str))))) := by
  rcases h with rfl | rfl | rfl <;> exact ⟨by rfl, rfl⟩
theorem kb_int {b : Bool} : Cb.fn .int [.bl b] = .ok (dv (.int (if b = true then 1 else 0))) := by cases b <;> rfl
theorem trW_nil : ∀ {xs : List Int} {k : Int}, trW k xs = [] ↔ (1 : Int) ∉ xs
  | [], _ => by simp [trW]
  | x :: r, k => by
    rw [trW_cons, List.mem_cons]
    by_cases c : x = 1
    · rw [if_pos c]
      simp [c]
    · rw [if_neg c, trW_nil]
      simp [Ne.symm c, fun h : (1 : Int) = x => c h.symm]
def lineT : Nat → Str → Str
  | 0, _ => "-"
  | _ + 1, j => j
theorem line_ix {a : Str} {n : Nat} : B2.fn .ix (.lst [.str a, .str "-"]) (.int (if decide ((n : Int) = 0) = true then 1 else 0)) = .ok (dv (.str (lineT n a))) := by
  cases n with
  | zero => rfl
  | succ n =>
    rw [if_neg (by simp; omega)]
    rfl
theorem scT_len (s : Sc) : scT s = lineT (scW s).length (Txt.join " " (scW s)) := by
  unfold scT
  split
  · rename_i e; rw [e]; rfl
  · rename_i e; rw [e]; rfl
theorem pl_turn {T : Nat} {ds : List Int} {k : Nat} {ss : List Sc} {ls : List Str} (hT : T ≤ 4) (hk : k < 9) (hd : ds.length = 30) (hb : ∀ x ∈ ds, 0 ≤ x ∧ x < 4096) (hs : ss.length ≤ 10) (hl : ls.length ≤ 10) (a0 a2 a15 a16 a17 a18 : Option SV) :
    wipeR [6, 7, 8, 9, 10, 11, 12, 13, 14] (forS (.gname 6) l_law_2 (.int (0 + (k : Int))) [a0, some (.d (.lst (ds.map D.int))), a2, some (.d (.int (T : Nat))), some (.fv (.lst (ss.map encSc))), some (.fv (.lst (ls.map D.str))), none, none, none, none, none, none, none, none, none, a15, a16, a17, a18]) =
      .nx [a0, some (.d (.lst (ds.map D.int))), a2, some (.d (.int (T : Nat))), some (.fv (.lst ((ss ++ [plC T ds k]).map encSc))), some (.fv (.lst ((ls ++ [scT (plC T ds k)]).map D.str))), none, none, none, none, none, none, none, none, none, a15, a16, a17, a18] := by
  have P := pl_s (T := T) (ds := ds) (k := k)
  have W := scW_wd (P.B (by omega))
  have J := join_wd W.1 W.2
  have TX := scT_len (plC T ds k)
  rw [Int.zero_add]
  have q0 := q_ixL (f := D.int) (xs := ds) (i := (k : Int)) (by omega) (by omega)
  have q1 := q_ixL (f := D.int) (xs := ds) (i := 10 + (k : Int)) (by omega) (by omega)
  have q2 := q_ixL (f := D.int) (xs := ds) (i := 20 + (k : Int)) (by omega) (by omega)
  have p1 := hb _ (at0_mem (xs := ds) (i := 10 + (k : Int)) (by omega) (by omega))
  have p2 := hb _ (at0_mem (xs := ds) (i := 20 + (k : Int)) (by omega) (by omega))
  rw [List.map_append, List.map_append, List.map_singleton, List.map_singleton, show encSc (plC T ds k) = .tup [.tup [.int (at0 ds (k : Int) % 2), .int (at0 ds (k : Int) / 2 % 2), .int (at0 ds (k : Int) / 4 % 2)], .tup ((latL T (at0 ds (k : Int))).map D.int), encFt (plF ds k)] from rfl]
  rw [show scW (plC T ds k) = bwW ["go", "stop", "open"] [at0 ds (k : Int) % 2, at0 ds (k : Int) / 2 % 2, at0 ds (k : Int) / 4 % 2] ++ latW (latL T (at0 ds (k : Int))) ++ ftW (plF ds k) from rfl] at J TX
  generalize scT (plC T ds k) = tx at *
  subst TX
  have LC := @late_lc T (at0 ds (k : Int)) hT
  have ll : (latL T (at0 ds (k : Int))).length = T := by unfold latL; rw [List.length_map, List.length_range]
  have TC := @trn_lc (latL T (at0 ds (k : Int))) (by omega)
  rw [ll] at TC
  have BL := @btn_loop (at0 ds (k : Int) % 2) (at0 ds (k : Int) / 2 % 2) (at0 ds (k : Int) / 4 % 2) (b01 _) (b01 _) (b01 _)
  have IN := in_intT (x := 1) (xs := latL T (at0 ds (k : Int)))
  have bl : (bwW ["go", "stop", "open"] [at0 ds (k : Int) % 2, at0 ds (k : Int) / 2 % 2, at0 ds (k : Int) / 4 % 2]).length ≤ 3 := bwW_len
  have tl4 : (trW 0 (latL T (at0 ds (k : Int)))).length ≤ 4 := Nat.le_trans trW_len (by omega)
  have tn := trW_nil (xs := latL T (at0 ds (k : Int))) (k := 0)
  generalize latL T (at0 ds (k : Int)) = lt at *
  generalize bwW ["go", "stop", "open"] [at0 ds (k : Int) % 2, at0 ds (k : Int) / 2 % 2, at0 ds (k : Int) / 4 % 2] = bw at *
  generalize at0 ds (k : Int) = a at *
  clear P W hb
  rw [latW_eq] at J ⊢
  rw [← List.length_map (f := D.str) (as := bw ++ _ ++ _)]
  unfold l_law_2
  generalize ht : trW 0 lt = tw at *
  have I0 : ∀ n : Nat, Cb.fn .int [.bl (decide ((n : Int) = 0))] = _ := fun n => kb_int
  have LX : ∀ (j : Str) (n : Nat), B2.fn .ix (.lst [.str j, .str "-"]) (.int (if decide ((n : Int) = 0) = true then 1 else 0)) = _ := fun j n => line_ix (a := j) (n := n)
  have sa : ∀ l1 l2 : List D, l1.length ≤ 1000 → l2.length ≤ 1000 → B2.fn .add (.lst l1) (.lst l2) = .ok (ov (.lst (l1 ++ l2))) := fun l1 l2 h1 h2 => o_addL (by rw [sizeLine_eq]; omega)
  have bl' : (bw.map D.str).length ≤ 3 := by rw [List.length_map]; exact bl
  have tl' : (tw.map D.str).length ≤ 4 := by rw [List.length_map]; exact tl4
  by_cases c2 : at0 ds (10 + (k : Int)) % 3 = 0
  · have d2 := decide_eq_true c2
    unfold plF at J ⊢
    rw [if_pos c2] at J ⊢
    generalize at0 ds (10 + (k : Int)) = b at *
    generalize at0 ds (20 + (k : Int)) = c at *
    have K := k3_at (i := b / 3 % 3) (by omega)
    generalize at0 k3 (b / 3 % 3) = kd at *
    obtain ⟨K1, K2⟩ := K
    have K3 := kb_int (b := !decide (kd = ("present" : Str)))
    rw [show (if (!decide (kd = ("present" : Str))) = true then (1 : Int) else 0) = (if kd = ("present" : Str) then 0 else 1) by by_cases q : kd = ("present" : Str) <;> simp [q]] at K3
    have iz : (if kd = ("present" : Str) then (0 : Int) else 1) = 0 ∨ (if kd = ("present" : Str) then (0 : Int) else 1) = 1 := by split <;> simp
    generalize (if kd = ("present" : Str) then (0 : Int) else 1) = iv at *
    generalize decide (kd = ("present" : Str)) = dp at *
    have s1 := o_str (n := b / 9 % 20 * iv) (by rcases iz with rfl | rfl <;> omega)
    have s2 := o_str (n := c % 3) (by omega)
    have s3 := o_str (n := c / 3 % 2) (by omega)
    unfold ftW fwW at J ⊢
    dsimp only at J ⊢
    rw [encFt_some]
    unfold encS
    dsimp only
    generalize strI (b / 9 % 20 * iv) = t1 at *
    generalize strI (c % 3) = t2 at *
    generalize strI (c / 3 % 2) = t3 at *
    clear p1 p2 c2 iz
    by_cases c1 : (1 : Int) ∈ lt
    · rw [decide_eq_true c1] at IN
      rw [if_neg fun z => tn.mp z c1] at J ⊢
      generalize Txt.join " " (bw ++ ("late" : Str) :: tw ++ _) = jt at *
      rw [show (bw ++ ("late" : Str) :: tw ++ ([("fault" : Str), kd, t1, t2, t3] : List Str)).map D.str = bw.map D.str ++ [D.str "late"] ++ tw.map D.str ++ [D.str "fault", D.str kd, D.str t1, D.str t2, D.str t3] by simp] at J ⊢
      generalize bw.map D.str = bd at *
      generalize tw.map D.str = td at *
      have ad1 := sa bd [.str "late"] (by omega) (by decide)
      have ad2 := sa (bd ++ [.str "late"]) td (by rw [List.length_append, List.length_singleton]; omega) (by omega)
      have ad3 := sa (bd ++ [.str "late"] ++ td) [D.str "fault", D.str kd, D.str t1, D.str t2, D.str t3] (by rw [List.length_append, List.length_append, List.length_singleton]; omega) (by show 5 ≤ 1000; decide)
      generalize bd ++ [D.str "late"] = b1 at *
      generalize b1 ++ td = b2 at *
      generalize b2 ++ _ = wd at *
      clear tn c1 sa
      walk_at "ciw_all #11"
    · rw [decide_eq_false c1] at IN
      rw [if_pos (tn.mpr c1)] at J ⊢
      rw [List.append_nil] at J ⊢
      generalize Txt.join " " (bw ++ _) = jt at *
      rw [show (bw ++ ([("fault" : Str), kd, t1, t2, t3] : List Str)).map D.str = bw.map D.str ++ [D.str "fault", D.str kd, D.str t1, D.str t2, D.str t3] by simp] at J ⊢
      generalize bw.map D.str = bd at *
      have ad3 := sa bd [D.str "fault", D.str kd, D.str t1, D.str t2, D.str t3] (by omega) (by show 5 ≤ 1000; decide)
      generalize bd ++ _ = wd at *
      clear tn c1 sa
      walk_at "ciw_all #11"
  · have d2 := decide_eq_false c2
    unfold plF at J ⊢
    rw [if_neg c2] at J ⊢
    rw [encFt_none]
    show _ = SR.nx _
    unfold ftW at J ⊢
    rw [List.append_nil] at J ⊢
    generalize at0 ds (10 + (k : Int)) = b at *
    clear p1 p2 c2
    by_cases c1 : (1 : Int) ∈ lt
    · rw [decide_eq_true c1] at IN
      rw [if_neg fun z => tn.mp z c1] at J ⊢
      generalize Txt.join " " (bw ++ ("late" : Str) :: tw) = jt at *
      rw [show (bw ++ ("late" : Str) :: tw).map D.str = bw.map D.str ++ [D.str "late"] ++ tw.map D.str by simp] at J ⊢
      generalize bw.map D.str = bd at *
      generalize tw.map D.str = td at *
      have ad1 := sa bd [.str "late"] (by omega) (by decide)
      have ad2 := sa (bd ++ [.str "late"]) td (by rw [List.length_append, List.length_singleton]; omega) (by omega)
      generalize bd ++ [D.str "late"] = b1 at *
      generalize b1 ++ td = wd at *
      clear tn c1 sa
      walk_at "ciw_all #11"
    · rw [decide_eq_false c1] at IN
      rw [if_pos (tn.mpr c1)] at J ⊢
      rw [List.append_nil] at J ⊢
      generalize Txt.join " " bw = jt at *
      generalize bw.map D.str = bd at *
      clear tn c1 sa
      walk_at "ciw_all #11"
def playL (T : Nat) (ds : List Int) (m : Nat) : List Sc := (List.range m).map (plC T ds)
theorem playL_succ {T : Nat} {ds : List Int} {m : Nat} : playL T ds (m + 1) = playL T ds m ++ [plC T ds m] := by
  unfold playL
  rw [List.range_succ, List.map_append, List.map_singleton]
theorem pl_loop {T m : Nat} {ds : List Int} (hT : T ≤ 4) (hm : m ≤ 9) (hd : ds.length = 30) (hb : ∀ x ∈ ds, 0 ≤ x ∧ x < 4096) (a0 a2 a15 a16 a17 a18 : Option SV) :
    forF (forS (.gname 6) l_law_2) [6, 7, 8, 9, 10, 11, 12, 13, 14] (rng 0 m) [a0, some (.d (.lst (ds.map D.int))), a2, some (.d (.int (T : Nat))), some (.fv (.lst [])), some (.fv (.lst [])), none, none, none, none, none, none, none, none, none, a15, a16, a17, a18] =
      .nx [a0, some (.d (.lst (ds.map D.int))), a2, some (.d (.int (T : Nat))), some (.fv (.lst ((playL T ds m).map encSc))), some (.fv (.lst (((playL T ds m).map scT).map D.str))), none, none, none, none, none, none, none, none, none, a15, a16, a17, a18] :=
  for_rng (E := fun k => [a0, some (.d (.lst (ds.map D.int))), a2, some (.d (.int (T : Nat))), some (.fv (.lst ((playL T ds k).map encSc))), some (.fv (.lst (((playL T ds k).map scT).map D.str))), none, none, none, none, none, none, none, none, none, a15, a16, a17, a18]) fun k hk => by
    have l : (playL T ds k).length = k := by unfold playL; rw [List.length_map, List.length_range]
    rw [playL_succ, List.map_append (f := scT)]
    exact pl_turn hT (by omega) hd hb (by omega) (by rw [List.length_map]; omega) a0 a2 a15 a16 a17 a18
def bads (T : Nat) : List Str := [("stop go" : Str), "go go", "late", ("late " : Str) ++ strI (T : Int), "late 0 0", "late 00", "late x", "go late", "fault", "fault sensor 0 0", "fault sensor 0 0 2",
  "fault present 1 0 1", "fault wheel 0 0 1", "fault brake 0 0 1 1", "fault brake 0 0 1 go", "- go", "go -", "--", "open stop", "Go", "go  stop", " go",
  "late 0 go", "fault sensor 01 0 1", "go ", "late 0  fault brake 0 0 1"] ++ (if 1 < T then ([("late 1 0" : Str)] : List Str) else [])
theorem bads_none {T : Nat} (h1 : 1 ≤ T) (h2 : T ≤ 4) : ∀ w ∈ ("" : Str) :: bads T, rdLn T w = none ∧ w.length ≤ 100 ∧ 10 ∉ tl w := by
  have h : (("" : Str) :: bads T).all (fun w => (rdLn T w).isNone && (decide (w.length ≤ 100) && decide (10 ∉ tl w))) = true := by
    have : T = 1 ∨ T = 2 ∨ T = 3 ∨ T = 4 := by omega
    rcases this with rfl | rfl | rfl | rfl <;> decide +kernel
  intro w m
  have := List.all_eq_true.mp h w m
  simp only [Bool.and_eq_true, decide_eq_true_eq, Option.isNone_iff_eq_none] at this
  exact this
theorem rdL_map {α β : Type} {g : Str → Option α} {f : β → Str} {e : β → α} : ∀ {l : List β} {k : Int}, (∀ s ∈ l, g (f s) = some (e s)) → rdL g (l.map f) k = .ok (l.map e)
  | [], _, _ => rfl
  | s :: r, k, h => by
    rw [List.map_cons, rdL_cs, h s List.mem_cons_self, rdL_map fun x m => h x (List.mem_cons_of_mem _ m)]
    rfl
theorem rdL_bad {α : Type} {g : Str → Option α} {w : Str} {b : List Str} (hw : g w = none) : ∀ {a : List Str} {k : Int}, (∀ l ∈ a, (g l).isSome = true) → rdL g (a ++ w :: b) k = .error (k + (a.length : Nat))
  | [], k, _ => by
    rw [List.nil_append, rdL_cs, hw, List.length_nil]
    show Except.error k = Except.error (k + 0)
    rw [Int.add_zero]
  | x :: r, k, h => by
    obtain ⟨y, e⟩ := Option.isSome_iff_exists.mp (h x List.mem_cons_self)
    rw [List.cons_append, rdL_cs, e, rdL_bad hw (a := r) (k := k + 1) fun l m => h l (List.mem_cons_of_mem _ m), List.length_cons]
    show Except.error _ = Except.error _
    congr 1
    omega
theorem join_snoc : ∀ {ls : List Str}, ls ≠ [] → Txt.join "\n" (ls ++ [("" : Str)]) = Txt.join "\n" ls ++ "\n"
  | [], h => absurd rfl h
  | l :: r, _ => by
    refine ext_tl ?_
    rw [tl_app, tl_join, tl_join, tl_nl, List.map_append]
    show TL.joinL [10] (tl l :: r.map tl ++ [tl ""]) = TL.joinL [10] (tl l :: r.map tl) ++ [10]
    rw [show tl ("" : Str) = [] from rfl]
    generalize tl l = a
    generalize r.map tl = b
    induction b generalizing a with
    | nil => simp [TL.joinL]
    | cons c d ih =>
      have e := ih c
      show TL.joinL [10] (a :: c :: (d ++ [[]])) = TL.joinL [10] (a :: c :: d) ++ [10]
      simp only [TL.joinL]
      rw [List.cons_append] at e
      rw [e]
      simp
theorem text_ne {L : List Str} (h0 : L ≠ []) (h1 : ∀ l ∈ L, 10 ∉ tl l) (h : L ≠ [("" : Str)]) : Txt.join "\n" L ≠ "" := fun e => by
  have s := split_nl h0 h1
  rw [e, show Txt.split ("" : Str) "\n" = ([""] : List Str) by decide +kernel] at s
  exact h s.symm
/-- what is told of lines -/
theorem told_L {T : Nat} {L : List Str} (hT : T ≤ 4) (h0 : L ≠ []) (h1 : ∀ l ∈ L, 10 ∉ tl l) (h2 : L ≠ [("" : Str)]) (h3 : ∀ l ∈ L, l.length ≤ 1000) (h4 : L.length ≤ 500) : m__law_told [.str (Txt.join "\n" L), .int (T : Nat)] = toldR (rdL (rdLn T) L 1) := by
  have j := Nat.le_trans (join_len "\n" L) (join_lines h3 h4)
  have s := split_nl h0 h1
  have t := sp_told (T := T) (text_ne h0 h1 h2) (by omega) (by omega) (by rw [s]; exact fun l m => Nat.le_trans (h3 l m) (by decide)) (by rw [s]; omega)
  rw [t, s]
structure QOk (T : Nat) (q : List Sc) : Prop where
  h1 : 1 ≤ T
  h4 : T ≤ 4
  ln : q.length ≤ 8
  ok : ∀ s ∈ q, PlS T s
  sl : ∀ s ∈ q, (scT s).length ≤ 1000
  nl : ∀ s ∈ q, 10 ∉ tl (scT s)
theorem QOk.rd {T : Nat} {q : List Sc} (h : QOk T q) : ∀ s ∈ q, rdLn T (scT s) = some s := fun s m => rdLn_ok (h.ok s m) (by have := h.h4; omega)
theorem c1_ok {T : Nat} {q : List Sc} {em : List Int} (Q : QOk T q) (he : em.length = 20) (hb : ∀ x ∈ em, 0 ≤ x ∧ x < 4096) {a0 a1 a4 : Option SV} :
    (ev c_law_1 [a0, a1, some (.d (.lst (em.map D.int))), some (.d (.int (T : Nat))), a4, some (.fv (.lst ((q.map scT).map D.str))), none, none, none, none, none, none, none, none, none, some (.d (.str (Txt.join "\n" (q.map scT)))), some (.fv (.lst ((bads T).map D.str))), none, none]).toR = .ok (dv (.bl true)) := by
  have BN := bads_none Q.h1 Q.h4
  have hln := Q.ln
  have hT := Q.h4
  have f1 : ∀ x ∈ q.map scT, x.length ≤ 1000 ∧ 10 ∉ tl x ∧ (rdLn T x).isSome = true := fun x m => by
    obtain ⟨s, ms, rfl⟩ := List.mem_map.mp m
    exact ⟨Q.sl s ms, Q.nl s ms, by rw [Q.rd s ms]; rfl⟩
  have lq : (q.map scT).length ≤ 8 := by rw [List.length_map]; exact hln
  generalize q.map scT = ls at *
  have bl : 26 ≤ (bads T).length ∧ (bads T).length ≤ 27 := by
    unfold bads
    rw [List.length_append]
    split
    · exact ⟨(by show 26 ≤ 27; decide), (by show 27 ≤ 27; decide)⟩
    · exact ⟨(by show 26 ≤ 26; decide), (by show 26 ≤ 27; decide)⟩
  have i2 := q_ixL (f := D.int) (xs := em) (i := 2) (by decide) (by omega)
  have i3 := q_ixL (f := D.int) (xs := em) (i := 3) (by decide) (by omega)
  have b2 := hb _ (at0_mem (xs := em) (i := 2) (by decide) (by omega))
  have b3 := hb _ (at0_mem (xs := em) (i := 3) (by decide) (by omega))
  have ib := q_ixL (f := D.str) (xs := bads T) (i := at0 em 3 % ((bads T).length : Nat)) (Int.emod_nonneg _ (by omega)) (Int.emod_lt_of_pos _ (by omega))
  have mb := at0_mem (xs := bads T) (i := at0 em 3 % ((bads T).length : Nat)) (Int.emod_nonneg _ (by omega)) (Int.emod_lt_of_pos _ (by omega))
  have W := BN _ (List.mem_cons_of_mem _ mb)
  have E0 := BN "" List.mem_cons_self
  generalize at0 (bads T) (at0 em 3 % ((bads T).length : Nat)) = w at *
  have nb : 0 < ((bads T).length : Int) := by omega
  have m1 := q_mod (m := at0 em 3) nb
  have m2 := q_mod (m := at0 em 2) (n := (ls.length : Int) + 1) (by omega)
  obtain ⟨p, hp⟩ : ∃ p : Nat, at0 em 2 % ((ls.length : Int) + 1) = (p : Int) := ⟨(at0 em 2 % ((ls.length : Int) + 1)).toNat, by
    have := Int.emod_nonneg (at0 em 2) (b := (ls.length : Int) + 1) (by omega)
    omega⟩
  have hp2 : p ≤ ls.length := by
    have := Int.emod_lt_of_pos (at0 em 2) (b := (ls.length : Int) + 1) (by omega)
    omega
  rw [hp] at m2
  have st := q_slT (f := D.str) (xs := ls) (j := (p : Int)) (by omega) (by omega)
  have sf := q_slF (f := D.str) (xs := ls) (i := (p : Int)) (by omega) (by omega)
  rw [Int.toNat_natCast] at st sf
  have qm : (("?" : Str).length ≤ 1000 ∧ 10 ∉ tl ("?" : Str)) := by decide +kernel
  have fL : ∀ x ∈ ls.take p ++ [w] ++ ls.drop p ++ [("?" : Str)], x.length ≤ 1000 ∧ 10 ∉ tl x := fun x m => by
    rcases List.mem_append.mp m with m | m
    · rcases List.mem_append.mp m with m | m
      · rcases List.mem_append.mp m with m | m
        · exact ⟨(f1 x (List.mem_of_mem_take m)).1, (f1 x (List.mem_of_mem_take m)).2.1⟩
        · rw [List.mem_singleton.mp m]; exact ⟨by omega, W.2.2⟩
      · exact ⟨(f1 x (List.mem_of_mem_drop m)).1, (f1 x (List.mem_of_mem_drop m)).2.1⟩
    · rw [List.mem_singleton.mp m]; exact qm
  have zL : (ls.take p ++ [w] ++ ls.drop p ++ [("?" : Str)]).length ≤ 500 := by
    simp only [List.length_append, List.length_take, List.length_drop, List.length_singleton]
    omega
  have TL1 := told_L (L := ls.take p ++ [w] ++ ls.drop p ++ [("?" : Str)]) hT (by simp) (fun l m => (fL l m).2) (fun e => by
    have := congrArg List.length e
    simp only [List.length_append, List.length_take, List.length_drop, List.length_singleton] at this
    omega) (fun l m => (fL l m).1) zL
  have R1 : rdL (rdLn T) (ls.take p ++ [w] ++ ls.drop p ++ [("?" : Str)]) 1 = .error ((p : Int) + 1) := by
    rw [show ls.take p ++ [w] ++ ls.drop p ++ [("?" : Str)] = ls.take p ++ w :: (ls.drop p ++ [("?" : Str)]) by simp, rdL_bad W.1 fun l m => (f1 l (List.mem_of_mem_take m)).2.2, List.length_take]
    congr 1
    omega
  rw [R1] at TL1
  replace TL1 : _ = R.ok (dv (.int ((p : Int) + 1))) := TL1
  have J1 := tm_joinL (a := "\n") (ys := ls.take p ++ [w] ++ ls.drop p ++ [("?" : Str)]) (by
    have := join_lines (fun l m => (fL l m).1) zL
    omega)
  generalize Txt.join "\n" (ls.take p ++ [w] ++ ls.drop p ++ [("?" : Str)]) = t1 at *
  rw [List.map_append, List.map_append, List.map_append] at J1
  have sa : ∀ l1 l2 : List D, l1.length ≤ 1000 → l2.length ≤ 1000 → B2.fn .add (.lst l1) (.lst l2) = .ok (ov (.lst (l1 ++ l2))) := fun l1 l2 h1 h2 => o_addL (by rw [sizeLine_eq]; omega)
  have zt : ((ls.take p).map D.str).length ≤ 8 := by rw [List.length_map, List.length_take]; omega
  have zd : ((ls.drop p).map D.str).length ≤ 8 := by rw [List.length_map, List.length_drop]; omega
  have A1 := sa ((ls.take p).map D.str) [.str w] (by omega) (by show 1 ≤ 1000; decide)
  have A2 := sa ((ls.take p).map D.str ++ [.str w]) ((ls.drop p).map D.str) (by rw [List.length_append, List.length_singleton]; omega) (by omega)
  have A3 := sa ((ls.take p).map D.str ++ [.str w] ++ (ls.drop p).map D.str) [.str "?"] (by rw [List.length_append, List.length_append, List.length_singleton]; omega) (by decide)
  replace J1 : Tm.fn .join "\n" (.lst ((ls.take p).map D.str ++ [.str w] ++ (ls.drop p).map D.str ++ [.str "?"])) = _ := J1
  generalize (ls.take p).map D.str ++ [D.str w] = d1 at *
  generalize d1 ++ (ls.drop p).map D.str = d2 at *
  generalize d2 ++ [D.str "?"] = d3 at *
  have N2 : ls ++ ("" : Str) :: (if ls = [] then [("" : Str)] else []) ≠ [("" : Str)] := fun e => by
    by_cases c : ls = []
    · rw [c, if_pos rfl] at e
      exact absurd (congrArg List.length e) (by decide)
    · rw [if_neg c] at e
      cases ls with
      | nil => exact c rfl
      | cons x r => exact absurd (congrArg List.length e) (by simp)
  have fE : ∀ x ∈ ls ++ ("" : Str) :: (if ls = [] then [("" : Str)] else []), x.length ≤ 1000 ∧ 10 ∉ tl x := fun x m => by
    have e0 : ("" : Str).length ≤ 1000 ∧ 10 ∉ tl ("" : Str) := ⟨Nat.le_trans E0.2.1 (by decide), E0.2.2⟩
    rcases List.mem_append.mp m with m | m
    · exact ⟨(f1 x m).1, (f1 x m).2.1⟩
    · rcases List.mem_cons.mp m with m | m
      · rw [m]; exact e0
      · split at m
        · rw [List.mem_singleton.mp m]; exact e0
        · exact absurd m List.not_mem_nil
  have TL2 := told_L (L := ls ++ ("" : Str) :: (if ls = [] then [("" : Str)] else [])) hT (by simp) (fun l m => (fE l m).2) N2 (fun l m => (fE l m).1) (by
    rw [List.length_append, List.length_cons]
    split <;> simp <;> omega)
  rw [rdL_bad E0.1 fun l m => (f1 l m).2.2] at TL2
  replace TL2 : _ = R.ok (dv (.int (1 + (ls.length : Nat)))) := TL2
  have ej : Txt.join "\n" (ls ++ ("" : Str) :: (if ls = [] then [("" : Str)] else [])) = Txt.join "\n" ls ++ "\n" := by
    by_cases c : ls = []
    · rw [c, if_pos rfl]; decide +kernel
    · rw [if_neg c]; exact join_snoc c
  rw [ej] at TL2
  have jl := join_len "\n" ls
  have jl2 := join_lines (ls := ls) (n := 1000) (m := 1000) (fun l m => (f1 l m).1) (by omega)
  have AS := o_addS (s := Txt.join "\n" ls) (t := "\n") (by rw [len_nl, sizeLine_eq]; omega)
  generalize Txt.join "\n" ls ++ "\n" = t2 at *
  generalize Txt.join "\n" ls = tx at *
  clear BN f1 W E0 fL zL N2 fE ej jl jl2 hb hp R1 sa qm mb
  have zb : ((bads T).map D.str).length = (bads T).length := List.length_map ..
  have zl : (ls.map D.str).length = ls.length := List.length_map ..
  generalize (bads T).map D.str = bd at *
  have de : decide ((1 : Int) + (ls.length : Nat) = (ls.length : Nat) + 1) = true := decide_eq_true (by omega)
  have is : ∀ x : Int, isiF "list" (.int x) = .ok (dv (.bl false)) := fun _ => rfl
  unfold c_law_1
  cases c : decide ((ls.length : Int) = 0) <;> walk_at "ciw_all #11"
theorem c2_ok {T : Nat} {q : List Sc} {em : List Int} (Q : QOk T q) (he : em.length = 20) (hb : ∀ x ∈ em, 0 ≤ x ∧ x < 4096) {a0 a1 a4 : Option SV} :
    (ev c_law_2 [a0, a1, some (.d (.lst (em.map D.int))), some (.d (.int (T : Nat))), a4, some (.fv (.lst ((q.map scT).map D.str))), none, none, none, none, none, none, none, none, none, some (.d (.str (Txt.join "\n" (q.map scT)))), none, none, none]).toR = .ok (dv (.bl true)) := by
  have C := c1_ok Q he hb (a0 := a0) (a1 := a1) (a4 := a4)
  have hT := Q.h4
  have s1 := o_str (n := (T : Int)) (by omega)
  have z1 := strI_len (n := (T : Int)) (by omega)
  have s2 := o_addS (s := "late ") (t := strI (T : Int)) (by rw [show ("late " : Str).length = 5 by decide +kernel, sizeLine_eq]; omega)
  generalize some (SV.fv (.lst ((q.map scT).map D.str))) = v5 at *
  generalize some (SV.d (.str (Txt.join "\n" (q.map scT)))) = v15 at *
  generalize some (SV.d (.lst (em.map D.int))) = v2 at *
  unfold c_law_2
  unfold bads at C
  generalize ("late " : Str) ++ strI (T : Int) = lw at *
  clear Q he hb z1 hT
  by_cases c : 1 < T
  · have d : decide ((T : Int) > 1) = true := decide_eq_true (by omega)
    rw [if_pos c] at C
    simp only [List.map_cons, List.map_nil, List.cons_append, List.nil_append, List.map_append] at C
    clear c
    walk_at "ciw_all #11"
  · have d : decide ((T : Int) > 1) = false := decide_eq_false (by omega)
    rw [if_neg c] at C
    simp only [List.map_cons, List.map_nil, List.cons_append, List.nil_append, List.map_append, List.append_nil] at C
    clear c
    walk_at "ciw_all #11"
theorem liked_sc {T : Nat} {s : Sc} (h : PlS T s) (hT : T ≤ 4) : liked 11 (encSc s) = true := by
  obtain ⟨x, y, z, e, _⟩ := h.bt
  have z0 : ∀ {xs : List Int}, xs.length ≤ 1000000 → liked (9 + 1) (.tup (xs.map D.int)) = true := fun h => liked_mapT h fun _ _ => rfl
  have z1 := z0 (xs := s.bt) (by rw [e]; show 3 ≤ 1000000; decide)
  have z2 := z0 (xs := s.ls) (by rw [h.ln]; omega)
  have z3 : liked (9 + 1) (encFt s.ft) = true := by
    cases s.ft with
    | none => rfl
    | some f => obtain ⟨⟨a, b, c⟩, v⟩ := f; rfl
  show liked (10 + 1) (.tup [.tup (s.bt.map D.int), .tup (s.ls.map D.int), encFt s.ft]) = true
  rw [liked]
  simp only [List.length_cons, List.length_nil, List.all_cons, List.all_nil, z1, z2, z3]
  rfl
theorem c3_ok {T : Nat} {q : List Sc} {em : List Int} (Q : QOk T q) (he : em.length = 20) (hb : ∀ x ∈ em, 0 ≤ x ∧ x < 4096) {a0 a1 : Option SV} :
    (ev c_law_3 [a0, a1, some (.d (.lst (em.map D.int))), some (.d (.int (T : Nat))), some (.d (.lst (q.map encSc))), some (.fv (.lst ((q.map scT).map D.str))), none, none, none, none, none, none, none, none, none, some (.d (.str (Txt.join "\n" (q.map scT)))), none, none, none]).toR = .ok (dv (.bl true)) := by
  have C := c2_ok Q he hb (a0 := a0) (a1 := a1) (a4 := some (.d (.lst (q.map encSc))))
  have hT := Q.h4
  have ln := Q.ln
  have F := sp_format (ss := q) (fun s m => (Q.ok s m).B (by omega)) Q.sl (by omega)
  have T1 : m__law_told [.str (Txt.join "\n" (q.map scT)), .int (T : Nat)] = .ok (ov (.lst (q.map encSc))) := by
    by_cases c : q = []
    · rw [c]
      exact sp_told0
    · have ne : q.map scT ≠ [] := fun e => c (List.map_eq_nil_iff.mp e)
      have no : q.map scT ≠ [("" : Str)] := fun e => by
        have m : ("" : Str) ∈ q.map scT := by rw [e]; exact List.mem_cons_self
        obtain ⟨s, ms, es⟩ := List.mem_map.mp m
        have r := Q.rd s ms
        rw [es, (bads_none Q.h1 Q.h4 "" List.mem_cons_self).1] at r
        cases r
      have t := told_L hT ne (fun l m => by
        obtain ⟨s, ms, rfl⟩ := List.mem_map.mp m
        exact Q.nl s ms) no (fun l m => by
        obtain ⟨s, ms, rfl⟩ := List.mem_map.mp m
        exact Q.sl s ms) (by rw [List.length_map]; omega)
      rw [t, rdL_map (e := id) Q.rd, List.map_id]
      rfl
  have K1 : m__law_like [.lst (q.map encSc), .lst (q.map encSc)] = .ok (dv (.bl true)) := law_like (liked_map (n := 11) (by omega) fun s m => liked_sc (Q.ok s m) hT)
  have K2 : ∀ t : Str, m__law_like [.str t, .str t] = .ok (dv (.bl true)) := fun t => law_like (d := .str t) rfl
  have K0 : m__law_like [.lst [], .lst []] = .ok (dv (.bl true)) := law_like (d := .lst []) rfl
  have T0 := sp_told0 (T := (T : Int))
  generalize q.map encSc = qd at *
  generalize some (SV.fv (.lst ((q.map scT).map D.str))) = v5 at *
  generalize Txt.join "\n" (q.map scT) = tx at *
  generalize some (SV.d (.lst (em.map D.int))) = v2 at *
  clear Q he hb hT ln
  unfold c_law_3
  walk_at "ciw_all #11"
theorem joinL_free {c : Nat} {S : List Nat} (hS : c ∉ S) : ∀ {ps : List (List Nat)}, (∀ l ∈ ps, c ∉ l) → c ∉ TL.joinL S ps
  | [], _ => List.not_mem_nil
  | [p], h => h p List.mem_cons_self
  | p :: q :: r, h => fun m => by
    rcases List.mem_append.mp (show c ∈ p ++ (S ++ TL.joinL S (q :: r)) from m) with m | m
    · exact h p List.mem_cons_self m
    · rcases List.mem_append.mp m with m | m
      · exact hS m
      · exact joinL_free hS (fun l ml => h l (List.mem_cons_of_mem _ ml)) m
theorem sc_text {T : Nat} {s : Sc} (h : PlS T s) (hT : T ≤ 4) : (scT s).length ≤ 1000 ∧ 10 ∉ tl (scT s) := by
  have c1 : ∀ w ∈ (["go", "stop", "open"] : List Str), w.length ≤ 10 ∧ 10 ∉ tl w := by decide +kernel
  have c2 : (("late" : Str).length ≤ 10 ∧ 10 ∉ tl ("late" : Str)) ∧ (("fault" : Str).length ≤ 10 ∧ 10 ∉ tl ("fault" : Str)) ∧ ∀ w ∈ kindsP, w.length ≤ 10 ∧ 10 ∉ tl w := by decide +kernel
  have hn := h.ln
  have all : ∀ w ∈ scW s, w.length ≤ 10 ∧ 10 ∉ tl w := fun l m => by
    unfold scW at m
    rcases List.mem_append.mp m with m | m
    · rcases List.mem_append.mp m with m | m
      · exact c1 l (bwW_sub l m)
      · rw [latW_eq] at m
        split at m
        · exact absurd m List.not_mem_nil
        · rcases List.mem_cons.mp m with m | m
          · rw [m]; exact c2.1
          · obtain ⟨n, n1, n2, rfl⟩ := trW_wd (ls := s.ls) (k := 0) (by omega) (by omega) l m
            exact ⟨strI_len ⟨by omega, by omega⟩, strI_free (.inl (by decide))⟩
    · cases ef : s.ft with
      | none => rw [ef] at m; exact absurd m List.not_mem_nil
      | some f =>
        have hf := h.ft f ef
        rw [ef] at m
        unfold ftW fwW at m
        simp only [List.mem_cons, List.not_mem_nil, or_false] at m
        obtain ⟨k1, k2, k3, k4, _⟩ := hf
        rcases m with rfl | rfl | rfl | rfl | rfl
        · exact c2.2.1
        · exact c2.2.2 _ k1
        · exact ⟨strI_len ⟨by omega, by omega⟩, strI_free (.inl (by decide))⟩
        · exact ⟨strI_len ⟨by omega, by omega⟩, strI_free (.inl (by decide))⟩
        · exact ⟨strI_len ⟨by omega, by omega⟩, strI_free (.inl (by decide))⟩
  have lw : (scW s).length ≤ 20 := by
    have l1 := bwW_len (xs := ["go", "stop", "open"]) (bs := s.bt)
    have l2 := lat_len (ls := s.ls)
    have l3 : (ftW s.ft).length ≤ 5 := by cases s.ft <;> unfold ftW <;> simp [fwW]
    unfold scW
    rw [List.length_append, List.length_append]
    simp only [List.length_cons, List.length_nil] at l1
    omega
  rw [scT_len]
  cases e : (scW s).length with
  | zero =>
    have : (("-" : Str).length ≤ 1000 ∧ 10 ∉ tl ("-" : Str)) := by decide +kernel
    exact this
  | succ n =>
    show (Txt.join " " (scW s)).length ≤ 1000 ∧ 10 ∉ tl (Txt.join " " (scW s))
    refine ⟨?_, fun m => ?_⟩
    · have j := join_len " " (scW s)
      have sm := sum_le (ps := scW s) (n := 10) fun w m => (all w m).1
      rw [len_sp] at j
      omega
    · rw [tl_join, tl_sp] at m
      exact joinL_free (by decide) (fun l ml => by
        obtain ⟨w, mw, rfl⟩ := List.mem_map.mp ml
        exact (all w mw).2) m
theorem law_true (ns : List Int) (h : ns.length ≤ 63) : m_law [.scr ns] = .ok (dv (.bl true)) := by
  have D0 : m__law_draws [.int (cell ns 0), .int 30] = .ok (Ci.ov (.lst ((draws (cell ns 0) 30).map D.int))) := law_draws (cell_nn ns 0) (by decide) (by decide)
  have D1 : m__law_draws [.int (cell ns 1), .int 20] = .ok (Ci.ov (.lst ((draws (cell ns 1) 20).map D.int))) := law_draws (cell_nn ns 1) (by decide) (by decide)
  have l0 : (draws (cell ns 0) 30).length = 30 := draws_len
  have l1 : (draws (cell ns 1) 20).length = 20 := draws_len
  have b0 : ∀ x ∈ draws (cell ns 0) 30, 0 ≤ x ∧ x < 4096 := draws_bd
  have b1 : ∀ x ∈ draws (cell ns 1) 20, 0 ≤ x ∧ x < 4096 := draws_bd
  generalize draws (cell ns 0) 30 = ds at *
  generalize draws (cell ns 1) 20 = em at *
  have i0 := q_ixL (f := D.int) (xs := em) (i := 0) (by decide) (by omega)
  have i1 := q_ixL (f := D.int) (xs := em) (i := 1) (by decide) (by omega)
  obtain ⟨T, hT⟩ : ∃ T : Nat, 1 + at0 em 0 % 4 = (T : Int) := ⟨(1 + at0 em 0 % 4).toNat, by omega⟩
  obtain ⟨m, hm⟩ : ∃ m : Nat, at0 em 1 % 9 = (m : Int) := ⟨(at0 em 1 % 9).toNat, by omega⟩
  have T1 : 1 ≤ T ∧ T ≤ 4 := by omega
  have m1 : m ≤ 8 := by omega
  have PS : ∀ s ∈ playL T ds m, PlS T s := fun s ms => by
    obtain ⟨k, _, rfl⟩ := List.mem_map.mp ms
    exact pl_s
  have Q : QOk T (playL T ds m) := ⟨T1.1, T1.2, by unfold playL; rw [List.length_map, List.length_range]; exact m1, PS, fun s ms => (sc_text (PS s ms) T1.2).1, fun s ms => (sc_text (PS s ms) T1.2).2⟩
  have LP := @pl_loop T m ds T1.2 (by omega) l0 b0
  have C := @c3_ok T _ em Q l1 b1
  have J := tm_joinL (a := "\n") (ys := (playL T ds m).map scT) (by
    have := join_lines (ls := (playL T ds m).map scT) (n := 1000) (m := 1000) (fun l ml => by
      obtain ⟨s, ms, rfl⟩ := List.mem_map.mp ml
      exact Q.sl s ms) (by rw [List.length_map]; have := Q.ln; omega)
    omega)
  have LC := fun k => law_cell (ns := ns) (k := k)
  clear b0 b1 Q PS
  generalize (playL T ds m).map encSc = qd at *
  generalize ((playL T ds m).map scT).map D.str = ld at *
  generalize Txt.join "\n" ((playL T ds m).map scT) = tx at *
  generalize em.map D.int = ed at *
  generalize ds.map D.int = dd at *
  clear l0 l1
  unfold m_law runF b_law
  walk_at "ciw_all #11"
end Lw
end

set_option Elab.async false
set_option linter.all false
set_option maxRecDepth 100000
set_option maxHeartbeats 4000000
/-! law_k71_plays_written_and_read: text, facts, derivations (printed by tools2/gen2.py) -/
namespace Lw
open PySem PySem.Spec PyProof.Rows L2 Ci
open Evl (Ex ex_t ex_l sq_of st_of)
/-! statements by their syntax: the kernel looks at one at a time -/
section
variable {X : Cx} {G : Gm} {E : XE2} {sts ys : List Stmt} {st : Stmt}
theorem d_cons {a b : Ci.P .s} (h1 : PS X st (den G E a)) (h2 : PSs X sts (den G E b)) : PSs X (st :: sts) (den G E (.sq a b)) := pss_cons h1 h2
theorem d_frz {i : Nat} {b : Ci.P .s} (h : PSs X sts (den G E b)) : PSs X sts (den G E (.sq (.frz i) b)) := h
theorem d_if {c : Expr} {t : Ci.P .t} {a b : Ci.P .s} {pos : Pos} (hc : PT X c (den G E t)) (ha : PSs X sts (den G E a)) (hb : PSs X ys (den G E b)) : PS X (.If c sts ys pos) (den G E (.ifS t a b)) := ps_if hc ha hb
theorem d_for {tg iter : Expr} {it : Ci.P .i} {g : Ci.P .g} {b : Ci.P .s} {kill : List Nat} {pos : Pos} (hp : PassesOwn (model X.prog X.w) X.A X.env X.xe) (hc : X.calm = true) (hi : L2.PI X tg iter (den G E it)) (hg : PG X tg (den G E g)) (hb : PSs X sts (den G E b))
    (hs : ∀ x, foldedSetIterable iter X.env x = pure x := by intro _; rfl) : PS X (.For tg iter sts [] pos) (den G E (.for it g b kill)) := ps_for hp hc hi hg hb hs
end
theorem sc_read_lines : FnScope ["lines", "first", "read_line", "found", "number", "line", "told"] ["lines", "first", "read_line"] (defScope s_read_lines) := ⟨rfl, rfl, rfl, by decide +kernel, rfl, by decide +kernel, by decide +kernel⟩
theorem sc_read_number : FnScope ["word", "sign"] ["word"] (defScope s_read_number) := ⟨rfl, rfl, rfl, by decide +kernel, rfl, by decide +kernel, by decide +kernel⟩
theorem sc_read_numbers : FnScope ["words", "numbers", "word"] ["words"] (defScope s_read_numbers) := ⟨rfl, rfl, rfl, by decide +kernel, rfl, by decide +kernel, by decide +kernel⟩
theorem sc_format_play : FnScope ["scans", "scan"] ["scans"] (defScope s_format_play) := ⟨rfl, rfl, rfl, by decide +kernel, rfl, by decide +kernel, by decide +kernel⟩
theorem sc_written_scan : FnScope ["scan", "buttons", "late", "fault", "words", "button", "number", "trains", "train", "is_late"] ["scan"] (defScope s_written_scan) := ⟨rfl, rfl, rfl, by decide +kernel, rfl, by decide +kernel, by decide +kernel⟩
theorem sc_fault_words : FnScope ["fault", "kind", "block", "channel", "number"] ["fault"] (defScope s_fault_words) := ⟨rfl, rfl, rfl, by decide +kernel, rfl, by decide +kernel, by decide +kernel⟩
theorem sc_parse_play : FnScope ["text", "trains"] ["text", "trains"] (defScope s_parse_play) := ⟨rfl, rfl, rfl, by decide +kernel, rfl, by decide +kernel, by decide +kernel⟩
theorem sc_read_scan : FnScope ["line", "trains", "words", "before_fault", "before_late", "buttons", "button", "numbers", "late", "train", "scan"] ["line", "trains"] (defScope s_read_scan) := ⟨rfl, rfl, rfl, by decide +kernel, rfl, by decide +kernel, by decide +kernel⟩
theorem sc__words_before : FnScope ["word", "words"] ["word", "words"] (defScope s__words_before) := ⟨rfl, rfl, rfl, by decide +kernel, rfl, by decide +kernel, by decide +kernel⟩
theorem sc__read_fault_of_play : FnScope ["words"] ["words"] (defScope s__read_fault_of_play) := ⟨rfl, rfl, rfl, by decide +kernel, rfl, by decide +kernel, by decide +kernel⟩
theorem sc_read_fault : FnScope ["words", "numbers"] ["words"] (defScope s_read_fault) := ⟨rfl, rfl, rfl, by decide +kernel, rfl, by decide +kernel, by decide +kernel⟩
theorem sc__law_cell : FnScope ["script", "k"] ["script", "k"] (defScope s__law_cell) := ⟨rfl, rfl, rfl, by decide +kernel, rfl, by decide +kernel, by decide +kernel⟩
theorem sc__law_draws : FnScope ["cell", "count", "rows", "left", "k", "mixed"] ["cell", "count"] (defScope s__law_draws) := ⟨rfl, rfl, rfl, by decide +kernel, rfl, by decide +kernel, by decide +kernel⟩
theorem sc__law_like : FnScope ["actual", "due", "k"] ["actual", "due"] (defScope s__law_like) := ⟨rfl, rfl, rfl, by decide +kernel, rfl, by decide +kernel, by decide +kernel⟩
theorem sc__law_told : FnScope ["text", "trains", "e"] ["text", "trains"] (defScope s__law_told) := ⟨rfl, rfl, rfl, by decide +kernel, rfl, by decide +kernel, by decide +kernel⟩
theorem sc_law : FnScope ["script", "draws", "more", "trains", "scans", "lines", "k", "draw", "buttons", "late", "j", "words", "fault", "kind", "block", "text", "bad", "at", "told"] ["script"] (defScope s_law) := ⟨rfl, rfl, rfl, by decide +kernel, rfl, by decide +kernel, by decide +kernel⟩
theorem sc_InvalidText : FnScope ["self", "line"] ["self", "line"] (defScope s_InvalidText) := ⟨rfl, rfl, rfl, by decide +kernel, rfl, by decide +kernel, by decide +kernel⟩
structure Txt0 (G : Gm) (mg : Str → Option Value) (w : World) where
  a_read_lines : Addr
  d_read_lines : FuncData
  F_read_lines : Fun G.K "read_lines" "read_lines" s_read_lines a_read_lines d_read_lines
  b_read_lines : Binds G.K d_read_lines ["lines", "first", "read_line"] []
  g_read_lines : mg "read_lines" = some (.ref a_read_lines)
  a_read_number : Addr
  d_read_number : FuncData
  F_read_number : Fun G.K "read_number" "read_number" s_read_number a_read_number d_read_number
  b_read_number : Binds G.K d_read_number ["word"] []
  g_read_number : mg "read_number" = some (.ref a_read_number)
  a_read_numbers : Addr
  d_read_numbers : FuncData
  F_read_numbers : Fun G.K "read_numbers" "read_numbers" s_read_numbers a_read_numbers d_read_numbers
  b_read_numbers : Binds G.K d_read_numbers ["words"] []
  g_read_numbers : mg "read_numbers" = some (.ref a_read_numbers)
  a_format_play : Addr
  d_format_play : FuncData
  F_format_play : Fun G.K "format_play" "format_play" s_format_play a_format_play d_format_play
  b_format_play : Binds G.K d_format_play ["scans"] []
  g_format_play : mg "format_play" = some (.ref a_format_play)
  a_written_scan : Addr
  d_written_scan : FuncData
  F_written_scan : Fun G.K "written_scan" "written_scan" s_written_scan a_written_scan d_written_scan
  b_written_scan : Binds G.K d_written_scan ["scan"] []
  g_written_scan : mg "written_scan" = some (.ref a_written_scan)
  a_fault_words : Addr
  d_fault_words : FuncData
  F_fault_words : Fun G.K "fault_words" "fault_words" s_fault_words a_fault_words d_fault_words
  b_fault_words : Binds G.K d_fault_words ["fault"] []
  g_fault_words : mg "fault_words" = some (.ref a_fault_words)
  a_parse_play : Addr
  d_parse_play : FuncData
  F_parse_play : Fun G.K "parse_play" "parse_play" s_parse_play a_parse_play d_parse_play
  b_parse_play : Binds G.K d_parse_play ["text", "trains"] []
  g_parse_play : mg "parse_play" = some (.ref a_parse_play)
  c_parse_play : Addr
  P_parse_play : Addr
  FC_parse_play : Ci.FunC G.K "parse_play" "parse_play" s_parse_play a_parse_play d_parse_play c_parse_play
  tb_parse_play : G.T[(0 : Nat)]? = some (P_parse_play, ("parse_play.<locals>.<lambda>" : Str))
  tu_parse_play : ∀ p ∈ G.T, p.1 = P_parse_play → p.2 = ("parse_play.<locals>.<lambda>" : Str)
structure Txt1 (G : Gm) (mg : Str → Option Value) (w : World) where
  a_read_scan : Addr
  d_read_scan : FuncData
  F_read_scan : Fun G.K "read_scan" "read_scan" s_read_scan a_read_scan d_read_scan
  b_read_scan : Binds G.K d_read_scan ["line", "trains"] []
  g_read_scan : mg "read_scan" = some (.ref a_read_scan)
  a__words_before : Addr
  d__words_before : FuncData
  F__words_before : Fun G.K "_words_before" "_words_before" s__words_before a__words_before d__words_before
  b__words_before : Binds G.K d__words_before ["word", "words"] []
  g__words_before : mg "_words_before" = some (.ref a__words_before)
  a__read_fault_of_play : Addr
  d__read_fault_of_play : FuncData
  F__read_fault_of_play : Fun G.K "_read_fault_of_play" "_read_fault_of_play" s__read_fault_of_play a__read_fault_of_play d__read_fault_of_play
  b__read_fault_of_play : Binds G.K d__read_fault_of_play ["words"] []
  g__read_fault_of_play : mg "_read_fault_of_play" = some (.ref a__read_fault_of_play)
  a_read_fault : Addr
  d_read_fault : FuncData
  F_read_fault : Fun G.K "read_fault" "read_fault" s_read_fault a_read_fault d_read_fault
  b_read_fault : Binds G.K d_read_fault ["words"] []
  g_read_fault : mg "read_fault" = some (.ref a_read_fault)
  a__law_cell : Addr
  d__law_cell : FuncData
  F__law_cell : Fun G.K "_law_cell" "_law_cell" s__law_cell a__law_cell d__law_cell
  b__law_cell : Binds G.K d__law_cell ["script", "k"] []
  g__law_cell : mg "_law_cell" = some (.ref a__law_cell)
  a__law_draws : Addr
  d__law_draws : FuncData
  F__law_draws : Fun G.K "_law_draws" "_law_draws" s__law_draws a__law_draws d__law_draws
  b__law_draws : Binds G.K d__law_draws ["cell", "count"] []
  g__law_draws : mg "_law_draws" = some (.ref a__law_draws)
  a__law_like : Addr
  d__law_like : FuncData
  F__law_like : Fun G.K "_law_like" "_law_like" s__law_like a__law_like d__law_like
  b__law_like : Binds G.K d__law_like ["actual", "due"] []
  g__law_like : mg "_law_like" = some (.ref a__law_like)
  a__law_told : Addr
  d__law_told : FuncData
  F__law_told : Fun G.K "_law_told" "_law_told" s__law_told a__law_told d__law_told
  b__law_told : Binds G.K d__law_told ["text", "trains"] []
  g__law_told : mg "_law_told" = some (.ref a__law_told)
structure Txt2 (G : Gm) (mg : Str → Option Value) (w : World) where
  a_law : Addr
  d_law : FuncData
  F_law : Fun G.K "law" "law" s_law a_law d_law
  b_law : Binds G.K d_law ["script"] []
  g_law : mg "law" = some (.ref a_law)
  g_CoasterError : mg "CoasterError" = some (.ref (G.ca 0))
  te_CoasterError : PySem.W.exmOne G.K (.ref (G.ca 0)) (.ref (G.ca 0)) = some true
  x_CoasterError : PySem.W.excIn G.K (G.ca 0) [.type "ValueError", .type "Exception", .type "BaseException", .type "object"] "ValueError.__new__" = true
  kk_CoasterError : PySem.W.keepIn G.K (.ref (G.ca 0)) = true
  bb_CoasterError : PySem.W.subIn G.K (.ref (G.ca 0)) (.type "BaseException") = some true
  tt_CoasterError : PySem.W.typeIn G.K (.ref (G.ca 0)) = some (.type "type")
  g_InvalidText : mg "InvalidText" = some (.ref (G.ca 6))
  te_InvalidText : PySem.W.exmOne G.K (.ref (G.ca 6)) (.ref (G.ca 6)) = some true
  a_InvalidText : Addr
  d_InvalidText : FuncData
  F_InvalidText : Fun G.K "__init__" "InvalidText.__init__" s_InvalidText a_InvalidText d_InvalidText
  b_InvalidText : Binds G.K d_InvalidText ["self", "line"] []
  oex_InvalidText : OexC G.K (G.ca 6)
  ii_InvalidText : PySem.W.findIn G.K (.ref (G.ca 6)) "__init__" = some (some (.ref a_InvalidText))
  ti_InvalidText : PySem.W.typeIn G.K (.ref a_InvalidText) = some (.type "function")
  nf_InvalidText : PySem.W.findIn G.K (.ref (G.ca 6)) "line" = some none
  xf_InvalidText : XfC G.K (G.ca 6)
  xi_InvalidText : ∀ x b, [((0 : Nat), false), ((6 : Nat), true)].lookup x = some b → ExcC G.K (G.ca x) ∧ PySem.W.kitOne G.K (.ref (G.ca x)) (.ref (G.ca 6)) = some b
  ty_InvalidText_CoasterError : PySem.W.exmOne G.K (.ref (G.ca 6)) (.ref (G.ca 0)) = some true
  z_abs : mg "abs" = none
  z_all : mg "all" = none
  z_bool : mg "bool" = none
  z_enumerate : mg "enumerate" = none
  z_int : mg "int" = none
  z_isinstance : mg "isinstance" = none
  z_len : mg "len" = none
  z_list : mg "list" = none
  z_range : mg "range" = none
  z_str : mg "str" = none
  z_tuple : mg "tuple" = none
  z_zip : mg "zip" = none
  k_BUTTONS : mg "BUTTONS" = some (.ref (G.kt 8))
  q_BUTTONS : ∀ B : Hp, ∃ vs, SqT G.K B (G.kt 8) vs ∧ Reps G B vs [(.str "go"), (.str "stop"), (.str "open")]
  t_DIGITS : Tok
  k_DIGITS : mg "DIGITS" = some (.str "0123456789" t_DIGITS)
structure Txt3 (G : Gm) (mg : Str → Option Value) (w : World) where
  t_EMPTY_SCAN : Tok
  k_EMPTY_SCAN : mg "EMPTY_SCAN" = some (.str "-" t_EMPTY_SCAN)
  k_KINDS_OF_PARTS : mg "KINDS_OF_PARTS" = some (.ref (G.kt 18))
  q_KINDS_OF_PARTS : ∀ B : Hp, ∃ vs, SqT G.K B (G.kt 18) vs ∧ Reps G B vs [(.str "sensor"), (.str "present"), (.str "brake")]
  t_MOST_DIGITS : Tok
  k_MOST_DIGITS : mg "MOST_DIGITS" = some (.int (9) t_MOST_DIGITS)
structure Txt (G : Gm) (mg : Str → Option Value) (w : World) where
  c0 : Txt0 G mg w
  c1 : Txt1 G mg w
  c2 : Txt2 G mg w
  c3 : Txt3 G mg w
structure Tbs {G : Gm} {mg : Str → Option Value} {w : World} (T : Txt G mg w) (base : Heap) : Prop where
  parse_play : LamX.TabB base mg T.c0.c_parse_play T.c0.P_parse_play
section
variable {P : Program} {w : World} {G : Gm} {mg : Str → Option Value} {base : Heap}
theorem okx_InvalidText (T : Txt G mg w) (tbs : Tbs T base) : FnOk P w G.K mg base CXn 1 T.c2.a_InvalidText T.c2.d_InvalidText ["self", "line"] (PrE G 6 "line") := fun_okCX T.c2.F_InvalidText sc_InvalidText (PrE.len rfl) fun cdv A outer s H vs Q E hr h => ⟨_, pss_one (ps_ost (pv 0) (pv 1)), bodyE (N := ["self", "line"]) T.c2.oex_InvalidText T.c2.nf_InvalidText h⟩
local macro_rules | `(tactic| walk_at "wf_form") => `(tactic| repeat' (first | apply And.intro | exact True.intro | exact rfl | (intro i hi; exact hi) | exact True.intro | exact rfl | exact $(Lean.mkIdent `T.c2).ty_InvalidText_CoasterError | exact $(Lean.mkIdent `T.c2).q_BUTTONS | exact $(Lean.mkIdent `T.c3).q_KINDS_OF_PARTS | (rintro x hx; have := List.mem_singleton.mp hx; subst this; exact $(Lean.mkIdent `T.c2).te_CoasterError) | (rintro x hx; have := List.mem_singleton.mp hx; subst this; exact $(Lean.mkIdent `T.c2).te_InvalidText) | (intro i hi; simpa using hi) | (intro x hx; simp only [List.mem_cons, List.not_mem_nil, or_false] at hx; rcases hx with hx | hx <;> subst hx <;> first | exact $(Lean.mkIdent `T.c2).te_CoasterError | exact $(Lean.mkIdent `T.c2).te_InvalidText | exact $(Lean.mkIdent `T.c2).ty_InvalidText_CoasterError) | decide | refine fun E ρ => pop2_ok ?_ ?_ ?_ ?_ | refine fun E ρ => lamC_ok rfl ?_ | refine fun E ρ => lamG_ok $(Lean.mkIdent `T.c0).tb_parse_play $(Lean.mkIdent `T.c0).tu_parse_play rfl ?_ | refine fun E ρ => cnt_ok ?_ ?_ | refine fun E ρ => lix_ok ?_ ?_ | refine fun E ρ => lendS_ok ?_ | refine fun E ρ => dnew_ok (by decide +kernel) (by decide) | refine fun E ρ => dapp_ok ?_ ?_ | refine fun E ρ => kdT_ok ?_ ?_))
theorem wf_read_lines (L_ : LamI) (T : Txt G mg w) : Wf G (b_read_lines L_) := by
  delta b_read_lines l_read_lines_1 
  walk_at "wf_form"
theorem ok_read_lines (T : Txt G mg w) (tbs : Tbs T base) : FnLam P w G.K mg base (L2.CX P w) 7 6 T.c0.a_read_lines T.c0.d_read_lines ["lines", "first", "read_line"] G [false, false] [false] own_m_read_lines := by
  exact fnLam_of T.c0.F_read_lines sc_read_lines rfl rfl (fun L => wf_read_lines L T) own_eq_read_lines (fun L_ bx qs fr LO cdv A outer s H E hr Li => (d_cons (ps_set (i := 3) sc_read_lines.nd (by rfl) (by first | exact Or.inl rfl | exact Or.inr rfl) (pe_lst pa_nil))
      (d_cons (d_for (passes_of rfl) rfl (pi_enumK (K := G.K) rfl (by rfl) T.c2.z_enumerate (pa_cons (pv 0) pa_nil) (pv 1)) (pg_tupK (K := G.K) (n := 2) rfl (by rfl) (pgs_cons (pg_name (i := 4) sc_read_lines.nd (by rfl) (by first | exact Or.inl rfl | exact Or.inr rfl)) (pgs_cons (pg_name (i := 5) sc_read_lines.nd (by rfl) (by first | exact Or.inl rfl | exact Or.inr rfl)) pgs_nil))) (d_cons (ps_set (i := 6) sc_read_lines.nd (by rfl) (by first | exact Or.inl rfl | exact Or.inr rfl) (pe_lamC LO Li rfl hr (by decide) (fun σ => passAt (takes_of rfl rfl rfl rfl) σ) (by rfl) (by first | exact Or.inl rfl | exact Or.inr (Or.inl rfl) | exact Or.inr (Or.inr rfl)) (pa_cons (pv 5) pa_nil)))
      (d_cons (d_if (pt_cmpR Ci.op_isN1 (pv 6) pe_non (nomark _)) (pss_one (ps_raiseF rfl (takes_of rfl rfl rfl rfl) T.c2.oex_InvalidText T.c2.ii_InvalidText T.c2.ti_InvalidText (okx_InvalidText (P := P) (w := w) (base := base) T tbs) (hr.mono (by first | decide | omega | (simp only [Nat.add_eq, Nat.mul_eq]; omega))) T.c2.b_InvalidText passn (by rfl) T.c2.g_InvalidText (pa_cons (pv 4) pa_nil))) pss_nil)
      (pss_one (ps_expr (pe_bm PySem.F.plainAttrs_list PySem.F.slot_list_append PySem.F.type_list_append mt_append (pv 3) (pa_cons (pv 6) pa_nil)))))))
      (pss_one (ps_ret (pv 3))))))
theorem wf_read_number (T : Txt G mg w) : Wf G b_read_number := by
  delta b_read_number e_read_number_1 
  walk_at "wf_form"
theorem ok_read_number (T : Txt G mg w) (tbs : Tbs T base) : FnOk P w G.K mg base (L2.CX P w) 1 T.c0.a_read_number T.c0.d_read_number ["word"] (Pr G [false] m_read_number) := by
  exact T.c0.F_read_number.okX sc_read_number (Pr.len rfl) (fun cdv A outer s H vs Q E hr h => ⟨den G (fun _ => E) b_read_number, (d_cons (d_if (pt_not (pt_chain op_le op_le pe_int (pe_callB (call_lenK (K := G.K) rfl) (by rfl) T.c2.z_len (by decide +kernel) (pa_cons (pv 0) pa_nil)) (pe_glob (v := .int (9)) (by rfl) T.c3.k_MOST_DIGITS ⟨_, rfl⟩))) (pss_one (ps_ret pe_non)) pss_nil)
      (d_cons (d_if (pt_not (pt_truK (K := G.K) rfl (pe_callB (cr_allK (K := G.K) rfl rfl) (by rfl) T.c2.z_all (by decide +kernel) (pa_cons (pe_lc (own := [("sign", 1)]) (by rfl) sc_read_number.nd (pi_seqK (K := G.K) rfl (pv 0)) (blkOk_by (own := [("sign", 1)]) (N := ["word", "sign"]) (sc := defScope s_read_number) (by decide +kernel)) (fun _ _ _ _ _ => (pg_name (i := 1) sc_read_number.nd (by rfl) (by first | exact Or.inl rfl | exact Or.inr rfl))) (fun _ _ _ _ _ => pts_nil) (fun _ _ _ _ _ => (pe_cmpR (op_inK (K := G.K) rfl hr.units65) (pv 1) (pe_glob (v := .str "0123456789") (by rfl) T.c2.k_DIGITS ⟨_, rfl⟩) (by rfl)))) pa_nil)))) (pss_one (ps_ret pe_non)) pss_nil)
      (d_cons (d_if (PW.pt (pw_and (pt_cmpR (op_eqDK (K := G.K) rfl hr.units) (pe_ix (ix_seqK (K := G.K) rfl) (pv 0) pe_int (fun _ _ => rfl)) pe_str (nomark _)) (pw_and1 (pt_cmpR (op_neDK (K := G.K) rfl hr.units) (pv 0) pe_str (nomark _))))) (pss_one (ps_ret pe_non)) pss_nil)
      (pss_one (ps_ret (pe_callTy call_intK (by rfl) T.c2.z_int (by decide +kernel) (pa_cons (pv 0) pa_nil))))))), body (N := ["word", "sign"]) (wf_read_number T) h⟩)
theorem wf_read_numbers (T : Txt G mg w) : Wf G b_read_numbers := by
  delta b_read_numbers e_read_numbers_1 
  walk_at "wf_form"
theorem ok_read_numbers (T : Txt G mg w) (tbs : Tbs T base) : FnOk P w G.K mg base (L2.CX P w) 2 T.c0.a_read_numbers T.c0.d_read_numbers ["words"] (Pr G [false] m_read_numbers) := by
  have G_read_number := ok_read_number (P := P) (w := w) (base := base) T tbs
  exact T.c0.F_read_numbers.okX sc_read_numbers (Pr.len rfl) (fun cdv A outer s H vs Q E hr h => ⟨den G (fun _ => E) b_read_numbers, (d_cons (ps_setLc (i := 1) (own := [("word", 2)]) (by rfl) sc_read_numbers.nd rfl (by rfl) (sw_true rfl rfl rfl (by decide +kernel)) (pi_seqK (K := G.K) rfl (pv 0)) (blkOk_by (own := [("word", 2)]) (N := ["words", "numbers", "word"]) (sc := defScope s_read_numbers) (by decide +kernel)) (fun _ _ _ _ _ => (pg_name (i := 2) sc_read_numbers.nd (by rfl) (by first | exact Or.inl rfl | exact Or.inr rfl))) (fun _ _ _ _ _ => pts_nil) (fun _ _ _ _ _ => (pe_cCall G_read_number (hr.mono (by first | decide | omega | (simp only [Nat.add_eq, Nat.mul_eq]; omega))) (by rfl) T.c0.g_read_number T.c0.F_read_number.kp T.c0.b_read_number passLc (pa_cons (pv 2) pa_nil))))
      (d_cons (d_if (pt_cmpR (op_inK (K := G.K) rfl hr.units65) pe_non (pv 1) (by rfl)) (pss_one (ps_ret pe_non)) pss_nil)
      (pss_one (ps_ret (pv 1))))), body (N := ["words", "numbers", "word"]) (wf_read_numbers T) h⟩)
theorem wf_fault_words (T : Txt G mg w) : Wf G b_fault_words := by
  delta b_fault_words 
  walk_at "wf_form"
theorem ok_fault_words (T : Txt G mg w) (tbs : Tbs T base) : FnOk P w G.K mg base (L2.CX P w) 1 T.c0.a_fault_words T.c0.d_fault_words ["fault"] (Pr G [false] m_fault_words) := by
  exact T.c0.F_fault_words.okX sc_fault_words (Pr.len rfl) (fun cdv A outer s H vs Q E hr h => ⟨den G (fun _ => E) b_fault_words, (d_cons (ps_asg (pv 0) (pg_tupK (K := G.K) (n := 2) rfl (by rfl) (pgs_cons (pg_tupK (K := G.K) (n := 3) rfl (by rfl) (pgs_cons (pg_name (i := 1) sc_fault_words.nd (by rfl) (by first | exact Or.inl rfl | exact Or.inr rfl)) (pgs_cons (pg_name (i := 2) sc_fault_words.nd (by rfl) (by first | exact Or.inl rfl | exact Or.inr rfl)) (pgs_cons (pg_name (i := 3) sc_fault_words.nd (by rfl) (by first | exact Or.inl rfl | exact Or.inr rfl)) pgs_nil)))) (pgs_cons (pg_name (i := 4) sc_fault_words.nd (by rfl) (by first | exact Or.inl rfl | exact Or.inr rfl)) pgs_nil))))
      (pss_one (ps_ret (pe_lst (pa_cons (pv 1) (pa_cons (pe_callTy call_str_int (by rfl) T.c2.z_str (by decide +kernel) (pa_cons (pv 2) pa_nil)) (pa_cons (pe_callTy call_str_int (by rfl) T.c2.z_str (by decide +kernel) (pa_cons (pv 3) pa_nil)) (pa_cons (pe_callTy call_str_int (by rfl) T.c2.z_str (by decide +kernel) (pa_cons (pv 4) pa_nil)) pa_nil)))))))), body (N := ["fault", "kind", "block", "channel", "number"]) (wf_fault_words T) h⟩)
theorem wf_written_scan (T : Txt G mg w) : Wf G b_written_scan := by
  delta b_written_scan t_written_scan_1 e_written_scan_1 t_written_scan_2 e_written_scan_2 
  walk_at "wf_form"
theorem ok_written_scan (T : Txt G mg w) (tbs : Tbs T base) : FnOk P w G.K mg base (L2.CX P w) 2 T.c0.a_written_scan T.c0.d_written_scan ["scan"] (Pr G [false] m_written_scan) := by
  have G_fault_words := ok_fault_words (P := P) (w := w) (base := base) T tbs
  exact T.c0.F_written_scan.okX sc_written_scan (Pr.len rfl) (fun cdv A outer s H vs Q E hr h => ⟨den G (fun _ => E) b_written_scan, (d_cons (ps_asg (pv 0) (pg_tupK (K := G.K) (n := 3) rfl (by rfl) (pgs_cons (pg_name (i := 1) sc_written_scan.nd (by rfl) (by first | exact Or.inl rfl | exact Or.inr rfl)) (pgs_cons (pg_name (i := 2) sc_written_scan.nd (by rfl) (by first | exact Or.inl rfl | exact Or.inr rfl)) (pgs_cons (pg_name (i := 3) sc_written_scan.nd (by rfl) (by first | exact Or.inl rfl | exact Or.inr rfl)) pgs_nil)))))
      (d_cons (ps_setLc (i := 4) (own := [("button", 5), ("number", 6)]) (by rfl) sc_written_scan.nd rfl (by rfl) (sw_true rfl rfl rfl (by decide +kernel)) (RZ.pi_zipA (by rfl) T.c2.z_zip (pa_cons (pe_glob (v := .ref (G.kt 8)) (by rfl) T.c2.k_BUTTONS rfl) (pa_cons (pv 1) pa_nil))) (blkOk_by (own := [("button", 5), ("number", 6)]) (N := ["scan", "buttons", "late", "fault", "words", "button", "number", "trains", "train", "is_late"]) (sc := defScope s_written_scan) (by decide +kernel)) (fun _ _ _ _ _ => (pg_tupK (K := G.K) (n := 2) rfl (by rfl) (pgs_cons (pg_name (i := 5) sc_written_scan.nd (by rfl) (by first | exact Or.inl rfl | exact Or.inr rfl)) (pgs_cons (pg_name (i := 6) sc_written_scan.nd (by rfl) (by first | exact Or.inl rfl | exact Or.inr rfl)) pgs_nil)))) (fun _ _ _ _ _ => (pts_one (pt_cmpR (op_eqDK (K := G.K) rfl hr.units) (pv 6) pe_int (nomark _)))) (fun _ _ _ _ _ => (pv 5)))
      (d_cons (ps_setLc (i := 7) (own := [("train", 8), ("is_late", 9)]) (by rfl) sc_written_scan.nd rfl (by rfl) (sw_true rfl rfl rfl (by decide +kernel)) (pi_enumA (by rfl) T.c2.z_enumerate (pa_cons (pv 2) pa_nil)) (blkOk_by (own := [("train", 8), ("is_late", 9)]) (N := ["scan", "buttons", "late", "fault", "words", "button", "number", "trains", "train", "is_late"]) (sc := defScope s_written_scan) (by decide +kernel)) (fun _ _ _ _ _ => (pg_tupK (K := G.K) (n := 2) rfl (by rfl) (pgs_cons (pg_name (i := 8) sc_written_scan.nd (by rfl) (by first | exact Or.inl rfl | exact Or.inr rfl)) (pgs_cons (pg_name (i := 9) sc_written_scan.nd (by rfl) (by first | exact Or.inl rfl | exact Or.inr rfl)) pgs_nil)))) (fun _ _ _ _ _ => (pts_one (pt_cmpR (op_eqDK (K := G.K) rfl hr.units) (pv 9) pe_int (nomark _)))) (fun _ _ _ _ _ => (pe_callTy call_str_int (by rfl) T.c2.z_str (by decide +kernel) (pa_cons (pv 8) pa_nil))))
      (d_cons (d_if (pt_truK (K := G.K) rfl (pv 7)) (pss_one (ps_expr (pe_bm PySem.F.plainAttrs_list PySem.F.slot_list_extend PySem.F.type_list_extend mt_extend (pv 4) (pa_cons (pe_op (op_plusK (K := G.K) rfl) (pe_lst (pa_cons pe_str pa_nil)) (pv 7)) pa_nil)))) pss_nil)
      (d_cons (d_if (pt_cmpR Ci.op_notN1 (pv 3) pe_non (nomark _)) (pss_one (ps_expr (pe_bm PySem.F.plainAttrs_list PySem.F.slot_list_extend PySem.F.type_list_extend mt_extend (pv 4) (pa_cons (pe_op (op_plusK (K := G.K) rfl) (pe_lst (pa_cons pe_str pa_nil)) (pe_cCall G_fault_words (hr.mono (by first | decide | omega | (simp only [Nat.add_eq, Nat.mul_eq]; omega))) (by rfl) T.c0.g_fault_words T.c0.F_fault_words.kp T.c0.b_fault_words (fun σ => passAt (takes_of rfl rfl rfl rfl) σ) (pa_cons (pv 3) pa_nil))) pa_nil)))) pss_nil)
      (d_cons (d_if (pt_not (pt_truK (K := G.K) rfl (pv 4))) (pss_one (ps_ret (pe_glob (v := .str "-") (by rfl) T.c3.k_EMPTY_SCAN ⟨_, rfl⟩))) pss_nil)
      (pss_one (ps_ret (pe_joinK (K := G.K) rfl pe_str (pv 4)))))))))), body (N := ["scan", "buttons", "late", "fault", "words", "button", "number", "trains", "train", "is_late"]) (wf_written_scan T) h⟩)
theorem wf_format_play (T : Txt G mg w) : Wf G b_format_play := by
  delta b_format_play e_format_play_1 
  walk_at "wf_form"
theorem ok_format_play (T : Txt G mg w) (tbs : Tbs T base) : FnOk P w G.K mg base (L2.CX P w) 3 T.c0.a_format_play T.c0.d_format_play ["scans"] (Pr G [false] m_format_play) := by
  have G_written_scan := ok_written_scan (P := P) (w := w) (base := base) T tbs
  exact T.c0.F_format_play.okX sc_format_play (Pr.len rfl) (fun cdv A outer s H vs Q E hr h => ⟨den G (fun _ => E) b_format_play, (pss_one (ps_ret (pe_joinK (K := G.K) rfl pe_str (pe_lc (own := [("scan", 1)]) (by rfl) sc_format_play.nd (pi_seqK (K := G.K) rfl (pv 0)) (blkOk_by (own := [("scan", 1)]) (N := ["scans", "scan"]) (sc := defScope s_format_play) (by decide +kernel)) (fun _ _ _ _ _ => (pg_name (i := 1) sc_format_play.nd (by rfl) (by first | exact Or.inl rfl | exact Or.inr rfl))) (fun _ _ _ _ _ => pts_nil) (fun _ _ _ _ _ => (pe_cCall G_written_scan (hr.mono (by first | decide | omega | (simp only [Nat.add_eq, Nat.mul_eq]; omega))) (by rfl) T.c0.g_written_scan T.c0.F_written_scan.kp T.c0.b_written_scan passLc (pa_cons (pv 1) pa_nil))))))), body (N := ["scans", "scan"]) (wf_format_play T) h⟩)
theorem wf__words_before (T : Txt G mg w) : Wf G b__words_before := by
  delta b__words_before 
  walk_at "wf_form"
theorem ok__words_before (T : Txt G mg w) (tbs : Tbs T base) : FnOk P w G.K mg base (L2.CX P w) 1 T.c1.a__words_before T.c1.d__words_before ["word", "words"] (Pr G [false, false] m__words_before) := by
  exact T.c1.F__words_before.okX sc__words_before (Pr.len rfl) (fun cdv A outer s H vs Q E hr h => ⟨den G (fun _ => E) b__words_before, (pss_one (ps_ret (pe_ifExp (pt_cmpR (op_inK (K := G.K) rfl hr.units65) (pv 0) (pv 1) (by rfl)) (pe_slice (sl_anyK (K := G.K) rfl) (pv 1) po_none (po_some (pe_bm PySem.F.plainAttrs_list PySem.F.slot_list_index PySem.F.type_list_index mt_index (pv 1) (pa_cons (pv 0) pa_nil)))) (pv 1)))), body (N := ["word", "words"]) (wf__words_before T) h⟩)
theorem wf_read_fault (T : Txt G mg w) : Wf G b_read_fault := by
  delta b_read_fault 
  walk_at "wf_form"
theorem ok_read_fault (T : Txt G mg w) (tbs : Tbs T base) : FnOk P w G.K mg base (L2.CX P w) 3 T.c1.a_read_fault T.c1.d_read_fault ["words"] (Pr G [false] m_read_fault) := by
  have G_read_numbers := ok_read_numbers (P := P) (w := w) (base := base) T tbs
  exact T.c1.F_read_fault.okX sc_read_fault (Pr.len rfl) (fun cdv A outer s H vs Q E hr h => ⟨den G (fun _ => E) b_read_fault, (d_cons (d_if (PW.pt (pw_or (pt_cmpR (op_neDK (K := G.K) rfl hr.units) (pe_callB (call_lenK (K := G.K) rfl) (by rfl) T.c2.z_len (by decide +kernel) (pa_cons (pv 0) pa_nil)) pe_int (nomark _)) (pw_or1 (pt_cmpR (op_notInK (K := G.K) rfl hr.units65) (pe_ix (ix_seqK (K := G.K) rfl) (pv 0) pe_int (fun _ _ => rfl)) (pe_glob (v := .ref (G.kt 18)) (by rfl) T.c3.k_KINDS_OF_PARTS rfl) (by rfl))))) (pss_one (ps_ret pe_non)) pss_nil)
      (d_cons (ps_set (i := 1) sc_read_fault.nd (by rfl) (by first | exact Or.inl rfl | exact Or.inr rfl) (pe_cCall G_read_numbers (hr.mono (by first | decide | omega | (simp only [Nat.add_eq, Nat.mul_eq]; omega))) (by rfl) T.c0.g_read_numbers T.c0.F_read_numbers.kp T.c0.b_read_numbers (fun σ => passAt (takes_of rfl rfl rfl rfl) σ) (pa_cons (pe_slice (sl_anyK (K := G.K) rfl) (pv 0) (po_some pe_int) po_none) pa_nil)))
      (d_cons (d_if (PW.pt (pw_or (pt_cmpR Ci.op_isN1 (pv 1) pe_non (nomark _)) (pw_or1 (pt_cmpR (op_notInK (K := G.K) rfl hr.units65) (pe_ix (ix_seqK (K := G.K) rfl) (pv 1) pe_int (fun _ _ => rfl)) (pe_tup (pa_cons pe_int (pa_cons pe_int pa_nil))) (by rfl))))) (pss_one (ps_ret pe_non)) pss_nil)
      (pss_one (ps_ret (pe_tup (pa_cons (pe_tup (pa_cons (pe_ix (ix_seqK (K := G.K) rfl) (pv 0) pe_int (fun _ _ => rfl)) (pa_cons (pe_ix (ix_seqK (K := G.K) rfl) (pv 1) pe_int (fun _ _ => rfl)) (pa_cons (pe_ix (ix_seqK (K := G.K) rfl) (pv 1) pe_int (fun _ _ => rfl)) pa_nil)))) (pa_cons (pe_ix (ix_seqK (K := G.K) rfl) (pv 1) pe_int (fun _ _ => rfl)) pa_nil)))))))), body (N := ["words", "numbers"]) (wf_read_fault T) h⟩)
theorem wf__read_fault_of_play (T : Txt G mg w) : Wf G b__read_fault_of_play := by
  delta b__read_fault_of_play 
  walk_at "wf_form"
theorem ok__read_fault_of_play (T : Txt G mg w) (tbs : Tbs T base) : FnOk P w G.K mg base (L2.CX P w) 4 T.c1.a__read_fault_of_play T.c1.d__read_fault_of_play ["words"] (Pr G [false] m__read_fault_of_play) := by
  have G_read_fault := ok_read_fault (P := P) (w := w) (base := base) T tbs
  exact T.c1.F__read_fault_of_play.okX sc__read_fault_of_play (Pr.len rfl) (fun cdv A outer s H vs Q E hr h => ⟨den G (fun _ => E) b__read_fault_of_play, (d_cons (d_if (PW.pt (pw_and (pt_cmpR (op_eqDK (K := G.K) rfl hr.units) (pe_slice (sl_anyK (K := G.K) rfl) (pv 0) po_none (po_some pe_int)) (pe_lst (pa_cons pe_str pa_nil)) (nomark _)) (pw_and1 (pt_cmpR (op_neDK (K := G.K) rfl hr.units) (pe_slice (sl_anyK (K := G.K) rfl) (pv 0) (po_some pe_int) (po_some pe_int)) (pe_lst (pa_cons pe_str pa_nil)) (nomark _))))) (pss_one (ps_ret pe_non)) pss_nil)
      (pss_one (ps_ret (pe_cCall G_read_fault (hr.mono (by first | decide | omega | (simp only [Nat.add_eq, Nat.mul_eq]; omega))) (by rfl) T.c1.g_read_fault T.c1.F_read_fault.kp T.c1.b_read_fault (fun σ => passAt (takes_of rfl rfl rfl rfl) σ) (pa_cons (pv 0) pa_nil))))), body (N := ["words"]) (wf__read_fault_of_play T) h⟩)
theorem wf_read_scan (T : Txt G mg w) : Wf G b_read_scan := by
  delta b_read_scan e_read_scan_1 e_read_scan_2 
  walk_at "wf_form"
theorem ok_read_scan (T : Txt G mg w) (tbs : Tbs T base) : FnOk P w G.K mg base (L2.CX P w) 5 T.c1.a_read_scan T.c1.d_read_scan ["line", "trains"] (Pr G [false, false] m_read_scan) := by
  have G__words_before := ok__words_before (P := P) (w := w) (base := base) T tbs
  have G_read_numbers := ok_read_numbers (P := P) (w := w) (base := base) T tbs
  have G__read_fault_of_play := ok__read_fault_of_play (P := P) (w := w) (base := base) T tbs
  have G_written_scan := ok_written_scan (P := P) (w := w) (base := base) T tbs
  exact T.c1.F_read_scan.okX sc_read_scan (Pr.len rfl) (fun cdv A outer s H vs Q E hr h => ⟨den G (fun _ => E) b_read_scan, (d_cons (ps_set (i := 2) sc_read_scan.nd (by rfl) (by first | exact Or.inl rfl | exact Or.inr rfl) (pe_split (pv 0) pe_str))
      (d_cons (ps_set (i := 3) sc_read_scan.nd (by rfl) (by first | exact Or.inl rfl | exact Or.inr rfl) (pe_cCall G__words_before (hr.mono (by first | decide | omega | (simp only [Nat.add_eq, Nat.mul_eq]; omega))) (by rfl) T.c1.g__words_before T.c1.F__words_before.kp T.c1.b__words_before (fun σ => passAt (takes_of rfl rfl rfl rfl) σ) (pa_cons pe_str (pa_cons (pv 2) pa_nil))))
      (d_cons (ps_set (i := 4) sc_read_scan.nd (by rfl) (by first | exact Or.inl rfl | exact Or.inr rfl) (pe_cCall G__words_before (hr.mono (by first | decide | omega | (simp only [Nat.add_eq, Nat.mul_eq]; omega))) (by rfl) T.c1.g__words_before T.c1.F__words_before.kp T.c1.b__words_before (fun σ => passAt (takes_of rfl rfl rfl rfl) σ) (pa_cons pe_str (pa_cons (pv 3) pa_nil))))
      (d_cons (ps_set (i := 5) sc_read_scan.nd (by rfl) (by first | exact Or.inl rfl | exact Or.inr rfl) (pe_callTy (call_tupK (K := G.K) rfl) (by rfl) T.c2.z_tuple (by decide +kernel) (pa_cons (pe_lc (own := [("button", 6)]) (by rfl) sc_read_scan.nd (pi_seqK (K := G.K) rfl (pe_glob (v := .ref (G.kt 8)) (by rfl) T.c2.k_BUTTONS rfl)) (blkOk_by (own := [("button", 6)]) (N := ["line", "trains", "words", "before_fault", "before_late", "buttons", "button", "numbers", "late", "train", "scan"]) (sc := defScope s_read_scan) (by decide +kernel)) (fun _ _ _ _ _ => (pg_name (i := 6) sc_read_scan.nd (by rfl) (by first | exact Or.inl rfl | exact Or.inr rfl))) (fun _ _ _ _ _ => pts_nil) (fun _ _ _ _ _ => (pe_ifExp (pt_cmpR (op_inK (K := G.K) rfl hr.units65) (pv 6) (pv 4) (by rfl)) pe_int pe_int))) pa_nil)))
      (d_cons (ps_set (i := 7) sc_read_scan.nd (by rfl) (by first | exact Or.inl rfl | exact Or.inr rfl) (pe_cCall G_read_numbers (hr.mono (by first | decide | omega | (simp only [Nat.add_eq, Nat.mul_eq]; omega))) (by rfl) T.c0.g_read_numbers T.c0.F_read_numbers.kp T.c0.b_read_numbers (fun σ => passAt (takes_of rfl rfl rfl rfl) σ) (pa_cons (pe_slice (sl_anyK (K := G.K) rfl) (pv 3) (po_some (pe_op (op_plusK (K := G.K) rfl) (pe_callB (call_lenK (K := G.K) rfl) (by rfl) T.c2.z_len (by decide +kernel) (pa_cons (pv 4) pa_nil)) pe_int)) po_none) pa_nil)))
      (d_cons (ps_set (i := 8) sc_read_scan.nd (by rfl) (by first | exact Or.inl rfl | exact Or.inr rfl) (pe_callTy (call_tupK (K := G.K) rfl) (by rfl) T.c2.z_tuple (by decide +kernel) (pa_cons (pe_lc (own := [("train", 9)]) (by rfl) sc_read_scan.nd (pi_range1 (by rfl) T.c2.z_range (pa_cons (pv 1) pa_nil)) (blkOk_by (own := [("train", 9)]) (N := ["line", "trains", "words", "before_fault", "before_late", "buttons", "button", "numbers", "late", "train", "scan"]) (sc := defScope s_read_scan) (by decide +kernel)) (fun _ _ _ _ _ => (pg_name (i := 9) sc_read_scan.nd (by rfl) (by first | exact Or.inl rfl | exact Or.inr rfl))) (fun _ _ _ _ _ => pts_nil) (fun _ _ _ _ _ => (pe_ifExp (PW.pt (pw_and (pt_truK (K := G.K) rfl (pv 7)) (pw_and1 (pt_cmpR (op_inK (K := G.K) rfl hr.units65) (pv 9) (pv 7) (by rfl))))) pe_int pe_int))) pa_nil)))
      (d_cons (ps_set (i := 10) sc_read_scan.nd (by rfl) (by first | exact Or.inl rfl | exact Or.inr rfl) (pe_tup (pa_cons (pv 5) (pa_cons (pv 8) (pa_cons (pe_cCall G__read_fault_of_play (hr.mono (by first | decide | omega | (simp only [Nat.add_eq, Nat.mul_eq]; omega))) (by rfl) T.c1.g__read_fault_of_play T.c1.F__read_fault_of_play.kp T.c1.b__read_fault_of_play (fun σ => passAt (takes_of rfl rfl rfl rfl) σ) (pa_cons (pe_slice (sl_anyK (K := G.K) rfl) (pv 2) (po_some (pe_op (op_plusK (K := G.K) rfl) (pe_callB (call_lenK (K := G.K) rfl) (by rfl) T.c2.z_len (by decide +kernel) (pa_cons (pv 3) pa_nil)) pe_int)) po_none) pa_nil)) pa_nil)))))
      (d_cons (d_if (pt_cmpR (op_neDK (K := G.K) rfl hr.units) (pe_cCall G_written_scan (hr.mono (by first | decide | omega | (simp only [Nat.add_eq, Nat.mul_eq]; omega))) (by rfl) T.c0.g_written_scan T.c0.F_written_scan.kp T.c0.b_written_scan (fun σ => passAt (takes_of rfl rfl rfl rfl) σ) (pa_cons (pv 10) pa_nil)) (pv 0) (nomark _)) (pss_one (ps_ret pe_non)) pss_nil)
      (pss_one (ps_ret (pv 10))))))))))), body (N := ["line", "trains", "words", "before_fault", "before_late", "buttons", "button", "numbers", "late", "train", "scan"]) (wf_read_scan T) h⟩)
theorem wfl_el_parse_play_1 (T : Txt G mg w) : Wf G el_parse_play_1 := by
  delta el_parse_play_1
  walk_at "wf_form"
theorem wf_parse_play (T : Txt G mg w) : Wf G b_parse_play := by
  delta b_parse_play 
  walk_at "wf_form"
theorem ok_parse_play (T : Txt G mg w) (tbs : Tbs T base) : FnOk P w G.K mg base (L2.CX P w) 8 T.c0.a_parse_play T.c0.d_parse_play ["text", "trains"] (Pr G [false, false] m_parse_play) := by
  have G_read_lines := ok_read_lines (P := P) (w := w) (base := base) T tbs
  have G_read_scan := ok_read_scan (P := P) (w := w) (base := base) T tbs
  exact T.c0.FC_parse_play.okX sc_parse_play (Pr.len rfl) (fun A outer s H vs Q E hr h => ⟨den G (fun _ => E) b_parse_play, (d_cons (d_if (pt_cmpR (op_eqDK (K := G.K) rfl hr.units) (pv 0) pe_str (nomark _)) (pss_one (ps_ret (pe_lst pa_nil))) pss_nil)
      (pss_one (ps_ret (pe_lamG2 (qX := ("parse_play.<locals>." : Str)) (sc := defScope s_parse_play) (js := [1]) (fr := ["trains"]) (qs := ["line"]) (φ := lamF 2 [false] el_parse_play_1) G_read_lines (hr.mono (by first | decide | omega | (simp only [Nat.add_eq, Nat.mul_eq]; omega))) (by rfl) T.c0.g_read_lines T.c0.F_read_lines.kp T.c0.b_read_lines (fun σ => passAt (takes_of rfl rfl rfl rfl) σ) (pe_split (pv 0) pe_str) pe_int T.c0.tb_parse_play rfl (by decide +kernel) tbs.parse_play rfl rfl rfl (by decide +kernel) (by decide +kernel) (by rfl) (fun f cl c2 cs => Ci.lok_mk (N := ["line", "trains"]) (fr := ["trains"]) (NdefX.nscope_by (by decide +kernel)) (fun pm ctv us hl => match us, hl with | [_], _ => rfl) (PrL.len rfl) (fun A outer s H vs ws Q E hr hw h => ⟨_, (pe_cCall G_read_scan (hr.mono (by first | decide | omega | (simp only [Nat.add_eq, Nat.mul_eq]; omega))) (by rfl) T.c1.g_read_scan T.c1.F_read_scan.kp T.c1.b_read_scan (fun σ => passAt (takes_of rfl rfl rfl rfl) σ) (pa_cons (pv 0) (pa_cons (pv 1) pa_nil))), lamBody (N := ["line", "trains"]) (wfl_el_parse_play_1 T) rfl h⟩)))))), body (N := ["text", "trains"]) (wf_parse_play T) h⟩)
theorem wf__law_cell (T : Txt G mg w) : Wf G b__law_cell := by
  delta b__law_cell 
  walk_at "wf_form"
theorem ok__law_cell (T : Txt G mg w) (tbs : Tbs T base) : FnOk P w G.K mg base (L2.CX P w) 1 T.c1.a__law_cell T.c1.d__law_cell ["script", "k"] (Pr G [false, false] m__law_cell) := by
  exact T.c1.F__law_cell.okX sc__law_cell (Pr.len rfl) (fun cdv A outer s H vs Q E hr h => ⟨den G (fun _ => E) b__law_cell, (d_cons (d_if (pt_cmpR op_lt (pv 1) (pe_callB (call_lenK (K := G.K) rfl) (by rfl) T.c2.z_len (by decide +kernel) (pa_cons (pv 0) pa_nil)) (nomark _)) (pss_one (ps_ret (pe_callB call_abs (by rfl) T.c2.z_abs (by decide +kernel) (pa_cons (pe_callTy call_intK (by rfl) T.c2.z_int (by decide +kernel) (pa_cons (pe_ix (ix_seqK (K := G.K) rfl) (pv 0) (pv 1) (fun _ _ => rfl)) pa_nil)) pa_nil)))) pss_nil)
      (pss_one (ps_ret pe_int))), body (N := ["script", "k"]) (wf__law_cell T) h⟩)
theorem wf__law_draws (T : Txt G mg w) : Wf G b__law_draws := by
  delta b__law_draws l__law_draws_1 
  walk_at "wf_form"
theorem ok__law_draws (T : Txt G mg w) (tbs : Tbs T base) : FnOk P w G.K mg base (L2.CX P w) 1 T.c1.a__law_draws T.c1.d__law_draws ["cell", "count"] (Pr G [false, false] m__law_draws) := by
  exact T.c1.F__law_draws.okX sc__law_draws (Pr.len rfl) (fun cdv A outer s H vs Q E hr h => ⟨den G (fun _ => E) b__law_draws, (d_cons (ps_set (i := 2) sc__law_draws.nd (by rfl) (by first | exact Or.inl rfl | exact Or.inr rfl) (pe_lst pa_nil))
      (d_cons (ps_set (i := 3) sc__law_draws.nd (by rfl) (by first | exact Or.inl rfl | exact Or.inr rfl) (pv 0))
      (d_cons (d_for (passes_of rfl) rfl (pi_range1 (by rfl) T.c2.z_range (pa_cons (pv 1) pa_nil)) (pg_name (i := 4) sc__law_draws.nd (by rfl) (by first | exact Or.inl rfl | exact Or.inr rfl)) (pss_one (d_if (PW.pt (pw_and (pt_cmpR op_ge (pv 0) (pe_op op_pow pe_int pe_int) (nomark _)) (pw_and1 (pt_cmpR op_gt (pv 3) pe_int (nomark _))))) (d_cons (ps_expr (pe_bm PySem.F.plainAttrs_list PySem.F.slot_list_append PySem.F.type_list_append mt_append (pv 2) (pa_cons (pe_op op_mod (pe_callTy call_intK (by rfl) T.c2.z_int (by decide +kernel) (pa_cons (pv 3) pa_nil)) pe_int) pa_nil)))
      (pss_one (ps_set (i := 3) sc__law_draws.nd (by rfl) (by first | exact Or.inl rfl | exact Or.inr rfl) (pe_op op_fdivW (pv 3) pe_int)))) (d_cons (ps_set (i := 5) sc__law_draws.nd (by rfl) (by first | exact Or.inl rfl | exact Or.inr rfl) (pe_op op_mod (pe_callTy call_intK (by rfl) T.c2.z_int (by decide +kernel) (pa_cons (pe_op (op_plusK (K := G.K) rfl) (pe_op (op_timesK (K := G.K) rfl) (pv 0) pe_int) (pe_op (op_timesK (K := G.K) rfl) (pe_op (op_plusK (K := G.K) rfl) (pv 4) pe_int) pe_int)) pa_nil)) pe_int))
      (d_cons (ps_set (i := 5) sc__law_draws.nd (by rfl) (by first | exact Or.inl rfl | exact Or.inr rfl) (pe_op op_mod (pe_callTy call_intK (by rfl) T.c2.z_int (by decide +kernel) (pa_cons (pe_op (op_plusK (K := G.K) rfl) (pe_op (op_plusK (K := G.K) rfl) (pe_op (op_timesK (K := G.K) rfl) (pv 5) (pv 5)) (pe_op (op_timesK (K := G.K) rfl) (pv 5) pe_int)) (pe_op (op_timesK (K := G.K) rfl) (pv 4) pe_int)) pa_nil)) pe_int))
      (d_cons (ps_set (i := 5) sc__law_draws.nd (by rfl) (by first | exact Or.inl rfl | exact Or.inr rfl) (pe_op op_mod (pe_callTy call_intK (by rfl) T.c2.z_int (by decide +kernel) (pa_cons (pe_op (op_plusK (K := G.K) rfl) (pe_op (op_plusK (K := G.K) rfl) (pe_op (op_timesK (K := G.K) rfl) (pv 5) (pv 5)) (pv 0)) (pe_op (op_timesK (K := G.K) rfl) pe_int (pv 4))) pa_nil)) pe_int))
      (pss_one (ps_expr (pe_bm PySem.F.plainAttrs_list PySem.F.slot_list_append PySem.F.type_list_append mt_append (pv 2) (pa_cons (pe_op op_mod (pe_op op_fdivW (pv 5) pe_int) pe_int) pa_nil))))))))))
      (pss_one (ps_ret (pv 2)))))), body (N := ["cell", "count", "rows", "left", "k", "mixed"]) (wf__law_draws T) h⟩)
theorem wf__law_like {s_ : List D → R RV} (T : Txt G mg w) : Wf G (b__law_like s_) := by
  delta b__law_like e__law_like_1 
  walk_at "wf_form"
theorem okn__law_like (T : Txt G mg w) (tbs : Tbs T base) : ∀ n : Nat, FnOk P w G.K mg base (L2.CX P w) (1 + n) T.c1.a__law_like T.c1.d__law_like ["actual", "due"] (Pr G [false, false] (n__law_like n))
  | 0 => fn_none fun vs H Q E h => by
    obtain ⟨B, ds, e, a, q⟩ := h
    exact q.2
  | n + 1 => by
    have G__law_like := okn__law_like T tbs n
    exact T.c1.F__law_like.okX sc__law_like (Pr.len rfl) (fun cdv A outer s H vs Q E hr h => ⟨_, (pss_cons (ps_if (pt_cmpR Ci.op_isN1 (pv 1) pe_non (nomark _)) (pss_one (ps_ret (pe_cmpR Ci.op_isN1 (pv 0) pe_non (nomark _)))) pss_nil)
      (pss_cons (ps_if (pt_truK (K := G.K) rfl (pe_callB (call_isiX (K := G.K) rfl) (by rfl) T.c2.z_isinstance (by decide +kernel) (pa_cons (pv 1) (pa_cons (pe_bltn (v := .ty "bool") (by rfl) T.c2.z_bool (by decide +kernel) rfl) pa_nil)))) (pss_one (ps_ret (pe_and (pe_callB (call_isiX (K := G.K) rfl) (by rfl) T.c2.z_isinstance (by decide +kernel) (pa_cons (pv 0) (pa_cons (pe_bltn (v := .ty "bool") (by rfl) T.c2.z_bool (by decide +kernel) rfl) pa_nil))) (pe_one (pe_cmpR (op_eqDK (K := G.K) rfl hr.units) (pv 0) (pv 1) (nomark _)))))) pss_nil)
      (pss_cons (ps_if (pt_truK (K := G.K) rfl (pe_callB (call_isiX (K := G.K) rfl) (by rfl) T.c2.z_isinstance (by decide +kernel) (pa_cons (pv 1) (pa_cons (pe_bltn (v := .ty "str") (by rfl) T.c2.z_str (by decide +kernel) rfl) pa_nil)))) (pss_one (ps_ret (pe_and (pe_callB (call_isiX (K := G.K) rfl) (by rfl) T.c2.z_isinstance (by decide +kernel) (pa_cons (pv 0) (pa_cons (pe_bltn (v := .ty "str") (by rfl) T.c2.z_str (by decide +kernel) rfl) pa_nil))) (pe_one (pe_cmpR (op_eqDK (K := G.K) rfl hr.units) (pv 0) (pv 1) (nomark _)))))) pss_nil)
      (pss_cons (ps_if (pt_truK (K := G.K) rfl (pe_callB (call_isiX (K := G.K) rfl) (by rfl) T.c2.z_isinstance (by decide +kernel) (pa_cons (pv 1) (pa_cons (pe_bltn (v := .ty "int") (by rfl) T.c2.z_int (by decide +kernel) rfl) pa_nil)))) (pss_one (ps_ret (pe_and (pe_callB (call_isiX (K := G.K) rfl) (by rfl) T.c2.z_isinstance (by decide +kernel) (pa_cons (pv 0) (pa_cons (pe_bltn (v := .ty "int") (by rfl) T.c2.z_int (by decide +kernel) rfl) pa_nil))) (pe_and (pe_not (pe_callB (call_isiX (K := G.K) rfl) (by rfl) T.c2.z_isinstance (by decide +kernel) (pa_cons (pv 0) (pa_cons (pe_bltn (v := .ty "bool") (by rfl) T.c2.z_bool (by decide +kernel) rfl) pa_nil)))) (pe_one (pe_cmpR (op_eqDK (K := G.K) rfl hr.units) (pv 0) (pv 1) (nomark _))))))) pss_nil)
      (pss_cons (ps_if (PW.pt (pw_or (pt_cmpR (op_neDK (K := G.K) rfl hr.units) (pe_callB (call_isiX (K := G.K) rfl) (by rfl) T.c2.z_isinstance (by decide +kernel) (pa_cons (pv 1) (pa_cons (pe_bltn (v := .ty "list") (by rfl) T.c2.z_list (by decide +kernel) rfl) pa_nil))) (pe_callB (call_isiX (K := G.K) rfl) (by rfl) T.c2.z_isinstance (by decide +kernel) (pa_cons (pv 0) (pa_cons (pe_bltn (v := .ty "list") (by rfl) T.c2.z_list (by decide +kernel) rfl) pa_nil))) (nomark _)) (pw_or1 (pt_cmpR (op_neDK (K := G.K) rfl hr.units) (pe_callB (call_isiX (K := G.K) rfl) (by rfl) T.c2.z_isinstance (by decide +kernel) (pa_cons (pv 1) (pa_cons (pe_bltn (v := .ty "tuple") (by rfl) T.c2.z_tuple (by decide +kernel) rfl) pa_nil))) (pe_callB (call_isiX (K := G.K) rfl) (by rfl) T.c2.z_isinstance (by decide +kernel) (pa_cons (pv 0) (pa_cons (pe_bltn (v := .ty "tuple") (by rfl) T.c2.z_tuple (by decide +kernel) rfl) pa_nil))) (nomark _))))) (pss_one (ps_ret pe_bl)) pss_nil)
      (pss_cons (ps_if (pt_cmpR (op_neDK (K := G.K) rfl hr.units) (pe_callB (call_lenK (K := G.K) rfl) (by rfl) T.c2.z_len (by decide +kernel) (pa_cons (pv 0) pa_nil)) (pe_callB (call_lenK (K := G.K) rfl) (by rfl) T.c2.z_len (by decide +kernel) (pa_cons (pv 1) pa_nil)) (nomark _)) (pss_one (ps_ret pe_bl)) pss_nil)
      (pss_one (ps_ret (pe_callB (cr_allK (K := G.K) rfl rfl) (by rfl) T.c2.z_all (by decide +kernel) (pa_cons (pe_lc (own := [("k", 2)]) (by rfl) sc__law_like.nd (pi_range1 (by rfl) T.c2.z_range (pa_cons (pe_callB (call_lenK (K := G.K) rfl) (by rfl) T.c2.z_len (by decide +kernel) (pa_cons (pv 1) pa_nil)) pa_nil)) (blkOk_by (own := [("k", 2)]) (N := ["actual", "due", "k"]) (sc := defScope s__law_like) (by decide +kernel)) (fun _ _ _ _ _ => (pg_name (i := 2) sc__law_like.nd (by rfl) (by first | exact Or.inl rfl | exact Or.inr rfl))) (fun _ _ _ _ _ => pts_nil) (fun _ _ _ _ _ => (pe_cCall G__law_like (hr.mono (by first | decide | omega | (simp only [Nat.add_eq, Nat.mul_eq]; omega))) (by rfl) T.c1.g__law_like T.c1.F__law_like.kp T.c1.b__law_like passLc (pa_cons (pe_ix (ix_seqK (K := G.K) rfl) (pv 0) (pv 2) (fun _ _ => rfl)) (pa_cons (pe_ix (ix_seqK (K := G.K) rfl) (pv 1) (pv 2) (fun _ _ => rfl)) pa_nil))))) pa_nil)))))))))), body (N := ["actual", "due", "k"]) (wf__law_like T) h⟩)
theorem ok__law_like (T : Txt G mg w) (tbs : Tbs T base) : FnOk P w G.K mg base (L2.CX P w) 13 T.c1.a__law_like T.c1.d__law_like ["actual", "due"] (Pr G [false, false] m__law_like) := okn__law_like T tbs 12
theorem wf__law_told (T : Txt G mg w) : Wf G b__law_told := by
  delta b__law_told 
  walk_at "wf_form"
theorem ok__law_told (T : Txt G mg w) (tbs : Tbs T base) : FnOk P w G.K mg base (L2.CX P w) 9 T.c1.a__law_told T.c1.d__law_told ["text", "trains"] (Pr G [false, false] m__law_told) := by
  have G_parse_play := ok_parse_play (P := P) (w := w) (base := base) T tbs
  exact T.c1.F__law_told.okX sc__law_told (Pr.len rfl) (fun cdv A outer s H vs Q E hr h => ⟨den G (fun _ => E) b__law_told, (pss_one (ps_tryAE (i := 2) (K := G.K) rfl rfl rfl sc__law_told.nd rfl rfl ⟨rfl, by decide, .inl T.c2.g_CoasterError⟩ (takes_of rfl rfl rfl rfl) (fun W pn xe tk _ => (pss_one (ps_ret (pe_cCall G_parse_play (hr.mono (by first | decide | omega | (simp only [Nat.add_eq, Nat.mul_eq]; omega))) (by rfl) T.c0.g_parse_play T.c0.F_parse_play.kp T.c0.b_parse_play (fun σ => passAt tk σ) (pa_cons (pv 0) (pa_cons (pv 1) pa_nil)))))) (fun a oe cls d pn hz hf => (pss_hif (pt_wself (pe_callB (call_isX (K := G.K) rfl T.c2.xi_InvalidText hz hf) (by rfl) T.c2.z_isinstance (by decide +kernel) (pa_cons (pv 2) (pa_cons (pe_glob (v := .ref (G.ca 6)) (by rfl) T.c2.g_InvalidText rfl) pa_nil)))) (pss_one (ps_ret (pe_xf T.c2.xf_InvalidText T.c2.nf_InvalidText hz hf (pv 2)))) (pss_one (ps_ret (pe_un (r := rU fun i => .int (-i)) un_neg pe_int))))))), body (N := ["text", "trains", "e"]) (wf__law_told T) h⟩)
theorem wf_law (T : Txt G mg w) : Wf G b_law := by
  delta b_law e_law_1 l_law_1 t_law_1 e_law_2 l_law_2 c_law_1 c_law_2 c_law_3 
  walk_at "wf_form"
theorem ok_law (T : Txt G mg w) (tbs : Tbs T base) : FnOk P w G.K mg base (L2.CX P w) 14 T.c2.a_law T.c2.d_law ["script"] (Pr G [false] m_law) := by
  have G__law_draws := ok__law_draws (P := P) (w := w) (base := base) T tbs
  have G__law_cell := ok__law_cell (P := P) (w := w) (base := base) T tbs
  have G__law_like := ok__law_like (P := P) (w := w) (base := base) T tbs
  have G__law_told := ok__law_told (P := P) (w := w) (base := base) T tbs
  have G_format_play := ok_format_play (P := P) (w := w) (base := base) T tbs
  exact T.c2.F_law.okX sc_law (Pr.len rfl) (fun cdv A outer s H vs Q E hr h => ⟨den G (fun _ => E) b_law, (d_cons (ps_set (i := 1) sc_law.nd (by rfl) (by first | exact Or.inl rfl | exact Or.inr rfl) (pe_cCall G__law_draws (hr.mono (by first | decide | omega | (simp only [Nat.add_eq, Nat.mul_eq]; omega))) (by rfl) T.c1.g__law_draws T.c1.F__law_draws.kp T.c1.b__law_draws (fun σ => passAt (takes_of rfl rfl rfl rfl) σ) (pa_cons (pe_cCall G__law_cell (hr.mono (by first | decide | omega | (simp only [Nat.add_eq, Nat.mul_eq]; omega))) (by rfl) T.c1.g__law_cell T.c1.F__law_cell.kp T.c1.b__law_cell (fun σ => passAt (takes_of rfl rfl rfl rfl) σ) (pa_cons (pv 0) (pa_cons pe_int pa_nil))) (pa_cons pe_int pa_nil))))
      (d_cons (ps_set (i := 2) sc_law.nd (by rfl) (by first | exact Or.inl rfl | exact Or.inr rfl) (pe_cCall G__law_draws (hr.mono (by first | decide | omega | (simp only [Nat.add_eq, Nat.mul_eq]; omega))) (by rfl) T.c1.g__law_draws T.c1.F__law_draws.kp T.c1.b__law_draws (fun σ => passAt (takes_of rfl rfl rfl rfl) σ) (pa_cons (pe_cCall G__law_cell (hr.mono (by first | decide | omega | (simp only [Nat.add_eq, Nat.mul_eq]; omega))) (by rfl) T.c1.g__law_cell T.c1.F__law_cell.kp T.c1.b__law_cell (fun σ => passAt (takes_of rfl rfl rfl rfl) σ) (pa_cons (pv 0) (pa_cons pe_int pa_nil))) (pa_cons pe_int pa_nil))))
      (d_cons (ps_set (i := 3) sc_law.nd (by rfl) (by first | exact Or.inl rfl | exact Or.inr rfl) (pe_op (op_plusK (K := G.K) rfl) pe_int (pe_op op_mod (pe_ix (ix_seqK (K := G.K) rfl) (pv 2) pe_int (fun _ _ => rfl)) pe_int)))
      (d_cons (ps_set (i := 4) sc_law.nd (by rfl) (by first | exact Or.inl rfl | exact Or.inr rfl) (pe_lst pa_nil))
      (d_cons (ps_set (i := 5) sc_law.nd (by rfl) (by first | exact Or.inl rfl | exact Or.inr rfl) (pe_lst pa_nil))
      (d_cons (d_for (passes_of rfl) rfl (pi_range1 (by rfl) T.c2.z_range (pa_cons (pe_op op_mod (pe_ix (ix_seqK (K := G.K) rfl) (pv 2) pe_int (fun _ _ => rfl)) pe_int) pa_nil)) (pg_name (i := 6) sc_law.nd (by rfl) (by first | exact Or.inl rfl | exact Or.inr rfl)) (d_cons (ps_set (i := 7) sc_law.nd (by rfl) (by first | exact Or.inl rfl | exact Or.inr rfl) (pe_ix (ix_seqK (K := G.K) rfl) (pv 1) (pv 6) (fun _ _ => rfl)))
      (d_cons (ps_set (i := 8) sc_law.nd (by rfl) (by first | exact Or.inl rfl | exact Or.inr rfl) (pe_tup (pa_cons (pe_op op_mod (pv 7) pe_int) (pa_cons (pe_op op_mod (pe_op op_fdivW (pv 7) pe_int) pe_int) (pa_cons (pe_op op_mod (pe_op op_fdivW (pv 7) pe_int) pe_int) pa_nil)))))
      (d_cons (ps_set (i := 9) sc_law.nd (by rfl) (by first | exact Or.inl rfl | exact Or.inr rfl) (pe_callTy (call_tupK (K := G.K) rfl) (by rfl) T.c2.z_tuple (by decide +kernel) (pa_cons (pe_lc (own := [("j", 10)]) (by rfl) sc_law.nd (pi_range1 (by rfl) T.c2.z_range (pa_cons (pv 3) pa_nil)) (blkOk_by (own := [("j", 10)]) (N := ["script", "draws", "more", "trains", "scans", "lines", "k", "draw", "buttons", "late", "j", "words", "fault", "kind", "block", "text", "bad", "at", "told"]) (sc := defScope s_law) (by decide +kernel)) (fun _ _ _ _ _ => (pg_name (i := 10) sc_law.nd (by rfl) (by first | exact Or.inl rfl | exact Or.inr rfl))) (fun _ _ _ _ _ => pts_nil) (fun _ _ _ _ _ => (pe_op op_mod (pe_op op_fdivW (pv 7) (pe_op op_shl pe_int (pv 10))) pe_int))) pa_nil)))
      (d_cons (ps_set (i := 11) sc_law.nd (by rfl) (by first | exact Or.inl rfl | exact Or.inr rfl) (pe_lst pa_nil))
      (d_cons (d_for (passes_of rfl) rfl (pi_range1 (by rfl) T.c2.z_range (pa_cons pe_int pa_nil)) (pg_name (i := 10) sc_law.nd (by rfl) (by first | exact Or.inl rfl | exact Or.inr rfl)) (pss_one (d_if (pt_cmpR (op_eqDK (K := G.K) rfl hr.units) (pe_ix (ix_seqK (K := G.K) rfl) (pv 8) (pv 10) (fun _ _ => rfl)) pe_int (nomark _)) (pss_one (ps_expr (pe_bm PySem.F.plainAttrs_list PySem.F.slot_list_append PySem.F.type_list_append mt_append (pv 11) (pa_cons (pe_ix (ix_seqK (K := G.K) rfl) (pe_lst (pa_cons pe_str (pa_cons pe_str (pa_cons pe_str pa_nil)))) (pv 10) (fun _ _ => rfl)) pa_nil)))) pss_nil)))
      (d_cons (d_if (pt_cmpR (op_inK (K := G.K) rfl hr.units65) pe_int (pv 9) (by rfl)) (pss_one (ps_set (i := 11) sc_law.nd (by rfl) (by first | exact Or.inl rfl | exact Or.inr rfl) (pe_op (op_plusK (K := G.K) rfl) (pe_op (op_plusK (K := G.K) rfl) (pv 11) (pe_lst (pa_cons pe_str pa_nil))) (pe_lc (own := [("j", 10)]) (by rfl) sc_law.nd (pi_range1 (by rfl) T.c2.z_range (pa_cons (pv 3) pa_nil)) (blkOk_by (own := [("j", 10)]) (N := ["script", "draws", "more", "trains", "scans", "lines", "k", "draw", "buttons", "late", "j", "words", "fault", "kind", "block", "text", "bad", "at", "told"]) (sc := defScope s_law) (by decide +kernel)) (fun _ _ _ _ _ => (pg_name (i := 10) sc_law.nd (by rfl) (by first | exact Or.inl rfl | exact Or.inr rfl))) (fun _ _ _ _ _ => (pts_one (pt_cmpR (op_eqDK (K := G.K) rfl hr.units) (pe_ix (ix_seqK (K := G.K) rfl) (pv 9) (pv 10) (fun _ _ => rfl)) pe_int (nomark _)))) (fun _ _ _ _ _ => (pe_callTy call_str_int (by rfl) T.c2.z_str (by decide +kernel) (pa_cons (pv 10) pa_nil))))))) pss_nil)
      (d_cons (ps_set (i := 12) sc_law.nd (by rfl) (by first | exact Or.inl rfl | exact Or.inr rfl) pe_non)
      (d_cons (d_if (pt_cmpR (op_eqDK (K := G.K) rfl hr.units) (pe_op op_mod (pe_ix (ix_seqK (K := G.K) rfl) (pv 1) (pe_op (op_plusK (K := G.K) rfl) pe_int (pv 6)) (fun _ _ => rfl)) pe_int) pe_int (nomark _)) (d_cons (ps_set (i := 13) sc_law.nd (by rfl) (by first | exact Or.inl rfl | exact Or.inr rfl) (pe_ix (ix_seqK (K := G.K) rfl) (pe_lst (pa_cons pe_str (pa_cons pe_str (pa_cons pe_str pa_nil)))) (pe_op op_mod (pe_op op_fdivW (pe_ix (ix_seqK (K := G.K) rfl) (pv 1) (pe_op (op_plusK (K := G.K) rfl) pe_int (pv 6)) (fun _ _ => rfl)) pe_int) pe_int) (fun _ _ => rfl)))
      (d_cons (ps_set (i := 14) sc_law.nd (by rfl) (by first | exact Or.inl rfl | exact Or.inr rfl) (pe_op (op_timesK (K := G.K) rfl) (pe_op op_mod (pe_op op_fdivW (pe_ix (ix_seqK (K := G.K) rfl) (pv 1) (pe_op (op_plusK (K := G.K) rfl) pe_int (pv 6)) (fun _ _ => rfl)) pe_int) pe_int) (pe_callTy call_intK (by rfl) T.c2.z_int (by decide +kernel) (pa_cons (pe_cmpR (op_neDK (K := G.K) rfl hr.units) (pv 13) pe_str (nomark _)) pa_nil))))
      (d_cons (ps_set (i := 12) sc_law.nd (by rfl) (by first | exact Or.inl rfl | exact Or.inr rfl) (pe_tup (pa_cons (pe_tup (pa_cons (pv 13) (pa_cons (pv 14) (pa_cons (pe_op op_mod (pe_ix (ix_seqK (K := G.K) rfl) (pv 1) (pe_op (op_plusK (K := G.K) rfl) pe_int (pv 6)) (fun _ _ => rfl)) pe_int) pa_nil)))) (pa_cons (pe_op op_mod (pe_op op_fdivW (pe_ix (ix_seqK (K := G.K) rfl) (pv 1) (pe_op (op_plusK (K := G.K) rfl) pe_int (pv 6)) (fun _ _ => rfl)) pe_int) pe_int) pa_nil))))
      (pss_one (ps_set (i := 11) sc_law.nd (by rfl) (by first | exact Or.inl rfl | exact Or.inr rfl) (pe_op (op_plusK (K := G.K) rfl) (pv 11) (pe_lst (pa_cons pe_str (pa_cons (pv 13) (pa_cons (pe_callTy call_str_int (by rfl) T.c2.z_str (by decide +kernel) (pa_cons (pv 14) pa_nil)) (pa_cons (pe_callTy call_str_int (by rfl) T.c2.z_str (by decide +kernel) (pa_cons (pe_ix (ix_seqK (K := G.K) rfl) (pe_ix (ix_seqK (K := G.K) rfl) (pv 12) pe_int (fun _ _ => rfl)) pe_int (fun _ _ => rfl)) pa_nil)) (pa_cons (pe_callTy call_str_int (by rfl) T.c2.z_str (by decide +kernel) (pa_cons (pe_ix (ix_seqK (K := G.K) rfl) (pv 12) pe_int (fun _ _ => rfl)) pa_nil)) pa_nil)))))))))))) pss_nil)
      (d_cons (ps_expr (pe_bm PySem.F.plainAttrs_list PySem.F.slot_list_append PySem.F.type_list_append mt_append (pv 4) (pa_cons (pe_tup (pa_cons (pv 8) (pa_cons (pv 9) (pa_cons (pv 12) pa_nil)))) pa_nil)))
      (pss_one (ps_expr (pe_bm PySem.F.plainAttrs_list PySem.F.slot_list_append PySem.F.type_list_append mt_append (pv 5) (pa_cons (pe_ix (ix_seqK (K := G.K) rfl) (pe_lst (pa_cons (pe_joinK (K := G.K) rfl pe_str (pv 11)) (pa_cons pe_str pa_nil))) (pe_callTy call_intK (by rfl) T.c2.z_int (by decide +kernel) (pa_cons (pe_cmpR (op_eqDK (K := G.K) rfl hr.units) (pe_callB (call_lenK (K := G.K) rfl) (by rfl) T.c2.z_len (by decide +kernel) (pa_cons (pv 11) pa_nil)) pe_int (nomark _)) pa_nil)) (fun _ _ => rfl)) pa_nil))))))))))))))
      (d_cons (ps_set (i := 15) sc_law.nd (by rfl) (by first | exact Or.inl rfl | exact Or.inr rfl) (pe_joinK (K := G.K) rfl pe_str (pv 5)))
      (d_frz (d_cons (d_if (PW.pt (pw_or (pt_not (pt_truK (K := G.K) rfl (pe_cCall G__law_like (hr.mono (by first | decide | omega | (simp only [Nat.add_eq, Nat.mul_eq]; omega))) (by rfl) T.c1.g__law_like T.c1.F__law_like.kp T.c1.b__law_like (fun σ => passAt (takes_of rfl rfl rfl rfl) σ) (pa_cons (pe_cCall G_format_play (hr.mono (by first | decide | omega | (simp only [Nat.add_eq, Nat.mul_eq]; omega))) (by rfl) T.c0.g_format_play T.c0.F_format_play.kp T.c0.b_format_play (fun σ => passAt (takes_of rfl rfl rfl rfl) σ) (pa_cons (pe_callTy (call_listK (K := G.K) rfl) (by rfl) T.c2.z_list (by decide +kernel) (pa_cons (pv 4) pa_nil)) pa_nil)) (pa_cons (pv 15) pa_nil))))) (pw_or1 (pt_not (pt_truK (K := G.K) rfl (pe_cCall G__law_like (hr.mono (by first | decide | omega | (simp only [Nat.add_eq, Nat.mul_eq]; omega))) (by rfl) T.c1.g__law_like T.c1.F__law_like.kp T.c1.b__law_like (fun σ => passAt (takes_of rfl rfl rfl rfl) σ) (pa_cons (pe_cCall G__law_told (hr.mono (by first | decide | omega | (simp only [Nat.add_eq, Nat.mul_eq]; omega))) (by rfl) T.c1.g__law_told T.c1.F__law_told.kp T.c1.b__law_told (fun σ => passAt (takes_of rfl rfl rfl rfl) σ) (pa_cons (pv 15) (pa_cons (pv 3) pa_nil))) (pa_cons (pv 4) pa_nil)))))))) (pss_one (ps_ret pe_bl)) pss_nil)
      (d_cons (d_if (pt_not (pt_truK (K := G.K) rfl (pe_cCall G__law_like (hr.mono (by first | decide | omega | (simp only [Nat.add_eq, Nat.mul_eq]; omega))) (by rfl) T.c1.g__law_like T.c1.F__law_like.kp T.c1.b__law_like (fun σ => passAt (takes_of rfl rfl rfl rfl) σ) (pa_cons (pe_cCall G__law_told (hr.mono (by first | decide | omega | (simp only [Nat.add_eq, Nat.mul_eq]; omega))) (by rfl) T.c1.g__law_told T.c1.F__law_told.kp T.c1.b__law_told (fun σ => passAt (takes_of rfl rfl rfl rfl) σ) (pa_cons pe_str (pa_cons (pv 3) pa_nil))) (pa_cons (pe_lst pa_nil) pa_nil))))) (pss_one (ps_ret pe_bl)) pss_nil)
      (d_cons (ps_set (i := 16) sc_law.nd (by rfl) (by first | exact Or.inl rfl | exact Or.inr rfl) (pe_lst (pa_cons pe_str (pa_cons pe_str (pa_cons pe_str (pa_cons (pe_op (op_plusK (K := G.K) rfl) pe_str (pe_callTy call_str_int (by rfl) T.c2.z_str (by decide +kernel) (pa_cons (pv 3) pa_nil))) (pa_cons pe_str (pa_cons pe_str (pa_cons pe_str (pa_cons pe_str (pa_cons pe_str (pa_cons pe_str (pa_cons pe_str pa_nil)))))))))))))
      (d_cons (ps_set (i := 16) sc_law.nd (by rfl) (by first | exact Or.inl rfl | exact Or.inr rfl) (pe_op (op_plusK (K := G.K) rfl) (pv 16) (pe_lst (pa_cons pe_str (pa_cons pe_str (pa_cons pe_str (pa_cons pe_str (pa_cons pe_str (pa_cons pe_str (pa_cons pe_str (pa_cons pe_str (pa_cons pe_str (pa_cons pe_str (pa_cons pe_str pa_nil))))))))))))))
      (d_cons (ps_set (i := 16) sc_law.nd (by rfl) (by first | exact Or.inl rfl | exact Or.inr rfl) (pe_op (op_plusK (K := G.K) rfl) (pv 16) (pe_lst (pa_cons pe_str (pa_cons pe_str (pa_cons pe_str (pa_cons pe_str pa_nil)))))))
      (d_cons (d_if (pt_cmpR op_gt (pv 3) pe_int (nomark _)) (pss_one (ps_expr (pe_bm PySem.F.plainAttrs_list PySem.F.slot_list_append PySem.F.type_list_append mt_append (pv 16) (pa_cons pe_str pa_nil)))) pss_nil)
      (d_cons (ps_set (i := 17) sc_law.nd (by rfl) (by first | exact Or.inl rfl | exact Or.inr rfl) (pe_op op_mod (pe_ix (ix_seqK (K := G.K) rfl) (pv 2) pe_int (fun _ _ => rfl)) (pe_op (op_plusK (K := G.K) rfl) (pe_callB (call_lenK (K := G.K) rfl) (by rfl) T.c2.z_len (by decide +kernel) (pa_cons (pv 5) pa_nil)) pe_int)))
      (d_cons (ps_set (i := 18) sc_law.nd (by rfl) (by first | exact Or.inl rfl | exact Or.inr rfl) (pe_cCall G__law_told (hr.mono (by first | decide | omega | (simp only [Nat.add_eq, Nat.mul_eq]; omega))) (by rfl) T.c1.g__law_told T.c1.F__law_told.kp T.c1.b__law_told (fun σ => passAt (takes_of rfl rfl rfl rfl) σ) (pa_cons (pe_joinK (K := G.K) rfl pe_str (pe_op (op_plusK (K := G.K) rfl) (pe_op (op_plusK (K := G.K) rfl) (pe_op (op_plusK (K := G.K) rfl) (pe_slice (sl_anyK (K := G.K) rfl) (pv 5) po_none (po_some (pv 17))) (pe_lst (pa_cons (pe_ix (ix_seqK (K := G.K) rfl) (pv 16) (pe_op op_mod (pe_ix (ix_seqK (K := G.K) rfl) (pv 2) pe_int (fun _ _ => rfl)) (pe_callB (call_lenK (K := G.K) rfl) (by rfl) T.c2.z_len (by decide +kernel) (pa_cons (pv 16) pa_nil))) (fun _ _ => rfl)) pa_nil))) (pe_slice (sl_anyK (K := G.K) rfl) (pv 5) (po_some (pv 17)) po_none)) (pe_lst (pa_cons pe_str pa_nil)))) (pa_cons (pv 3) pa_nil))))
      (d_cons (d_if (PW.pt (pw_or (pt_truK (K := G.K) rfl (pe_callB (call_isiX (K := G.K) rfl) (by rfl) T.c2.z_isinstance (by decide +kernel) (pa_cons (pv 18) (pa_cons (pe_bltn (v := .ty "list") (by rfl) T.c2.z_list (by decide +kernel) rfl) pa_nil)))) (pw_or1 (pt_cmpR (op_neDK (K := G.K) rfl hr.units) (pv 18) (pe_op (op_plusK (K := G.K) rfl) (pv 17) pe_int) (nomark _))))) (pss_one (ps_ret pe_bl)) pss_nil)
      (d_cons (ps_set (i := 18) sc_law.nd (by rfl) (by first | exact Or.inl rfl | exact Or.inr rfl) (pe_cCall G__law_told (hr.mono (by first | decide | omega | (simp only [Nat.add_eq, Nat.mul_eq]; omega))) (by rfl) T.c1.g__law_told T.c1.F__law_told.kp T.c1.b__law_told (fun σ => passAt (takes_of rfl rfl rfl rfl) σ) (pa_cons (pe_op (op_plusK (K := G.K) rfl) (pv 15) pe_str) (pa_cons (pv 3) pa_nil))))
      (pss_one (ps_ret (pe_or (pe_cmpR (op_eqDK (K := G.K) rfl hr.units) (pe_callB (call_lenK (K := G.K) rfl) (by rfl) T.c2.z_len (by decide +kernel) (pa_cons (pv 5) pa_nil)) pe_int (nomark _)) (pe_one (pe_cmpR (op_eqDK (K := G.K) rfl hr.units) (pv 18) (pe_op (op_plusK (K := G.K) rfl) (pe_callB (call_lenK (K := G.K) rfl) (by rfl) T.c2.z_len (by decide +kernel) (pa_cons (pv 5) pa_nil)) pe_int) (nomark _)))))))))))))))))))))))), body (N := ["script", "draws", "more", "trains", "scans", "lines", "k", "draw", "buttons", "late", "j", "words", "fault", "kind", "block", "text", "bad", "at", "told"]) (wf_law T) h⟩)
end
theorem fb_1 {K : PySem.W.Frag} {f : Addr} (H : FnL K "read_lines" "read_lines" s_read_lines f) : ∃ d, Fun K "read_lines" "read_lines" s_read_lines f d ∧ L2.Binds K d ["lines", "first", "read_line"] [] := by
  obtain ⟨⟨od, an, sl, oc, kV, dc, pm, cd, ct, l, c⟩, k⟩ := H
  exact ⟨_, fun_mk (st := s_read_lines) l c k, (fun_mk (st := s_read_lines) l c k).binds (ps := ["lines", "first", "read_line"]) fun _ _ _ _ _ _ us hl => match us, hl with | [_, _, _], _ => rfl⟩
theorem fb_2 {K : PySem.W.Frag} {f : Addr} (H : FnL K "read_number" "read_number" s_read_number f) : ∃ d, Fun K "read_number" "read_number" s_read_number f d ∧ L2.Binds K d ["word"] [] := by
  obtain ⟨⟨od, an, sl, oc, kV, dc, pm, cd, ct, l, c⟩, k⟩ := H
  exact ⟨_, fun_mk (st := s_read_number) l c k, (fun_mk (st := s_read_number) l c k).binds (ps := ["word"]) fun _ _ _ _ _ _ us hl => match us, hl with | [_], _ => rfl⟩
theorem fb_3 {K : PySem.W.Frag} {f : Addr} (H : FnL K "read_numbers" "read_numbers" s_read_numbers f) : ∃ d, Fun K "read_numbers" "read_numbers" s_read_numbers f d ∧ L2.Binds K d ["words"] [] := by
  obtain ⟨⟨od, an, sl, oc, kV, dc, pm, cd, ct, l, c⟩, k⟩ := H
  exact ⟨_, fun_mk (st := s_read_numbers) l c k, (fun_mk (st := s_read_numbers) l c k).binds (ps := ["words"]) fun _ _ _ _ _ _ us hl => match us, hl with | [_], _ => rfl⟩
theorem fb_4 {K : PySem.W.Frag} {f : Addr} (H : FnL K "format_play" "format_play" s_format_play f) : ∃ d, Fun K "format_play" "format_play" s_format_play f d ∧ L2.Binds K d ["scans"] [] := by
  obtain ⟨⟨od, an, sl, oc, kV, dc, pm, cd, ct, l, c⟩, k⟩ := H
  exact ⟨_, fun_mk (st := s_format_play) l c k, (fun_mk (st := s_format_play) l c k).binds (ps := ["scans"]) fun _ _ _ _ _ _ us hl => match us, hl with | [_], _ => rfl⟩
theorem fb_5 {K : PySem.W.Frag} {f : Addr} (H : FnL K "written_scan" "written_scan" s_written_scan f) : ∃ d, Fun K "written_scan" "written_scan" s_written_scan f d ∧ L2.Binds K d ["scan"] [] := by
  obtain ⟨⟨od, an, sl, oc, kV, dc, pm, cd, ct, l, c⟩, k⟩ := H
  exact ⟨_, fun_mk (st := s_written_scan) l c k, (fun_mk (st := s_written_scan) l c k).binds (ps := ["scan"]) fun _ _ _ _ _ _ us hl => match us, hl with | [_], _ => rfl⟩
theorem fb_6 {K : PySem.W.Frag} {f : Addr} (H : FnL K "fault_words" "fault_words" s_fault_words f) : ∃ d, Fun K "fault_words" "fault_words" s_fault_words f d ∧ L2.Binds K d ["fault"] [] := by
  obtain ⟨⟨od, an, sl, oc, kV, dc, pm, cd, ct, l, c⟩, k⟩ := H
  exact ⟨_, fun_mk (st := s_fault_words) l c k, (fun_mk (st := s_fault_words) l c k).binds (ps := ["fault"]) fun _ _ _ _ _ _ us hl => match us, hl with | [_], _ => rfl⟩
theorem fb_8 {K : PySem.W.Frag} {f : Addr} (H : FnL K "read_scan" "read_scan" s_read_scan f) : ∃ d, Fun K "read_scan" "read_scan" s_read_scan f d ∧ L2.Binds K d ["line", "trains"] [] := by
  obtain ⟨⟨od, an, sl, oc, kV, dc, pm, cd, ct, l, c⟩, k⟩ := H
  exact ⟨_, fun_mk (st := s_read_scan) l c k, (fun_mk (st := s_read_scan) l c k).binds (ps := ["line", "trains"]) fun _ _ _ _ _ _ us hl => match us, hl with | [_, _], _ => rfl⟩
theorem fb_9 {K : PySem.W.Frag} {f : Addr} (H : FnL K "_words_before" "_words_before" s__words_before f) : ∃ d, Fun K "_words_before" "_words_before" s__words_before f d ∧ L2.Binds K d ["word", "words"] [] := by
  obtain ⟨⟨od, an, sl, oc, kV, dc, pm, cd, ct, l, c⟩, k⟩ := H
  exact ⟨_, fun_mk (st := s__words_before) l c k, (fun_mk (st := s__words_before) l c k).binds (ps := ["word", "words"]) fun _ _ _ _ _ _ us hl => match us, hl with | [_, _], _ => rfl⟩
theorem fb_10 {K : PySem.W.Frag} {f : Addr} (H : FnL K "_read_fault_of_play" "_read_fault_of_play" s__read_fault_of_play f) : ∃ d, Fun K "_read_fault_of_play" "_read_fault_of_play" s__read_fault_of_play f d ∧ L2.Binds K d ["words"] [] := by
  obtain ⟨⟨od, an, sl, oc, kV, dc, pm, cd, ct, l, c⟩, k⟩ := H
  exact ⟨_, fun_mk (st := s__read_fault_of_play) l c k, (fun_mk (st := s__read_fault_of_play) l c k).binds (ps := ["words"]) fun _ _ _ _ _ _ us hl => match us, hl with | [_], _ => rfl⟩
theorem fb_11 {K : PySem.W.Frag} {f : Addr} (H : FnL K "read_fault" "read_fault" s_read_fault f) : ∃ d, Fun K "read_fault" "read_fault" s_read_fault f d ∧ L2.Binds K d ["words"] [] := by
  obtain ⟨⟨od, an, sl, oc, kV, dc, pm, cd, ct, l, c⟩, k⟩ := H
  exact ⟨_, fun_mk (st := s_read_fault) l c k, (fun_mk (st := s_read_fault) l c k).binds (ps := ["words"]) fun _ _ _ _ _ _ us hl => match us, hl with | [_], _ => rfl⟩
theorem fb_12 {K : PySem.W.Frag} {f : Addr} (H : FnL K "_law_cell" "_law_cell" s__law_cell f) : ∃ d, Fun K "_law_cell" "_law_cell" s__law_cell f d ∧ L2.Binds K d ["script", "k"] [] := by
  obtain ⟨⟨od, an, sl, oc, kV, dc, pm, cd, ct, l, c⟩, k⟩ := H
  exact ⟨_, fun_mk (st := s__law_cell) l c k, (fun_mk (st := s__law_cell) l c k).binds (ps := ["script", "k"]) fun _ _ _ _ _ _ us hl => match us, hl with | [_, _], _ => rfl⟩
theorem fb_13 {K : PySem.W.Frag} {f : Addr} (H : FnL K "_law_draws" "_law_draws" s__law_draws f) : ∃ d, Fun K "_law_draws" "_law_draws" s__law_draws f d ∧ L2.Binds K d ["cell", "count"] [] := by
  obtain ⟨⟨od, an, sl, oc, kV, dc, pm, cd, ct, l, c⟩, k⟩ := H
  exact ⟨_, fun_mk (st := s__law_draws) l c k, (fun_mk (st := s__law_draws) l c k).binds (ps := ["cell", "count"]) fun _ _ _ _ _ _ us hl => match us, hl with | [_, _], _ => rfl⟩
theorem fb_14 {K : PySem.W.Frag} {f : Addr} (H : FnL K "_law_like" "_law_like" s__law_like f) : ∃ d, Fun K "_law_like" "_law_like" s__law_like f d ∧ L2.Binds K d ["actual", "due"] [] := by
  obtain ⟨⟨od, an, sl, oc, kV, dc, pm, cd, ct, l, c⟩, k⟩ := H
  exact ⟨_, fun_mk (st := s__law_like) l c k, (fun_mk (st := s__law_like) l c k).binds (ps := ["actual", "due"]) fun _ _ _ _ _ _ us hl => match us, hl with | [_, _], _ => rfl⟩
theorem fb_15 {K : PySem.W.Frag} {f : Addr} (H : FnL K "_law_told" "_law_told" s__law_told f) : ∃ d, Fun K "_law_told" "_law_told" s__law_told f d ∧ L2.Binds K d ["text", "trains"] [] := by
  obtain ⟨⟨od, an, sl, oc, kV, dc, pm, cd, ct, l, c⟩, k⟩ := H
  exact ⟨_, fun_mk (st := s__law_told) l c k, (fun_mk (st := s__law_told) l c k).binds (ps := ["text", "trains"]) fun _ _ _ _ _ _ us hl => match us, hl with | [_, _], _ => rfl⟩
theorem fbE_InvalidText {K : PySem.W.Frag} {f : Addr} (H : FnL K "__init__" "InvalidText.__init__" s_InvalidText f) : ∃ d, Fun K "__init__" "InvalidText.__init__" s_InvalidText f d ∧ L2.Binds K d ["self", "line"] [] := by
  obtain ⟨⟨od, an, sl, oc, kV, dc, pm, cd, ct, l, c⟩, k⟩ := H
  exact ⟨_, fun_mk (st := s_InvalidText) l c k, (fun_mk (st := s_InvalidText) l c k).binds (ps := ["self", "line"]) fun _ _ _ _ _ _ us hl => match us, hl with | [_, _], _ => rfl⟩
theorem fbC_parse_play {K : PySem.W.Frag} (H : FnL K "parse_play" "parse_play" s_parse_play (zf7 K)) : ∃ d, Fun K "parse_play" "parse_play" s_parse_play (zf7 K) d ∧ Ci.FunC K "parse_play" "parse_play" s_parse_play (zf7 K) d (He.codeOf K ("parse_play", none)) ∧ L2.Binds K d ["text", "trains"] [] := FnL.atC (ps := ["text", "trains"]) H (p := ("parse_play", none)) rfl fun _ _ _ _ _ _ us hl => match us, hl with | [_, _], _ => rfl
theorem all_mk {w : World} {K : PySem.W.Frag} {h : Heap} {mg : Str → Option Value} {fa : Addr} (X : K.In h) (N : h.Ns mainGlobals mg) (hfa : mg "law" = some (.ref fa)) (c : He.SaysX [] fn_ ts_ tf_ ex_ w h K) :
    ∃ fd : FuncData, (∀ (s : Shared) (v : Value), BindsTo s fd ⟨[v], []⟩ [("script", v)]) ∧ ∀ base : Heap, K.In base → base.Ns mainGlobals mg → (∀ p ∈ tf_, LamX.TabB base mg (He.cT K p).1 (He.cT K p).2) → FnOk PySem.Challenge.rw_coastersafe_k71_plays_written_and_read.prog w K mg base (L2.CX PySem.Challenge.rw_coastersafe_k71_plays_written_and_read.prog w) 14 fa fd ["script"] (Ci.spT K ((tf_.map fun p => (He.cT K p).2).zip qs_) m_law) := by
  have cx : (exL_ K).all id = true := c.more
  have cd : He.SaysD [] fn_ K := c.t.d
  have e := hfa.symm.trans (PySem.W.mg_of X N (h_a16 cx))
  cases e
  obtain ⟨⟨od, an, sl, oc, kV, dc, pm, cdl, ctl, ll, lc⟩, lk⟩ := Lf16 cd
  have F16 := fun_mk (st := s_law) ll lc lk
  have b16 := F16.binds (ps := ["script"]) fun _ _ _ _ _ _ us hl => match us, hl with | [_], _ => rfl
  let G : Gm := { K := K, T := ((tf_.map fun p => (He.cT K p).2).zip qs_), cm := fun x => 0, ca := fun x => if x = 0 then ze_CoasterError K else if x = 6 then ze_InvalidText K else 0, kt := fun x => if x = 8 then zp_BUTTONS K else if x = 18 then zp_KINDS_OF_PARTS K else 0 }
  let T : Txt G mg w := { c0 := { a_read_lines := zf1 K, d_read_lines := Classical.choose (fb_1 (Lf1 cd)), F_read_lines := (Classical.choose_spec (fb_1 (Lf1 cd))).1, b_read_lines := (Classical.choose_spec (fb_1 (Lf1 cd))).2, g_read_lines := PySem.W.mg_of X N (h_a1 cx), a_read_number := zf2 K, d_read_number := Classical.choose (fb_2 (Lf2 cd)), F_read_number := (Classical.choose_spec (fb_2 (Lf2 cd))).1, b_read_number := (Classical.choose_spec (fb_2 (Lf2 cd))).2, g_read_number := PySem.W.mg_of X N (h_a2 cx), a_read_numbers := zf3 K, d_read_numbers := Classical.choose (fb_3 (Lf3 cd)), F_read_numbers := (Classical.choose_spec (fb_3 (Lf3 cd))).1, b_read_numbers := (Classical.choose_spec (fb_3 (Lf3 cd))).2, g_read_numbers := PySem.W.mg_of X N (h_a3 cx), a_format_play := zf4 K, d_format_play := Classical.choose (fb_4 (Lf4 cd)), F_format_play := (Classical.choose_spec (fb_4 (Lf4 cd))).1, b_format_play := (Classical.choose_spec (fb_4 (Lf4 cd))).2, g_format_play := PySem.W.mg_of X N (h_a4 cx), a_written_scan := zf5 K, d_written_scan := Classical.choose (fb_5 (Lf5 cd)), F_written_scan := (Classical.choose_spec (fb_5 (Lf5 cd))).1, b_written_scan := (Classical.choose_spec (fb_5 (Lf5 cd))).2, g_written_scan := PySem.W.mg_of X N (h_a5 cx), a_fault_words := zf6 K, d_fault_words := Classical.choose (fb_6 (Lf6 cd)), F_fault_words := (Classical.choose_spec (fb_6 (Lf6 cd))).1, b_fault_words := (Classical.choose_spec (fb_6 (Lf6 cd))).2, g_fault_words := PySem.W.mg_of X N (h_a6 cx), a_parse_play := zf7 K, d_parse_play := Classical.choose (fbC_parse_play (Lf7 cd)), F_parse_play := (Classical.choose_spec (fbC_parse_play (Lf7 cd))).1, b_parse_play := (Classical.choose_spec (fbC_parse_play (Lf7 cd))).2.2, g_parse_play := PySem.W.mg_of X N (h_a7 cx), c_parse_play := He.codeOf K ("parse_play", none), P_parse_play := (He.cT K ("parse_play", none)).2, FC_parse_play := (Classical.choose_spec (fbC_parse_play (Lf7 cd))).2.1, tb_parse_play := rfl, tu_parse_play := (fun p m e => by rcases List.mem_cons.mp m with rfl | m <;> first | rfl | (rcases List.mem_cons.mp m with rfl | m <;> first | rfl | exact absurd e (h_nT cx) | exact absurd e.symm (h_nT cx) | cases m) | exact absurd e (h_nT cx) | exact absurd e.symm (h_nT cx) | cases m) }, c1 := { a_read_scan := zf8 K, d_read_scan := Classical.choose (fb_8 (Lf8 cd)), F_read_scan := (Classical.choose_spec (fb_8 (Lf8 cd))).1, b_read_scan := (Classical.choose_spec (fb_8 (Lf8 cd))).2, g_read_scan := PySem.W.mg_of X N (h_a8 cx), a__words_before := zf9 K, d__words_before := Classical.choose (fb_9 (Lf9 cd)), F__words_before := (Classical.choose_spec (fb_9 (Lf9 cd))).1, b__words_before := (Classical.choose_spec (fb_9 (Lf9 cd))).2, g__words_before := PySem.W.mg_of X N (h_a9 cx), a__read_fault_of_play := zf10 K, d__read_fault_of_play := Classical.choose (fb_10 (Lf10 cd)), F__read_fault_of_play := (Classical.choose_spec (fb_10 (Lf10 cd))).1, b__read_fault_of_play := (Classical.choose_spec (fb_10 (Lf10 cd))).2, g__read_fault_of_play := PySem.W.mg_of X N (h_a10 cx), a_read_fault := zf11 K, d_read_fault := Classical.choose (fb_11 (Lf11 cd)), F_read_fault := (Classical.choose_spec (fb_11 (Lf11 cd))).1, b_read_fault := (Classical.choose_spec (fb_11 (Lf11 cd))).2, g_read_fault := PySem.W.mg_of X N (h_a11 cx), a__law_cell := zf12 K, d__law_cell := Classical.choose (fb_12 (Lf12 cd)), F__law_cell := (Classical.choose_spec (fb_12 (Lf12 cd))).1, b__law_cell := (Classical.choose_spec (fb_12 (Lf12 cd))).2, g__law_cell := PySem.W.mg_of X N (h_a12 cx), a__law_draws := zf13 K, d__law_draws := Classical.choose (fb_13 (Lf13 cd)), F__law_draws := (Classical.choose_spec (fb_13 (Lf13 cd))).1, b__law_draws := (Classical.choose_spec (fb_13 (Lf13 cd))).2, g__law_draws := PySem.W.mg_of X N (h_a13 cx), a__law_like := zf14 K, d__law_like := Classical.choose (fb_14 (Lf14 cd)), F__law_like := (Classical.choose_spec (fb_14 (Lf14 cd))).1, b__law_like := (Classical.choose_spec (fb_14 (Lf14 cd))).2, g__law_like := PySem.W.mg_of X N (h_a14 cx), a__law_told := zf15 K, d__law_told := Classical.choose (fb_15 (Lf15 cd)), F__law_told := (Classical.choose_spec (fb_15 (Lf15 cd))).1, b__law_told := (Classical.choose_spec (fb_15 (Lf15 cd))).2, g__law_told := PySem.W.mg_of X N (h_a15 cx) }, c2 := { a_law := (zf16 K), d_law := _, F_law := F16, b_law := b16, g_law := PySem.W.mg_of X N (h_a16 cx), g_CoasterError := PySem.W.mg_of X N (h_aE_CoasterError cx), te_CoasterError := exm_self (h_bE_CoasterError cx) (h_iE_CoasterError cx) (h_tE_CoasterError cx) (h_sE_CoasterError cx), x_CoasterError := (h_xE_CoasterError cx), kk_CoasterError := (h_kE_CoasterError cx), bb_CoasterError := (h_bE_CoasterError cx), tt_CoasterError := (h_tE_CoasterError cx), g_InvalidText := PySem.W.mg_of X N (h_aE_InvalidText cx), te_InvalidText := exm_self (h_bE_InvalidText cx) (h_iE_InvalidText cx) (h_tE_InvalidText cx) (h_sE_InvalidText cx), a_InvalidText := zfE_InvalidText K, d_InvalidText := Classical.choose (fbE_InvalidText (LfE_InvalidText cd)), F_InvalidText := (Classical.choose_spec (fbE_InvalidText (LfE_InvalidText cd))).1, b_InvalidText := (Classical.choose_spec (fbE_InvalidText (LfE_InvalidText cd))).2, oex_InvalidText := Ci.oex_of (h_xL_InvalidText cx) rfl (h_sa_InvalidText cx) (h_bE_InvalidText cx) (h_tE_InvalidText cx) (h_kx_InvalidText cx), ii_InvalidText := (h_iI_InvalidText cx), ti_InvalidText := (h_tI_InvalidText cx), nf_InvalidText := (h_nI_InvalidText cx), xf_InvalidText := ⟨(h_gA_InvalidText cx), (h_gG_InvalidText cx), (h_bE_InvalidText cx), (h_hD_InvalidText cx)⟩, xi_InvalidText := lk_all (.cons ⟨⟨(h_gA_CoasterError cx), (h_gG_CoasterError cx), (h_bE_CoasterError cx), (h_hD_CoasterError cx), (h_cA_CoasterError cx), (h_iN cx), (h_iT cx), (h_mO_CoasterError cx)⟩, (h_ki_CoasterError_InvalidText cx)⟩ (.cons ⟨⟨(h_gA_InvalidText cx), (h_gG_InvalidText cx), (h_bE_InvalidText cx), (h_hD_InvalidText cx), (h_cA_InvalidText cx), (h_iN cx), (h_iT cx), (h_mO_InvalidText cx)⟩, (h_ki_InvalidText_InvalidText cx)⟩ .nil)), ty_InvalidText_CoasterError := exm_yes (h_bE_CoasterError cx) (h_iE_CoasterError cx) (h_tE_CoasterError cx) (h_sS_InvalidText_CoasterError cx), z_abs := PySem.W.mg_none_of X N (h_z_abs cx), z_all := PySem.W.mg_none_of X N (h_z_all cx), z_bool := PySem.W.mg_none_of X N (h_z_bool cx), z_enumerate := PySem.W.mg_none_of X N (h_z_enumerate cx), z_int := PySem.W.mg_none_of X N (h_z_int cx), z_isinstance := PySem.W.mg_none_of X N (h_z_isinstance cx), z_len := PySem.W.mg_none_of X N (h_z_len cx), z_list := PySem.W.mg_none_of X N (h_z_list cx), z_range := PySem.W.mg_none_of X N (h_z_range cx), z_str := PySem.W.mg_none_of X N (h_z_str cx), z_tuple := PySem.W.mg_none_of X N (h_z_tuple cx), z_zip := PySem.W.mg_none_of X N (h_z_zip cx), k_BUTTONS := PySem.W.mg_of X N (h_kc_BUTTONS cx), q_BUTTONS := Ci.tupK_q (Ci.tupA_ok (h_kd_BUTTONS cx)) (fun B => .cons (.str _ (sok_lit _)) (.cons (.str _ (sok_lit _)) (.cons (.str _ (sok_lit _)) (.nil)))), t_DIGITS := Classical.choose (Ci.strB_ok (h_kc_DIGITS cx)), k_DIGITS := PySem.W.mg_of X N (Classical.choose_spec (Ci.strB_ok (h_kc_DIGITS cx))) }, c3 := { t_EMPTY_SCAN := Classical.choose (Ci.strB_ok (h_kc_EMPTY_SCAN cx)), k_EMPTY_SCAN := PySem.W.mg_of X N (Classical.choose_spec (Ci.strB_ok (h_kc_EMPTY_SCAN cx))), k_KINDS_OF_PARTS := PySem.W.mg_of X N (h_kc_KINDS_OF_PARTS cx), q_KINDS_OF_PARTS := Ci.tupK_q (Ci.tupA_ok (h_kd_KINDS_OF_PARTS cx)) (fun B => .cons (.str _ (sok_lit _)) (.cons (.str _ (sok_lit _)) (.cons (.str _ (sok_lit _)) (.nil)))), t_MOST_DIGITS := Classical.choose (Ci.intB_ok (h_kc_MOST_DIGITS cx)), k_MOST_DIGITS := PySem.W.mg_of X N (Classical.choose_spec (Ci.intB_ok (h_kc_MOST_DIGITS cx))) } }
  exact ⟨T.c2.d_law, fun s v => .of_eq rfl, fun base _ _ tb => (ok_law (P := PySem.Challenge.rw_coastersafe_k71_plays_written_and_read.prog) (w := w) (base := base) T ⟨tb _ (List.mem_of_getElem? (i := 0) rfl)⟩).imp fun _ _ _ _ h => h G rfl rfl⟩
end Lw
open PySem PySem.W PyProof.Rows
set_option maxRecDepth 100000 in
set_option maxHeartbeats 0 in
theorem PySem.Challenge.cw_coastersafe_k71_plays_written_and_read_holds : PySem.Challenge.rw_coastersafe_k71_plays_written_and_read.Holds := by
  w_on; o_law
  refine HandSHeadRun.head_any (r := Lw.Rw_) (q := Lw.qv_) (H := Lw.hk_) (ob := Lw.ob_) (M := 60000) (loose := Lw.nm_) (kwd := []) Lw.ob_eq (by kernel_rfl) (fun s => by kernel_rfl) Lw.top_run (by rfl) (by rfl) (by rfl) (by rfl) (by first | assumption | decide +kernel) (by decide +kernel) ⟨rfl, rfl, rfl, rfl, rfl, by decide +kernel⟩ ?hw ?hc
  case hw => w_witness2
  case hc => exact LamX.walk_ofTsE (l := PySem.Challenge.rw_coastersafe_k71_plays_written_and_read) (n := 63) (k := 14) (x := "script") (CX := fun w => L2.CX PySem.Challenge.rw_coastersafe_k71_plays_written_and_read.prog w) rfl (by decide) rfl ⟨rfl, by decide, by decide⟩ (fun w mg fa h Y N hmg => Y.elim fun K Y => ⟨K, Y.1, Ci.lawAt (qs := Lw.qs_) Y.2 Y.1 rfl (fun ns hl => Lw.law_true ns hl) (Lw.all_mk Y.1 N hmg Y.2)⟩) (fun _ _ _ _ _ h => by obtain ⟨_, _, _, _, _, _, _, _, _, _, _, _, z⟩ := h; exact z)
