import PyProof.Rows.All
import Wide.All
import OpenK.AllK
import Wide.FinOn
import HandS.ForExc
import HandS.ForMost
import HandS.Evl
import HandS.TryMany
import HandS.Style
import HandS.TupMul
import HandS.IsInst
import HandS.Wide
import HandS.Gcd
import HandS.TupAny
import HandS.Deep
import HandS.Text
import HandS.Steps
import KE.KDictZip
import HandS.Dict
import HandS.More
import KE.DatumOrd
import KE.GoesEnumKw
import KE.GoesNew
import KE.GoesEnum
import HandS.FStr
import HandS.Conv
import HandS.Iter
import HandS.CallLocal
import HandS.ExcInit
import HandS.ExcInitHot
import HandS.ExcField
import HandS.RaiseFrom
import HandS.SuiteRaise
import HandS.ExcOwn
import HandS.Zip
import HandS.ExcCtx
import HandS.HotCalls
import HandS.Codes
import PySem.Challenge.RW_coastersafe_k04_texts_of_layouts
section
set_option Elab.async false
set_option linter.all false
set_option maxRecDepth 100000
set_option maxHeartbeats 2000000
/-! ## data, what is ours, slots -/
namespace Ci
open PySem PySem.Spec PyProof.Rows L2 Evl

abbrev SOk (s : Str) : Prop := PyData.canLay0 (.str s) = true

inductive D where
  | non | bl (b : Bool) | int (i : Int) | str (s : Str) | tup (ds : List D) | lst (ds : List D) | ins (c : Nat) (fs : List (Str × D)) | scr (ns : List Int)
  | dk (kvs : List (Key × D)) | dt (kvs : List (List Key × D)) | rng (lo hi : Int) | fnc (j : Nat)
  deriving Inhabited
/-- the written part, and where its classes, errors, tables stand -/
structure Gm where
  K : PySem.W.Frag
  cm : Nat → Addr
  ca : Nat → Addr
  kt : Nat → Addr
  ft : Nat → Addr := fun _ => 0

mutual
inductive Rep (G : Gm) (B : Hp) : V → D → Prop
  | non : Rep G B .non .non
  | bl (b : Bool) : Rep G B (.bl b) (.bl b)
  | int (i : Int) : Rep G B (.int i) (.int i)
  | str (s : Str) : SOk s → Rep G B (.str s) (.str s)
  | tup {a : Addr} {vs : List V} {ds : List D} : SqT G.K B a vs → Reps G B vs ds → Rep G B (.ref a) (.tup ds)
  | lst {a : Addr} {vs : List V} {ds : List D} : B a = some (.lst vs) → Reps G B vs ds → Rep G B (.ref a) (.lst ds)
  | ins {a dx : Addr} {c : Nat} {fv : List (Str × V)} {fd : List (Str × D)} : B a = some (.ins (G.cm c) dx fv) → RepF G B fv fd → Rep G B (.ref a) (.ins c fd)
  | scr {a : Addr} {ns : List Int} : SqL G.K B a (ns.map V.int) → Rep G B (.ref a) (.scr ns)
  | rng {a : Addr} {lo hi : Int} : B a = some (.rng lo hi) → Rep G B (.ref a) (.rng lo hi)
  | dk {a : Addr} {kv : List (Key × V)} {kd : List (Key × D)} : B a = some (.dK kv) → RepK G B kv kd → Rep G B (.ref a) (.dk kd)
  | dt {a : Addr} {kv : List (List Key × V)} {kd : List (List Key × D)} : B a = some (.dT kv) → RepT G B kv kd → Rep G B (.ref a) (.dt kd)
  | fnc {j : Nat} : Rep G B (.ref (G.ft j)) (.fnc j)
inductive Reps (G : Gm) (B : Hp) : List V → List D → Prop
  | nil : Reps G B [] []
  | cons {v : V} {vs : List V} {d : D} {ds : List D} : Rep G B v d → Reps G B vs ds → Reps G B (v :: vs) (d :: ds)
inductive RepF (G : Gm) (B : Hp) : List (Str × V) → List (Str × D) → Prop
  | nil : RepF G B [] []
  | cons {f : Str} {v : V} {d : D} {fv : List (Str × V)} {fd : List (Str × D)} : Rep G B v d → RepF G B fv fd → RepF G B ((f, v) :: fv) ((f, d) :: fd)
inductive RepK (G : Gm) (B : Hp) : List (Key × V) → List (Key × D) → Prop
  | nil : RepK G B [] []
  | cons {f : Key} {v : V} {d : D} {fv : List (Key × V)} {fd : List (Key × D)} : Rep G B v d → RepK G B fv fd → RepK G B ((f, v) :: fv) ((f, d) :: fd)
inductive RepT (G : Gm) (B : Hp) : List (List Key × V) → List (List Key × D) → Prop
  | nil : RepT G B [] []
  | cons {f : List Key} {v : V} {d : D} {fv : List (List Key × V)} {fd : List (List Key × D)} : Rep G B v d → RepT G B fv fd → RepT G B ((f, v) :: fv) ((f, d) :: fd)
end

section
variable {G : Gm} {B B' H H' : Hp}
mutual
theorem Rep.mono (e : Ex B B') {v : V} {d : D} : Rep G B v d → Rep G B' v d
  | .non => .non
  | .bl b => .bl b
  | .int i => .int i
  | .str s h => .str s h
  | .tup h r => .tup (ex_t e h) (Reps.mono e r)
  | .lst h r => .lst (e _ _ h) (Reps.mono e r)
  | .ins h r => .ins (e _ _ h) (RepF.mono e r)
  | .scr h => .scr (ex_l e h)
  | .rng h => .rng (e _ _ h)
  | .dk h r => .dk (e _ _ h) (RepK.mono e r)
  | .dt h r => .dt (e _ _ h) (RepT.mono e r)
  | .fnc => .fnc
theorem Reps.mono (e : Ex B B') {vs : List V} {ds : List D} : Reps G B vs ds → Reps G B' vs ds
  | .nil => .nil
  | .cons h r => .cons (Rep.mono e h) (Reps.mono e r)
theorem RepF.mono (e : Ex B B') {vs : List (Str × V)} {ds : List (Str × D)} : RepF G B vs ds → RepF G B' vs ds
  | .nil => .nil
  | .cons h r => .cons (Rep.mono e h) (RepF.mono e r)
theorem RepK.mono (e : Ex B B') {vs : List (Key × V)} {ds : List (Key × D)} : RepK G B vs ds → RepK G B' vs ds
  | .nil => .nil
  | .cons h r => .cons (Rep.mono e h) (RepK.mono e r)
theorem RepT.mono (e : Ex B B') {vs : List (List Key × V)} {ds : List (List Key × D)} : RepT G B vs ds → RepT G B' vs ds
  | .nil => .nil
  | .cons h r => .cons (Rep.mono e h) (RepT.mono e r)
end
theorem Reps.len {vs : List V} {ds : List D} : Reps G B vs ds → vs.length = ds.length
  | .nil => rfl
  | .cons _ r => congrArg Nat.succ (Reps.len r)
theorem RepK.len {vs : List (Key × V)} {ds : List (Key × D)} : RepK G B vs ds → vs.length = ds.length
  | .nil => rfl
  | .cons _ r => congrArg Nat.succ (RepK.len r)
theorem RepT.len {vs : List (List Key × V)} {ds : List (List Key × D)} : RepT G B vs ds → vs.length = ds.length
  | .nil => rfl
  | .cons _ r => congrArg Nat.succ (RepT.len r)
theorem Reps.app {vs ws : List V} {ds es : List D} : Reps G B vs ds → Reps G B ws es → Reps G B (vs ++ ws) (ds ++ es)
  | .nil, s => s
  | .cons h r, s => .cons h (Reps.app r s)
theorem Reps.get {vs : List V} {ds : List D} {i : Nat} {d : D} : Reps G B vs ds → ds[i]? = some d → ∃ v, vs[i]? = some v ∧ Rep G B v d
  | .nil, h => by simp at h
  | .cons h r, e => by
    cases i with
    | zero =>
      have e' := Option.some.inj e
      subst e'
      exact ⟨_, rfl, h⟩
    | succ i => exact Reps.get (i := i) r e
theorem Reps.drop {vs : List V} {ds : List D} : ∀ (n : Nat), Reps G B vs ds → Reps G B (vs.drop n) (ds.drop n)
  | 0, r => r
  | n + 1, .nil => .nil
  | n + 1, .cons _ r => Reps.drop n r
theorem Reps.take {vs : List V} {ds : List D} : ∀ (n : Nat), Reps G B vs ds → Reps G B (vs.take n) (ds.take n)
  | 0, r => .nil
  | n + 1, .nil => .nil
  | n + 1, .cons h r => .cons h (Reps.take n r)
theorem Reps.set {vs : List V} {ds : List D} {v : V} {d : D} (q : Rep G B v d) : ∀ (n : Nat), Reps G B vs ds → Reps G B (vs.set n v) (ds.set n d)
  | _, .nil => .nil
  | 0, .cons _ r => .cons q r
  | n + 1, .cons h r => .cons h (Reps.set q n r)
theorem Reps.rev {vs : List V} {ds : List D} : Reps G B vs ds → Reps G B vs.reverse ds.reverse
  | .nil => .nil
  | .cons h r => by
    rw [List.reverse_cons, List.reverse_cons]
    exact (Reps.rev r).app (.cons h .nil)
theorem Reps.ints {vs : List V} {ns : List Int} (h : Reps G B vs (ns.map D.int)) : vs = ns.map V.int := by
  induction ns generalizing vs with
  | nil => cases h; rfl
  | cons n r ih =>
    cases h with
    | cons h1 h2 =>
      cases h1
      rw [ih h2]
      rfl
theorem Reps.bools {vs : List V} {ns : List Bool} (h : Reps G B vs (ns.map D.bl)) : vs = ns.map V.bl := by
  induction ns generalizing vs with
  | nil => cases h; rfl
  | cons n r ih =>
    cases h with
    | cons h1 h2 =>
      cases h1
      rw [ih h2]
      rfl
theorem Reps.strs {vs : List V} {ns : List Str} (h : Reps G B vs (ns.map D.str)) : vs = ns.map V.str := by
  induction ns generalizing vs with
  | nil => cases h; rfl
  | cons n r ih =>
    cases h with
    | cons h1 h2 =>
      cases h1
      rw [ih h2]
      rfl
theorem Reps.of_ints : ∀ ns : List Int, Reps G B (ns.map V.int) (ns.map D.int)
  | [] => .nil
  | n :: r => .cons (.int n) (Reps.of_ints r)
theorem RepF.look {f : Str} {d : D} {fv : List (Str × V)} {fd : List (Str × D)} : RepF G B fv fd → fd.lookup f = some d → ∃ v, fv.lookup f = some v ∧ Rep G B v d
  | .nil, h => by simp [List.lookup] at h
  | .cons (f := g) (v := v) (fv := fv') h r, e => by
    cases c : (f == g) with
    | true =>
      rw [List.lookup_cons, c] at e
      have e' := Option.some.inj e
      subst e'
      exact ⟨v, by rw [List.lookup_cons, c], h⟩
    | false =>
      rw [List.lookup_cons, c] at e
      obtain ⟨v', h1, h2⟩ := RepF.look r e
      exact ⟨v', by rw [List.lookup_cons, c]; exact h1, h2⟩
theorem RepF.lookN {f : Str} {fv : List (Str × V)} {fd : List (Str × D)} : RepF G B fv fd → fd.lookup f = none → fv.lookup f = none
  | .nil, h => rfl
  | .cons (f := g) (fv := fv') h r, e => by
    cases c : (f == g) with
    | true =>
      rw [List.lookup_cons, c] at e
      cases e
    | false =>
      rw [List.lookup_cons, c] at e
      rw [List.lookup_cons, c]
      exact RepF.lookN r e
end

/-! ### how the heap goes on: B what stands for good, H all -/
structure Go (B H B' H' : Hp) : Prop where
  bb : Ex B B'
  bh : Ex B' H'
  hh : Ex H H'
  fr : ∀ a o, H a = some o → B a = none → B' a = none
section
variable {G : Gm} {B H B1 H1 B2 H2 : Hp}
theorem Go.refl (h : Ex B H) : Go B H B H := ⟨Ex.refl B, h, Ex.refl H, fun _ _ _ h => h⟩
theorem Go.trans (a : Go B H B1 H1) (b : Go B1 H1 B2 H2) : Go B H B2 H2 :=
  ⟨a.bb.trans b.bb, b.bh, a.hh.trans b.hh, fun x o h1 h2 => b.fr x o (a.hh x o h1) (a.fr x o h1 h2)⟩
theorem none_of_ex (e : Ex B H) {p : Addr} (h : H p = none) : B p = none := by
  cases q : B p with
  | none => rfl
  | some o => rw [e p o q] at h; cases h
theorem Ex.upd2 {p : Addr} {o : HO} (e : Ex B H) : Ex (upd B p o) (upd H p o) := fun a u h => by
  by_cases c : a = p
  · subst c
    rw [upd_same] at h ⊢
    exact h
  · rw [upd_ne c] at h ⊢
    exact e a u h
theorem Go.new (e : Ex B H) {p : Addr} {o : HO} (h : H p = none) : Go B H (upd B p o) (upd H p o) :=
  ⟨Ex.new (none_of_ex e h), Ex.upd2 e, Ex.new h, fun a u h1 h2 => by rw [upd_ne (ne_of_none h1 h)]; exact h2⟩
theorem Go.newO (e : Ex B H) {p : Addr} {o : HO} (h : H p = none) : Go B H B (upd H p o) :=
  ⟨Ex.refl B, fun a u q => by rw [upd_ne (ne_of_none (e a u q) h)]; exact e a u q, Ex.new h, fun _ _ _ h2 => h2⟩
theorem upd_ex {H0 H : Hp} {l : Addr} {o : HO} (e : Ex H0 H) (h : H0 l = none) : Ex H0 (upd H l o) := fun a u q => by
  rw [upd_ne (ne_of_none q h)]
  exact e a u q
theorem upd_ex2 {B H : Hp} {l : Addr} {o : HO} (e : Ex B H) (h : H l = some o) : Ex (upd B l o) H := fun a u q => by
  by_cases c : a = l
  · subst c
    rw [upd_same] at q
    rw [h]
    exact q
  · rw [upd_ne c] at q
    exact e a u q
end

/-! ### what is ours -/
/-- an attribute of an object of ours, a slot: data, or a list, a dict of ours -/
inductive FV where
  | d (x : D) | lst (ds : List D) | dk (kvs : List (Key × D)) | dt (kvs : List (List Key × D))
  deriving Inhabited
def FV.dat : FV → D
  | .d x => x
  | .lst ds => .lst ds
  | .dk k => .dk k
  | .dt k => .dt k
def fsD (fs : List (Str × FV)) : List (Str × D) := fs.map fun p => (p.1, p.2.dat)
inductive SV where
  | fv (x : FV)
  | obj (sf : Bool) (c : Nat) (fs : List (Str × FV))
  | brw (ds : List D)
  | nst (xs ys : List D)
  deriving Inhabited
abbrev SV.d (x : D) : SV := .fv (.d x)
abbrev En := List (Option SV)
/-- the content of an object of ours -/
inductive Ho (G : Gm) (B : Hp) : HO → FV → Prop
  | lst {vs : List V} {ds : List D} : Reps G B vs ds → Ho G B (.lst vs) (.lst ds)
  | dk {kv : List (Key × V)} {kd : List (Key × D)} : RepK G B kv kd → Ho G B (.dK kv) (.dk kd)
  | dt {kv : List (List Key × V)} {kd : List (List Key × D)} : RepT G B kv kd → Ho G B (.dT kv) (.dt kd)
inductive FvOk (G : Gm) (H0 B H : Hp) : V → FV → List Addr → Prop
  | d {v : V} {x : D} : Rep G B v x → FvOk G H0 B H v (.d x) []
  | own {a : Addr} {o : HO} {x : FV} : H0 a = none → B a = none → H a = some o → Ho G B o x → FvOk G H0 B H (.ref a) x [a]
inductive FsOk (G : Gm) (H0 B H : Hp) : List (Str × V) → List (Str × FV) → List Addr → Prop
  | nil : FsOk G H0 B H [] [] []
  | cons {f : Str} {v : V} {x : FV} {fv : List (Str × V)} {fs : List (Str × FV)} {as bs : List Addr} : FvOk G H0 B H v x as → FsOk G H0 B H fv fs bs → FsOk G H0 B H ((f, v) :: fv) ((f, x) :: fs) (as ++ bs)
inductive SlotOk (G : Gm) (pn : Addr) (H0 B H : Hp) : V → SV → List Addr → Prop
  | fv {v : V} {x : FV} {as : List Addr} : FvOk G H0 B H v x as → SlotOk G pn H0 B H v (.fv x) as
  | obj {sf : Bool} {l dx : Addr} {c : Nat} {fv : List (Str × V)} {fs : List (Str × FV)} {as : List Addr} : (sf = true → l = pn) → H0 l = none → B l = none → H l = some (.ins (G.cm c) dx fv) → FsOk G H0 B H fv fs as → (l :: as).Nodup → SlotOk G pn H0 B H (.ref l) (.obj sf c fs) (l :: as)
  | brw {l : Addr} {vs : List V} {ds : List D} : H0 l = some (.lst vs) → Reps G B vs ds → SlotOk G pn H0 B H (.ref l) (.brw ds) []
  | nst {l p q : Addr} {us ws : List V} {xs ys : List D} : (∀ a, a ∈ [l, p, q] → H0 a = none ∧ B a = none) → H l = some (.lst [.ref p, .ref q]) → H p = some (.lst us) → Reps G B us xs → H q = some (.lst ws) → Reps G B ws ys → [l, p, q].Nodup → SlotOk G pn H0 B H (.ref l) (.nst xs ys) [l, p, q]
structure Slots' (G : Gm) (pn : Addr) (H0 B H : Hp) (σ : L2.St) (ρ : En) (ow : Nat → List Addr) : Prop where
  len : σ.length = ρ.length
  ex0 : Ex H0 H
  ex : Ex B H
  ok : ∀ (i : Nat) (s : SV), ρ[i]? = some (some s) → ∃ v, σ[i]? = some (some v) ∧ SlotOk G pn H0 B H v s (ow i)
  ap : ∀ (i j : Nat) (si sj : SV) (a : Addr), ρ[i]? = some (some si) → ρ[j]? = some (some sj) → a ∈ ow i → a ∈ ow j → i = j
def Slots (G : Gm) (pn : Addr) (H0 B H : Hp) (σ : L2.St) (ρ : En) : Prop := ∃ ow, Slots' G pn H0 B H σ ρ ow
section
variable {G : Gm} {pn : Addr} {H0 B H B1 H1 : Hp} {σ : L2.St} {ρ : En} {ow : Nat → List Addr}
theorem nst_mem {l p q : Addr} {R : Addr → Prop} : (∀ a, a ∈ [l, p, q] → R a) ↔ R l ∧ R p ∧ R q := by
  constructor
  · exact fun h => ⟨h _ (by simp), h _ (by simp), h _ (by simp)⟩
  · rintro ⟨h1, h2, h3⟩ a m
    rcases List.mem_cons.mp m with rfl | m
    · exact h1
    · rcases List.mem_cons.mp m with rfl | m
      · exact h2
      · rw [List.mem_singleton.mp m]; exact h3
theorem nst_l {l p q : Addr} : l ∈ [l, p, q] := List.mem_cons_self
theorem nst_p {l p q : Addr} : p ∈ [l, p, q] := List.mem_cons_of_mem _ List.mem_cons_self
theorem nst_q {l p q : Addr} : q ∈ [l, p, q] := List.mem_cons_of_mem _ (List.mem_cons_of_mem _ List.mem_cons_self)
theorem Ho.mono (e : Ex B B1) {o : HO} {x : FV} : Ho G B o x → Ho G B1 o x
  | .lst r => .lst (r.mono e)
  | .dk r => .dk (r.mono e)
  | .dt r => .dt (r.mono e)
theorem Ho.rep {a : Addr} {o : HO} {x : FV} (hb : B a = some o) : Ho G B o x → Rep G B (.ref a) x.dat
  | .lst r => .lst hb r
  | .dk r => .dk hb r
  | .dt r => .dt hb r
theorem FvOk.go (g : Go B H B1 H1) {v : V} {x : FV} {as : List Addr} : FvOk G H0 B H v x as → FvOk G H0 B1 H1 v x as
  | .d r => .d (r.mono g.bb)
  | .own h0 hb hl r => .own h0 (g.fr _ _ hl hb) (g.hh _ _ hl) (r.mono g.bb)
theorem FsOk.go (g : Go B H B1 H1) : ∀ {fv : List (Str × V)} {fs : List (Str × FV)} {as : List Addr}, FsOk G H0 B H fv fs as → FsOk G H0 B1 H1 fv fs as
  | _, _, _, .nil => .nil
  | _, _, _, .cons h r => .cons (h.go g) (FsOk.go g r)
theorem SlotOk.go (g : Go B H B1 H1) {v : V} {s : SV} {as : List Addr} : SlotOk G pn H0 B H v s as → SlotOk G pn H0 B1 H1 v s as
  | .fv h => .fv (h.go g)
  | .obj z h0 hb hl r n => .obj z h0 (g.fr _ _ hl hb) (g.hh _ _ hl) (r.go g) n
  | .brw h0 r => .brw h0 (r.mono g.bb)
  | .nst h0 hl hp rp hq rq n => .nst (nst_mem.mpr ⟨⟨(h0 _ nst_l).1, g.fr _ _ hl (h0 _ nst_l).2⟩, ⟨(h0 _ nst_p).1, g.fr _ _ hp (h0 _ nst_p).2⟩, (h0 _ nst_q).1, g.fr _ _ hq (h0 _ nst_q).2⟩) (g.hh _ _ hl) (g.hh _ _ hp) (rp.mono g.bb) (g.hh _ _ hq) (rq.mono g.bb) n
/-- the addresses of what is ours -/
theorem FvOk.addr {v : V} {x : FV} {as : List Addr} {a : Addr} (h : FvOk G H0 B H v x as) (m : a ∈ as) : H0 a = none ∧ B a = none ∧ ∃ o, H a = some o := by
  cases h with
  | d r => cases m
  | own h0 hb hl r =>
    rw [List.mem_singleton.mp m]
    exact ⟨h0, hb, _, hl⟩
theorem FsOk.addr {a : Addr} : ∀ {fv : List (Str × V)} {fs : List (Str × FV)} {as : List Addr}, FsOk G H0 B H fv fs as → a ∈ as → H0 a = none ∧ B a = none ∧ ∃ o, H a = some o
  | _, _, _, .cons h r, m => (List.mem_append.mp m).elim (fun m => h.addr m) fun m => FsOk.addr r m
theorem SlotOk.addr {v : V} {s : SV} {as : List Addr} {a : Addr} (h : SlotOk G pn H0 B H v s as) (m : a ∈ as) : H0 a = none ∧ B a = none ∧ ∃ o, H a = some o := by
  cases h with
  | fv h => exact h.addr m
  | obj z h0 hb hl r n =>
    rcases List.mem_cons.mp m with w | w
    · rw [w]
      exact ⟨h0, hb, _, hl⟩
    · exact r.addr w
  | brw h0 r => cases m
  | nst h0 hl hp rp hq rq n =>
    exact nst_mem (R := fun a => H0 a = none ∧ B a = none ∧ ∃ o, H a = some o) |>.mpr ⟨⟨(h0 _ nst_l).1, (h0 _ nst_l).2, _, hl⟩, ⟨(h0 _ nst_p).1, (h0 _ nst_p).2, _, hp⟩, (h0 _ nst_q).1, (h0 _ nst_q).2, _, hq⟩ a m
theorem FsOk.len : ∀ {fv : List (Str × V)} {fs : List (Str × FV)} {as : List Addr}, FsOk G H0 B H fv fs as → fv.length = fs.length
  | _, _, _, .nil => rfl
  | _, _, _, .cons _ r => congrArg Nat.succ (FsOk.len r)
theorem FsOk.look {f : Str} {x : FV} : ∀ {fv : List (Str × V)} {fs : List (Str × FV)} {as : List Addr}, FsOk G H0 B H fv fs as → fs.lookup f = some x → ∃ v bs, fv.lookup f = some v ∧ FvOk G H0 B H v x bs ∧ ∀ b, b ∈ bs → b ∈ as
  | _, _, _, .nil, h => by simp [List.lookup] at h
  | _, _, _, .cons (f := g) (v := v) (as := bs) h r, e => by
    cases c : (f == g) with
    | true =>
      rw [List.lookup_cons, c] at e
      have e' := Option.some.inj e
      subst e'
      exact ⟨v, bs, by rw [List.lookup_cons, c], h, fun b m => List.mem_append_left _ m⟩
    | false =>
      rw [List.lookup_cons, c] at e
      obtain ⟨v', bs, h1, h2, h3⟩ := FsOk.look r e
      exact ⟨v', bs, by rw [List.lookup_cons, c]; exact h1, h2, fun b m => List.mem_append_right _ (h3 b m)⟩
theorem FsOk.lookN {f : Str} : ∀ {fv : List (Str × V)} {fs : List (Str × FV)} {as : List Addr}, FsOk G H0 B H fv fs as → fs.lookup f = none → fv.lookup f = none
  | _, _, _, .nil, h => rfl
  | _, _, _, .cons (f := g) h r, e => by
    cases c : (f == g) with
    | true =>
      rw [List.lookup_cons, c] at e
      cases e
    | false =>
      rw [List.lookup_cons, c] at e
      rw [List.lookup_cons, c]
      exact FsOk.lookN r e
/-- what else changes: at addresses in as only -/
structure Off (as : List Addr) (B H B1 H1 : Hp) : Prop where
  bb : Ex B B1
  kb : ∀ b o, H b = some o → ¬ b ∈ as → B b = none → B1 b = none
  kh : ∀ b o, H b = some o → ¬ b ∈ as → H1 b = some o
theorem FvOk.off {cs : List Addr} (z : Off cs B H B1 H1) {v : V} {x : FV} {as : List Addr} (h : FvOk G H0 B H v x as) (n : ∀ a, a ∈ as → ¬ a ∈ cs) : FvOk G H0 B1 H1 v x as := by
  cases h with
  | d r => exact .d (r.mono z.bb)
  | own h0 hb hl r =>
    have nn := n _ (List.mem_singleton.mpr rfl)
    exact .own h0 (z.kb _ _ hl nn hb) (z.kh _ _ hl nn) (r.mono z.bb)
theorem FsOk.off {cs : List Addr} (z : Off cs B H B1 H1) : ∀ {fv : List (Str × V)} {fs : List (Str × FV)} {as : List Addr}, FsOk G H0 B H fv fs as → (∀ a, a ∈ as → ¬ a ∈ cs) → FsOk G H0 B1 H1 fv fs as
  | _, _, _, .nil, _ => .nil
  | _, _, _, .cons h r, n => .cons (h.off z fun a m => n a (List.mem_append_left _ m)) (FsOk.off z r fun a m => n a (List.mem_append_right _ m))
theorem SlotOk.off {cs : List Addr} (z : Off cs B H B1 H1) {v : V} {s : SV} {as : List Addr} (h : SlotOk G pn H0 B H v s as) (n : ∀ a, a ∈ as → ¬ a ∈ cs) : SlotOk G pn H0 B1 H1 v s as := by
  cases h with
  | fv h => exact .fv (h.off z n)
  | obj zs h0 hb hl r nd =>
    have nn := n _ List.mem_cons_self
    exact .obj zs h0 (z.kb _ _ hl nn hb) (z.kh _ _ hl nn) (r.off z fun a m => n a (List.mem_cons_of_mem _ m)) nd
  | brw h0 r => exact .brw h0 (r.mono z.bb)
  | nst h0 hl hp rp hq rq nd =>
    obtain ⟨n1, n2, n3⟩ := nst_mem.mp n
    exact .nst (nst_mem.mpr ⟨⟨(h0 _ nst_l).1, z.kb _ _ hl n1 (h0 _ nst_l).2⟩, ⟨(h0 _ nst_p).1, z.kb _ _ hp n2 (h0 _ nst_p).2⟩, (h0 _ nst_q).1, z.kb _ _ hq n3 (h0 _ nst_q).2⟩) (z.kh _ _ hl n1) (z.kh _ _ hp n2) (rp.mono z.bb) (z.kh _ _ hq n3) (rq.mono z.bb) nd
/-- another entry -/
theorem FvOk.base {H0' : Hp} {v : V} {x : FV} {as : List Addr} (h : FvOk G H0 B H v x as) (n : ∀ a, a ∈ as → H0' a = none) : FvOk G H0' B H v x as := by
  cases h with
  | d r => exact .d r
  | own h0 hb hl r => exact .own (n _ (List.mem_singleton.mpr rfl)) hb hl r
theorem FsOk.base {H0' : Hp} : ∀ {fv : List (Str × V)} {fs : List (Str × FV)} {as : List Addr}, FsOk G H0 B H fv fs as → (∀ a, a ∈ as → H0' a = none) → FsOk G H0' B H fv fs as
  | _, _, _, .nil, _ => .nil
  | _, _, _, .cons h r, n => .cons (h.base fun a m => n a (List.mem_append_left _ m)) (FsOk.base r fun a m => n a (List.mem_append_right _ m))
def SV.isBrw : SV → Bool
  | .brw _ => true
  | .obj sf _ _ => sf
  | _ => false
theorem SlotOk.base {H0' : Hp} {v : V} {s : SV} {as : List Addr} (h : SlotOk G pn H0 B H v s as) (nb : s.isBrw = false) (n : ∀ a, a ∈ as → H0' a = none) : SlotOk G pn H0' B H v s as := by
  cases h with
  | fv h => exact .fv (h.base n)
  | obj zs h0 hb hl r nd => exact .obj zs (n _ List.mem_cons_self) hb hl (r.base fun a m => n a (List.mem_cons_of_mem _ m)) nd
  | brw h0 r => cases nb
  | nst h0 hl hp rp hq rq nd => exact .nst (fun a m => ⟨n a m, (h0 a m).2⟩) hl hp rp hq rq nd
/-- all of it stands for good -/
theorem FvOk.freeze {v : V} {x : FV} {as : List Addr} (h : FvOk G H0 B H v x as) (e : Ex B H) : ∃ B1, Ex B B1 ∧ Ex B1 H ∧ Rep G B1 v x.dat ∧ ∀ b, ¬ b ∈ as → B b = none → B1 b = none := by
  cases h with
  | d r => exact ⟨B, Ex.refl B, e, r, fun _ _ h => h⟩
  | @own a o x h0 hb hl r =>
    refine ⟨upd B a o, Ex.new hb, upd_ex2 e hl, (r.mono (Ex.new hb)).rep upd_same, fun b nb hn => ?_⟩
    rw [upd_ne fun z => nb (List.mem_singleton.mpr z)]
    exact hn
theorem FsOk.freeze : ∀ {fv : List (Str × V)} {fs : List (Str × FV)} {as : List Addr}, FsOk G H0 B H fv fs as → as.Nodup → Ex B H → ∃ B1, Ex B B1 ∧ Ex B1 H ∧ RepF G B1 fv (fsD fs) ∧ ∀ b, ¬ b ∈ as → B b = none → B1 b = none
  | _, _, _, .nil, _, e => ⟨B, Ex.refl B, e, .nil, fun _ _ h => h⟩
  | _, _, _, .cons (f := f) (x := x) (as := as) (bs := bs) h r, n, e => by
    obtain ⟨n1, n2, n3⟩ := List.nodup_append.mp n
    obtain ⟨B1, a1, a2, a3, a4⟩ := FsOk.freeze r n2 e
    have z : Off bs B H B1 H := ⟨a1, fun b o _ nb hb => a4 b nb hb, fun b o h _ => h⟩
    obtain ⟨B2, c1, c2, c3, c4⟩ := (h.off z fun a m m2 => n3 a m a m2 rfl).freeze a2
    exact ⟨B2, a1.trans c1, c2, .cons c3 (a3.mono c1), fun b nb hb => c4 b (fun m => nb (List.mem_append_left _ m)) (a4 b (fun m => nb (List.mem_append_right _ m)) hb)⟩
def SV.dat : SV → D
  | .fv x => x.dat
  | .obj _ c fs => .ins c (fsD fs)
  | .brw ds => .lst ds
  | .nst xs ys => .lst [.lst xs, .lst ys]
theorem SlotOk.freeze {v : V} {s : SV} {as : List Addr} (h : SlotOk G pn H0 B H v s as) (nb : s.isBrw = false) (e : Ex B H) : ∃ B1, Ex B B1 ∧ Ex B1 H ∧ Rep G B1 v s.dat ∧ ∀ b, ¬ b ∈ as → B b = none → B1 b = none := by
  cases h with
  | fv h => exact h.freeze e
  | @obj sf l dx c fv fs as zs h0 hb hl r nd =>
    obtain ⟨n1, n2⟩ := List.nodup_cons.mp nd
    obtain ⟨B1, a1, a2, a3, a4⟩ := r.freeze n2 e
    have hb1 := a4 l n1 hb
    refine ⟨upd B1 l _, a1.trans (Ex.new hb1), upd_ex2 a2 hl, .ins upd_same (a3.mono (Ex.new hb1)), fun b m hb => ?_⟩
    rw [upd_ne fun z => m (by rw [z]; exact List.mem_cons_self)]
    exact a4 b (fun z => m (List.mem_cons_of_mem _ z)) hb
  | brw h0 r => cases nb
  | @nst l p q us ws xs ys h0 hl hp rp hq rq nd =>
    obtain ⟨⟨_, b1⟩, ⟨_, b2⟩, _, b3⟩ := nst_mem.mp h0
    obtain ⟨n1, nd⟩ := List.nodup_cons.mp nd
    obtain ⟨n2, _⟩ := List.nodup_cons.mp nd
    have lp : l ≠ p := fun z => n1 (z ▸ List.mem_cons_self)
    have lq : l ≠ q := fun z => n1 (z ▸ List.mem_cons_of_mem _ List.mem_cons_self)
    have pq : p ≠ q := fun z => n2 (z ▸ List.mem_cons_self)
    have e1 : Ex B (upd B p (.lst us)) := Ex.new b2
    have c3 : upd B p (.lst us) q = none := by rw [upd_ne pq.symm]; exact b3
    have e2 : Ex (upd B p (.lst us)) (upd (upd B p (.lst us)) q (.lst ws)) := Ex.new c3
    have c1 : upd (upd B p (.lst us)) q (.lst ws) l = none := by rw [upd_ne lq, upd_ne lp]; exact b1
    have e3 : Ex (upd (upd B p (.lst us)) q (.lst ws)) (upd (upd (upd B p (.lst us)) q (.lst ws)) l (.lst [.ref p, .ref q])) := Ex.new c1
    refine ⟨_, (e1.trans e2).trans e3, upd_ex2 (upd_ex2 (upd_ex2 e hp) hq) hl, .lst upd_same (.cons (.lst (by rw [upd_ne lp.symm, upd_ne pq, upd_same]) (rp.mono ((e1.trans e2).trans e3))) (.cons (.lst (by rw [upd_ne lq.symm, upd_same]) (rq.mono ((e1.trans e2).trans e3))) .nil)), fun b m hb => ?_⟩
    have m1 : b ≠ l := fun z => m (z ▸ nst_l)
    have m2 : b ≠ p := fun z => m (z ▸ nst_p)
    have m3 : b ≠ q := fun z => m (z ▸ nst_q)
    rw [upd_ne m1, upd_ne m3, upd_ne m2]
    exact hb

/-- what is no self's -/
theorem SlotOk.pin {pm : Addr} {v : V} {s : SV} {as : List Addr} (h : SlotOk G pn H0 B H v s as) (nb : s.isBrw = false) : SlotOk G pm H0 B H v s as := by
  cases h with
  | fv h => exact .fv h
  | obj zs h0 hb hl r nd => exact .obj (fun z => by rw [z] at nb; cases nb) h0 hb hl r nd
  | brw h0 r => cases nb
  | nst h0 hl hp rp hq rq nd => exact .nst h0 hl hp rp hq rq nd
theorem Slots'.go (S : Slots' G pn H0 B H σ ρ ow) (g : Go B H B1 H1) : Slots' G pn H0 B1 H1 σ ρ ow :=
  ⟨S.len, S.ex0.trans g.hh, g.bh, fun i s h => by
    obtain ⟨v, h1, h2⟩ := S.ok i s h
    exact ⟨v, h1, h2.go g⟩, S.ap⟩
theorem Slots.go (S : Slots G pn H0 B H σ ρ) (g : Go B H B1 H1) : Slots G pn H0 B1 H1 σ ρ := ⟨_, S.choose_spec.go g⟩
theorem Slots.ex (S : Slots G pn H0 B H σ ρ) : Ex B H := S.choose_spec.ex
theorem Slots.ex0 (S : Slots G pn H0 B H σ ρ) : Ex H0 H := S.choose_spec.ex0
theorem Slots.len (S : Slots G pn H0 B H σ ρ) : σ.length = ρ.length := S.choose_spec.len
/-- a value by the side of the slots -/
def SlotsV (G : Gm) (pn : Addr) (H0 B H : Hp) (σ : L2.St) (ρ : En) (v : V) (s : SV) : Prop := ∃ ow as, Slots' G pn H0 B H σ ρ ow ∧ SlotOk G pn H0 B H v s as ∧ ∀ a, a ∈ as → ∀ (j : Nat) (t : SV), ρ[j]? = some (some t) → ¬ a ∈ ow j
theorem SlotsV.s {v : V} {s : SV} (h : SlotsV G pn H0 B H σ ρ v s) : Slots G pn H0 B H σ ρ := h.elim fun ow h => h.elim fun as h => ⟨ow, h.1⟩
theorem set_look {ρ : En} {i : Nat} {s : Option SV} (j : Nat) (t : SV) (q : (ρ.set i s)[j]? = some (some t)) : (j = i ∧ s = some t ∧ i < ρ.length) ∨ (j ≠ i ∧ ρ[j]? = some (some t)) := by
  by_cases c : i = j
  · subst c
    by_cases hi : i < ρ.length
    · rw [List.getElem?_set_self hi] at q
      exact .inl ⟨rfl, Option.some.inj q, hi⟩
    · rw [List.getElem?_eq_none (by rw [List.length_set]; omega)] at q
      cases q
  · rw [List.getElem?_set_ne c] at q
    exact .inr ⟨fun z => c z.symm, q⟩
def ow1 (ow : Nat → List Addr) (i : Nat) (as : List Addr) : Nat → List Addr := fun j => if j = i then as else ow j
theorem ow1_same {i : Nat} {as : List Addr} : ow1 ow i as i = as := if_pos rfl
theorem ow1_ne {i j : Nat} {as : List Addr} (h : j ≠ i) : ow1 ow i as j = ow j := if_neg h
/-- a slot is stored anew -/
theorem SlotsV.set {v : V} {s : SV} (h : SlotsV G pn H0 B H σ ρ v s) (i : Nat) : Slots G pn H0 B H (σ.set i (some v)) (ρ.set i (some s)) := by
  obtain ⟨ow, as, S, ok, no⟩ := h
  refine ⟨ow1 ow i as, by rw [List.length_set, List.length_set]; exact S.len, S.ex0, S.ex, fun j t q => ?_, fun j k sj sk a q1 q2 m1 m2 => ?_⟩
  · rcases set_look j t q with ⟨rfl, e, hi⟩ | ⟨c, q⟩
    · cases e
      exact ⟨v, List.getElem?_set_self (by rw [S.len]; exact hi), by rw [ow1_same]; exact ok⟩
    · obtain ⟨w, h1, h2⟩ := S.ok j t q
      exact ⟨w, by rw [List.getElem?_set_ne (fun z => c z.symm)]; exact h1, by rw [ow1_ne c]; exact h2⟩
  · rcases set_look j sj q1 with ⟨e1, e2, hi⟩ | ⟨c, p1⟩
    · rcases set_look k sk q2 with ⟨e3, e4, _⟩ | ⟨c2, p2⟩
      · rw [e1, e3]
      · rw [e1, ow1_same] at m1
        rw [ow1_ne c2] at m2
        exact absurd m2 (no a m1 k sk p2)
    · rcases set_look k sk q2 with ⟨e3, e4, hi⟩ | ⟨c2, p2⟩
      · rw [e3, ow1_same] at m2
        rw [ow1_ne c] at m1
        exact absurd m1 (no a m2 j sj p1)
      · rw [ow1_ne c] at m1
        rw [ow1_ne c2] at m2
        exact S.ap j k sj sk a p1 p2 m1 m2
theorem Slots.setD (S : Slots G pn H0 B H σ ρ) {i : Nat} {v : V} {x : D} (h : Rep G B v x) : Slots G pn H0 B H (σ.set i (some v)) (ρ.set i (some (.d x))) :=
  SlotsV.set (s := .d x) (S.elim fun ow S => ⟨ow, [], S, .fv (.d h), fun a m => nomatch m⟩) i
/-- what is new lies in no slot -/
theorem Slots'.fresh (S : Slots' G pn H0 B H σ ρ ow) {a : Addr} (h : H a = none) (j : Nat) (t : SV) (q : ρ[j]? = some (some t)) : ¬ a ∈ ow j := fun m => by
  obtain ⟨v, h1, h2⟩ := S.ok j t q
  obtain ⟨_, _, o, hl⟩ := h2.addr m
  rw [h] at hl
  cases hl
theorem SlotsV.mk {v : V} {s : SV} {as : List Addr} (S : Slots G pn H0 B H σ ρ) (g : Go B H B1 H1) (nb : s.isBrw = false) (h : SlotOk G pn H B1 H1 v s as) : SlotsV G pn H0 B1 H1 σ ρ v s := by
  obtain ⟨ow, S⟩ := S
  refine ⟨ow, as, S.go g, h.base nb fun a m => none_of_ex S.ex0 (h.addr m).1, fun a m j t q => S.fresh (h.addr m).1 j t q⟩
/-- what is ours through slot i changes, or stands for good: elsewhere all stands -/
theorem Slots'.others (S : Slots' G pn H0 B H σ ρ ow) {i : Nat} {s0 : SV} {s : Option SV} {as' : List Addr} {B' H' : Hp} (hi : ρ[i]? = some (some s0)) (z : Off (ow i) B H B' H')
    (ex0 : Ex H0 H') (ex1 : Ex B' H') (new : ∀ t, s = some t → ∃ v, σ[i]? = some (some v) ∧ SlotOk G pn H0 B' H' v t as') (sub : ∀ a, a ∈ as' → a ∈ ow i ∨ H a = none) : Slots' G pn H0 B' H' σ (ρ.set i s) (ow1 ow i as') := by
  refine ⟨by rw [List.length_set]; exact S.len, ex0, ex1, fun j t q => ?_, fun j k sj sk a q1 q2 m1 m2 => ?_⟩
  · rcases set_look j t q with ⟨rfl, e, _⟩ | ⟨c, q⟩
    · rw [ow1_same]
      exact new t e
    · obtain ⟨w, hw, ok⟩ := S.ok j t q
      refine ⟨w, hw, ?_⟩
      rw [ow1_ne c]
      exact ok.off z fun a m m2 => c (S.ap i j s0 t a hi q m2 m).symm
  · have key : ∀ (j : Nat) (t : SV), (ρ.set i s)[j]? = some (some t) → a ∈ ow1 ow i as' j → (∃ t', ρ[j]? = some (some t') ∧ a ∈ ow j) ∨ (j = i ∧ H a = none) := fun j t q m => by
      rcases set_look j t q with ⟨e1, e2, _⟩ | ⟨c, p⟩
      · rw [e1, ow1_same] at m
        rcases sub a m with m | m
        · exact .inl ⟨s0, by rw [e1]; exact hi, by rw [e1]; exact m⟩
        · exact .inr ⟨e1, m⟩
      · rw [ow1_ne c] at m
        exact .inl ⟨t, p, m⟩
    rcases key j sj q1 m1 with ⟨t1, p1, n1⟩ | ⟨e1, n1⟩
    · rcases key k sk q2 m2 with ⟨t2, p2, n2⟩ | ⟨e2, n2⟩
      · exact S.ap j k t1 t2 a p1 p2 n1 n2
      · exact absurd n1 (S.fresh n2 j t1 p1)
    · rcases key k sk q2 m2 with ⟨t2, p2, n2⟩ | ⟨e2, n2⟩
      · exact absurd n2 (S.fresh n1 k t2 p2)
      · rw [e1, e2]
theorem Off.up {a : Addr} {o : HO} {cs : List Addr} (m : a ∈ cs) : Off cs B H B (upd H a o) := ⟨Ex.refl B, fun _ _ _ _ h => h, fun b u h nb => by
  rw [upd_ne fun z => nb (by rw [z]; exact m)]
  exact h⟩
/-- an object of ours at the top of a slot changes -/
theorem Slots.up (S : Slots G pn H0 B H σ ρ) {i : Nat} {x x' : FV} {a : Addr} {o o' : HO} (hi : ρ[i]? = some (some (.fv x))) (hs : σ[i]? = some (some (.ref a))) (hx : Ho G B o x) (hx' : Ho G B o' x') :
    Slots G pn H0 B (upd H a o') σ (ρ.set i (some (.fv x'))) := by
  obtain ⟨ow, S⟩ := S
  obtain ⟨v, h1, h2⟩ := S.ok i _ hi
  rw [hs] at h1
  have e := Option.some.inj (Option.some.inj h1)
  subst e
  generalize hw : ow i = cs at h2
  cases h2 with
  | fv h2 =>
    cases h2 with
    | d r => cases hx
    | own h0 hb' hl r =>
      refine ⟨_, S.others (as' := [a]) hi (hw ▸ Off.up (List.mem_singleton.mpr rfl)) (upd_ex S.ex0 h0) (upd_ex S.ex hb') (fun t e => ?_) (fun b m => .inl (hw ▸ m))⟩
      cases e
      exact ⟨_, hs, .fv (.own h0 hb' upd_same hx')⟩
/-- what a slot holds -/
theorem Slots.own (S : Slots G pn H0 B H σ ρ) {i : Nat} {x : FV} (hi : ρ[i]? = some (some (.fv x))) (nd : ∀ y, x ≠ .d y) : ∃ a o, σ[i]? = some (some (.ref a)) ∧ B a = none ∧ H a = some o ∧ Ho G B o x := by
  obtain ⟨ow, S⟩ := S
  obtain ⟨v, h1, h2⟩ := S.ok i _ hi
  generalize ow i = cs at h2
  cases h2 with
  | fv h2 =>
    cases h2 with
    | d r => exact absurd rfl (nd _)
    | own h0 hb' hl r => exact ⟨_, _, h1, hb', hl, r⟩
theorem Slots.data (S : Slots G pn H0 B H σ ρ) {i : Nat} {x : D} (hi : ρ[i]? = some (some (.d x))) : ∃ v, σ[i]? = some (some v) ∧ Rep G B v x := by
  obtain ⟨ow, S⟩ := S
  obtain ⟨v, h1, h2⟩ := S.ok i _ hi
  generalize ow i = cs at h2
  cases h2 with
  | fv h2 =>
    generalize hx : FV.d x = y at h2
    cases h2 with
    | d r =>
      cases hx
      exact ⟨v, h1, r⟩
    | own h0 hb' hl r =>
      subst hx
      cases r
theorem Slots.lent (S : Slots G pn H0 B H σ ρ) {i : Nat} {ds : List D} (hi : ρ[i]? = some (some (.brw ds))) : ∃ a vs, σ[i]? = some (some (.ref a)) ∧ H0 a = some (.lst vs) ∧ Reps G B vs ds := by
  obtain ⟨ow, S⟩ := S
  obtain ⟨v, h1, h2⟩ := S.ok i _ hi
  generalize ow i = cs at h2
  cases h2 with
  | brw h0 r => exact ⟨_, _, h1, h0, r⟩
theorem Slots.obj (S : Slots G pn H0 B H σ ρ) {i c : Nat} {sf : Bool} {fs : List (Str × FV)} (hi : ρ[i]? = some (some (.obj sf c fs))) : ∃ l dx fv ow as, (sf = true → l = pn) ∧ Slots' G pn H0 B H σ ρ ow ∧ ow i = l :: as ∧ σ[i]? = some (some (.ref l)) ∧ H0 l = none ∧ B l = none ∧ H l = some (.ins (G.cm c) dx fv) ∧ FsOk G H0 B H fv fs as ∧ (l :: as).Nodup := by
  obtain ⟨ow, S⟩ := S
  obtain ⟨v, h1, h2⟩ := S.ok i _ hi
  generalize hw : ow i = cs at h2
  cases h2 with
  | obj zs h0 hb hl r nd => exact ⟨_, _, _, ow, _, zs, S, hw, h1, h0, hb, hl, r, nd⟩
theorem Slots.nst (S : Slots G pn H0 B H σ ρ) {i : Nat} {xs ys : List D} (hi : ρ[i]? = some (some (.nst xs ys))) : ∃ l p q us ws ow, Slots' G pn H0 B H σ ρ ow ∧ ow i = [l, p, q] ∧ σ[i]? = some (some (.ref l)) ∧ (∀ a, a ∈ [l, p, q] → H0 a = none ∧ B a = none) ∧ H l = some (.lst [.ref p, .ref q]) ∧ H p = some (.lst us) ∧ Reps G B us xs ∧ H q = some (.lst ws) ∧ Reps G B ws ys ∧ [l, p, q].Nodup := by
  obtain ⟨ow, S⟩ := S
  obtain ⟨v, h1, h2⟩ := S.ok i _ hi
  generalize hw : ow i = cs at h2
  cases h2 with
  | nst h0 hl hp rp hq rq nd => exact ⟨_, _, _, _, _, ow, S, hw, h1, h0, hl, hp, rp, hq, rq, nd⟩
/-- one of two lists within a list changes -/
theorem Slots.upN (S : Slots G pn H0 B H σ ρ) {i : Nat} {xs ys ds : List D} {vs : List V} {k : Bool} (hi : ρ[i]? = some (some (.nst xs ys))) (hr : Reps G B vs ds) :
    ∃ l p q us ws, σ[i]? = some (some (.ref l)) ∧ H l = some (.lst [.ref p, .ref q]) ∧ H p = some (.lst us) ∧ H q = some (.lst ws) ∧ Slots G pn H0 B (upd H (if k then q else p) (.lst vs)) σ (ρ.set i (some (if k then .nst xs ds else .nst ds ys))) := by
  obtain ⟨l, p, q, us, ws, ow, S', e1, e2, h0, hl, hp, rp, hq, rq, nd⟩ := S.nst hi
  obtain ⟨n1, nd'⟩ := List.nodup_cons.mp nd
  obtain ⟨n2, _⟩ := List.nodup_cons.mp nd'
  have lp : l ≠ p := fun z => n1 (z ▸ List.mem_cons_self)
  have lq : l ≠ q := fun z => n1 (z ▸ List.mem_cons_of_mem _ List.mem_cons_self)
  have pq : p ≠ q := fun z => n2 (z ▸ List.mem_cons_self)
  refine ⟨l, p, q, us, ws, e2, hl, hp, hq, ?_⟩
  cases k with
  | false =>
    refine ⟨_, S'.others (as' := [l, p, q]) hi (e1 ▸ Off.up nst_p) (upd_ex S'.ex0 (h0 _ nst_p).1) (upd_ex S'.ex (h0 _ nst_p).2) (fun t e => ?_) fun b m => .inl (e1 ▸ m)⟩
    cases e
    exact ⟨_, e2, .nst h0 (by rw [if_neg (by decide), upd_ne lp]; exact hl) (by rw [if_neg (by decide)]; exact upd_same) hr (by rw [if_neg (by decide), upd_ne pq.symm]; exact hq) rq nd⟩
  | true =>
    refine ⟨_, S'.others (as' := [l, p, q]) hi (e1 ▸ Off.up nst_q) (upd_ex S'.ex0 (h0 _ nst_q).1) (upd_ex S'.ex (h0 _ nst_q).2) (fun t e => ?_) fun b m => .inl (e1 ▸ m)⟩
    cases e
    exact ⟨_, e2, .nst h0 (by rw [if_pos rfl, upd_ne lq]; exact hl) (by rw [if_pos rfl, upd_ne pq]; exact hp) rp (by rw [if_pos rfl]; exact upd_same) hr nd⟩
/-- a slot's object stands for good from now on; a slot is forgotten -/
theorem Slots.freeze (S : Slots G pn H0 B H σ ρ) {i : Nat} {s : SV} (hi : ρ[i]? = some (some s)) (nb : s.isBrw = false) : ∃ B', Ex B B' ∧ (∀ a o, H0 a = some o → B a = none → B' a = none) ∧ Slots G pn H0 B' H σ (ρ.set i (some (.d s.dat))) := by
  obtain ⟨ow, S⟩ := S
  obtain ⟨v, h1, h2⟩ := S.ok i _ hi
  obtain ⟨B1, a1, a2, a3, a4⟩ := h2.freeze nb S.ex
  refine ⟨B1, a1, fun a o q1 q2 => a4 a (fun m => ?_) q2, _, S.others (as' := []) hi ⟨a1, fun b o _ nb hb => a4 b nb hb, fun b o h _ => h⟩ S.ex0 a2 (fun t e => ?_) fun a m => nomatch m⟩
  · have := (h2.addr m).1
    rw [q1] at this
    cases this
  · cases e
    exact ⟨v, h1, .fv (.d a3)⟩
theorem Slots.drop (S : Slots G pn H0 B H σ ρ) (i : Nat) : Slots G pn H0 B H σ (ρ.set i none) := by
  obtain ⟨ow, S⟩ := S
  refine ⟨ow, by rw [List.length_set]; exact S.len, S.ex0, S.ex, fun j t q => ?_, fun j k sj sk a q1 q2 m1 m2 => ?_⟩
  · rcases set_look j t q with ⟨_, e, _⟩ | ⟨_, q⟩
    · cases e
    · exact S.ok j t q
  · rcases set_look j sj q1 with ⟨_, e, _⟩ | ⟨_, p1⟩
    · cases e
    · rcases set_look k sk q2 with ⟨_, e, _⟩ | ⟨_, p2⟩
      · cases e
      · exact S.ap j k sj sk a p1 p2 m1 m2
/-- a slot's own object moves out of it -/
theorem Slots.move (S : Slots G pn H0 B H σ ρ) {i : Nat} {s : SV} (hi : ρ[i]? = some (some s)) : ∃ v, σ[i]? = some (some v) ∧ SlotsV G pn H0 B H σ (ρ.set i none) v s := by
  have S2 := S.drop i
  obtain ⟨ow, S⟩ := S
  obtain ⟨v, h1, h2⟩ := S.ok i _ hi
  refine ⟨v, h1, ow, ow i, ?_, h2, fun a m j t q m2 => ?_⟩
  · refine ⟨by rw [List.length_set]; exact S.len, S.ex0, S.ex, fun j t q => ?_, fun j k sj sk a q1 q2 m1 m2 => ?_⟩
    · rcases set_look j t q with ⟨_, e, _⟩ | ⟨_, q⟩
      · cases e
      · exact S.ok j t q
    · rcases set_look j sj q1 with ⟨_, e, _⟩ | ⟨_, p1⟩
      · cases e
      · rcases set_look k sk q2 with ⟨_, e, _⟩ | ⟨_, p2⟩
        · cases e
        · exact S.ap j k sj sk a p1 p2 m1 m2
  · rcases set_look j t q with ⟨_, e, _⟩ | ⟨c, q⟩
    · cases e
    · exact c (S.ap i j s t a hi q m m2).symm
/-! ### attributes of an object of ours -/
def putX (f : Str) (d : FV) : List (Str × FV) → List (Str × FV)
  | [] => [(f, d)]
  | (g, x) :: r => if g = f then (g, d) :: r else (g, x) :: putX f d r
theorem FsOk.put {f : Str} {v : V} {x : FV} {bs : List Addr} (h : FvOk G H0 B H v x bs) : ∀ {fv : List (Str × V)} {fs : List (Str × FV)} {as : List Addr}, FsOk G H0 B H fv fs as → as.Nodup → bs.Nodup → (∀ a, a ∈ bs → ¬ a ∈ as) →
    ∃ cs, FsOk G H0 B H (putF f v fv) (putX f x fs) cs ∧ cs.Nodup ∧ ∀ a, a ∈ cs → a ∈ as ∨ a ∈ bs
  | _, _, _, .nil, _, nb, _ => ⟨bs ++ [], .cons h .nil, by rw [List.append_nil]; exact nb, fun a m => .inr (by rw [List.append_nil] at m; exact m)⟩
  | _, _, _, .cons (f := g) (as := cs) (bs := ds) h1 r, n, nb, no => by
    obtain ⟨n1, n2, n3⟩ := List.nodup_append.mp n
    unfold putF putX
    by_cases c : g = f
    · rw [if_pos c, if_pos c]
      exact ⟨bs ++ ds, .cons h r, List.nodup_append.mpr ⟨nb, n2, fun a ha b hb e => no a ha (List.mem_append_right _ (e ▸ hb))⟩, fun a m => (List.mem_append.mp m).elim .inr fun m => .inl (List.mem_append_right _ m)⟩
    · rw [if_neg c, if_neg c]
      obtain ⟨es, e1, e2, e3⟩ := FsOk.put h r n2 nb fun a m z => no a m (List.mem_append_right _ z)
      refine ⟨cs ++ es, .cons h1 e1, List.nodup_append.mpr ⟨n1, e2, fun a ha b hb e => ?_⟩, fun a m => (List.mem_append.mp m).elim (fun m => .inl (List.mem_append_left _ m)) fun m => (e3 a m).imp (List.mem_append_right _) id⟩
      rcases e3 b hb with m | m
      · exact n3 a ha b m e
      · exact no b m (List.mem_append_left _ (e ▸ ha))
/-- an attribute that is ours changes -/
theorem FsOk.up {f : Str} {x x' : FV} {o' : HO} (hx : ∀ y, x ≠ .d y) (hx' : Ho G B o' x') : ∀ {fv : List (Str × V)} {fs : List (Str × FV)} {as : List Addr}, FsOk G H0 B H fv fs as → as.Nodup → fs.lookup f = some x →
    ∃ a o, fv.lookup f = some (.ref a) ∧ a ∈ as ∧ B a = none ∧ H a = some o ∧ Ho G B o x ∧ FsOk G H0 B (upd H a o') fv (putX f x' fs) as
  | _, _, _, .nil, _, h => by simp [List.lookup] at h
  | _, _, _, .cons (f := g) (v := v) (as := cs) (bs := ds) h r, n, e => by
    obtain ⟨n1, n2, n3⟩ := List.nodup_append.mp n
    unfold putX
    cases c : (f == g) with
    | true =>
      rw [List.lookup_cons, c] at e
      have e' := Option.some.inj e
      subst e'
      rw [if_pos (eq_of_beq c).symm]
      cases h with
      | d r' => exact absurd rfl (hx _)
      | @own a o _ h0 hb hl ho =>
        refine ⟨a, o, by rw [List.lookup_cons, c], List.mem_append_left _ (List.mem_singleton.mpr rfl), hb, hl, ho, .cons (.own h0 hb upd_same hx') (r.off (Off.up (cs := [a]) (List.mem_singleton.mpr rfl)) fun b m m2 => n3 a (List.mem_singleton.mpr rfl) b m (List.mem_singleton.mp m2).symm)⟩
    | false =>
      rw [List.lookup_cons, c] at e
      rw [if_neg fun z => by rw [z, beq_self_eq_true] at c; cases c]
      obtain ⟨a, o, k1, k2, k3, k4, k5, k6⟩ := FsOk.up hx hx' r n2 e
      exact ⟨a, o, by rw [List.lookup_cons, c]; exact k1, List.mem_append_right _ k2, k3, k4, k5, .cons (h.off (Off.up (cs := [a]) (List.mem_singleton.mpr rfl)) fun b m m2 => n3 b m a k2 (List.mem_singleton.mp m2)) k6⟩
theorem Slots.upF (S : Slots G pn H0 B H σ ρ) {i c : Nat} {sf : Bool} {fs : List (Str × FV)} {f : Str} {x x' : FV} {o' : HO} (hi : ρ[i]? = some (some (.obj sf c fs))) (hf : fs.lookup f = some x) (hx : ∀ y, x ≠ .d y) (hx' : Ho G B o' x') :
    ∃ l dx fv a o, σ[i]? = some (some (.ref l)) ∧ H l = some (.ins (G.cm c) dx fv) ∧ fv.lookup f = some (.ref a) ∧ B a = none ∧ H a = some o ∧ Ho G B o x ∧ Slots G pn H0 B (upd H a o') σ (ρ.set i (some (.obj sf c (putX f x' fs)))) := by
  obtain ⟨l, dx, fv, ow, as, zs, S', e1, e2, e3, e4, e5, e6, e7⟩ := S.obj hi
  obtain ⟨n1, n2⟩ := List.nodup_cons.mp e7
  obtain ⟨a, o, k1, k2, k3, k4, k5, k6⟩ := e6.up hx hx' n2 hf
  have nal : l ≠ a := fun z => n1 (z ▸ k2)
  refine ⟨l, dx, fv, a, o, e2, e5, k1, k3, k4, k5, _, S'.others (as' := l :: as) hi (e1 ▸ Off.up (List.mem_cons_of_mem _ k2)) (upd_ex S'.ex0 (e6.addr k2).1) (upd_ex S'.ex k3) (fun t e => ?_) fun b m => .inl (e1 ▸ m)⟩
  cases e
  exact ⟨_, e2, .obj zs e3 e4 (by rw [upd_ne nal]; exact e5) k6 e7⟩
/-- an attribute is stored -/
theorem SlotsV.fld {v : V} {x : FV} {i c : Nat} {sf : Bool} {fs : List (Str × FV)} (h : SlotsV G pn H0 B H σ ρ v (.fv x)) (f : Str) (hi : ρ[i]? = some (some (.obj sf c fs))) : ∃ l dx fv, σ[i]? = some (some (.ref l)) ∧ H l = some (.ins (G.cm c) dx fv) ∧ fv.length = fs.length ∧
    Slots G pn H0 B (upd H l (.ins (G.cm c) dx (putF f v fv))) σ (ρ.set i (some (.obj sf c (putX f x fs)))) := by
  obtain ⟨ow, bs, S', ok, no⟩ := h
  obtain ⟨u, h1, h2⟩ := S'.ok i _ hi
  have no1 := no
  generalize hw : ow i = cs at h2
  cases ok with
  | fv ok =>
  cases h2 with
  | @obj _ l dx _ fv _ as zs h0 hb hl r nd =>
    obtain ⟨n1, n2⟩ := List.nodup_cons.mp nd
    have nob : ∀ a, a ∈ bs → ¬ a ∈ l :: as := fun a m z => no a m i _ hi (hw ▸ z)
    have z : Off [l] B H B (upd H l (.ins (G.cm c) dx (putF f v fv))) := Off.up (List.mem_singleton.mpr rfl)
    have nb : bs.Nodup := by
      cases ok with
      | d r => exact List.nodup_nil
      | own _ _ _ _ => exact List.nodup_cons.mpr ⟨List.not_mem_nil, List.nodup_nil⟩
    have r' := r.off z fun a m m2 => n1 (List.mem_singleton.mp m2 ▸ m)
    have ok' := ok.off z fun a m m2 => nob a m (List.mem_cons.mpr (.inl (List.mem_singleton.mp m2)))
    obtain ⟨es, k1, k2, k3⟩ := r'.put (f := f) ok' n2 nb fun a m z => nob a m (List.mem_cons_of_mem _ z)
    have nl : ¬ l ∈ es := fun m => (k3 l m).elim n1 fun m => nob l m List.mem_cons_self
    -- the slots: first those of the value's addresses are nobody's; then i takes them
    refine ⟨l, dx, fv, h1, hl, r.len, ow1 ow i (l :: es), by rw [List.length_set]; exact S'.len, upd_ex S'.ex0 h0, upd_ex S'.ex hb, fun j t q => ?_, fun j k sj sk a q1 q2 m1 m2 => ?_⟩
    · rcases set_look j t q with ⟨rfl, e, _⟩ | ⟨c', q⟩
      · cases e
        rw [ow1_same]
        exact ⟨_, h1, .obj zs h0 hb upd_same k1 (List.nodup_cons.mpr ⟨nl, k2⟩)⟩
      · obtain ⟨w, hw', ok2⟩ := S'.ok j t q
        refine ⟨w, hw', ?_⟩
        rw [ow1_ne c']
        exact ok2.off z fun a m m2 => c' (S'.ap j i t _ a q hi m (hw ▸ List.mem_cons.mpr (.inl (List.mem_singleton.mp m2))))
    · have key : ∀ (j : Nat) (t : SV), (ρ.set i (some (.obj sf c (putX f x fs))))[j]? = some (some t) → a ∈ ow1 ow i (l :: es) j → (∃ t', ρ[j]? = some (some t') ∧ a ∈ ow j) ∨ (j = i ∧ a ∈ bs) := fun j t q m => by
        rcases set_look j t q with ⟨e1, e2, _⟩ | ⟨c', p⟩
        · rw [e1, ow1_same] at m
          rcases List.mem_cons.mp m with m | m
          · exact .inl ⟨_, by rw [e1]; exact hi, by rw [e1, hw]; exact List.mem_cons.mpr (.inl m)⟩
          · rcases k3 a m with m | m
            · exact .inl ⟨_, by rw [e1]; exact hi, by rw [e1, hw]; exact List.mem_cons_of_mem _ m⟩
            · exact .inr ⟨e1, m⟩
        · rw [ow1_ne c'] at m
          exact .inl ⟨t, p, m⟩
      rcases key j sj q1 m1 with ⟨t1, p1, n1'⟩ | ⟨e1, n1'⟩
      · rcases key k sk q2 m2 with ⟨t2, p2, n2'⟩ | ⟨e2, n2'⟩
        · exact S'.ap j k t1 t2 a p1 p2 n1' n2'
        · exact absurd n1' (no a n2' j t1 p1)
      · rcases key k sk q2 m2 with ⟨t2, p2, n2'⟩ | ⟨e2, n2'⟩
        · exact absurd n2' (no a n1' k t2 p2)
        · rw [e1, e2]
end
end Ci
end

section
set_option Elab.async false
set_option linter.all false
set_option maxRecDepth 100000
set_option maxHeartbeats 2000000
/-! ## a tuple times one is the tuple itself -/
namespace Ci
open PySem PySem.Spec PyProof.Rows L2
theorem tuple_mul1 (l : Addr) (items : Array Value) (n : Nat) (dd : Option Addr) (sl : Array (Option Value)) (u : Tok) :
    Meets (Builtin.«tuple.__mul__» ⟨[.ref l, .int 1 u], []⟩) (fun _ R s => s.heap.get? l = some { cls := .type "tuple", dict := dd, data := .seq items n, slots := sl } ∧
      R (.ok (.ret (Value.ref l))) s) :=
  .of_wp fun prog w A R s h => by
    obtain ⟨hp, g, d, tk, os⟩ := s
    obtain ⟨hl, h⟩ := h
    have f1 := AutoSeq1.idx_int
    have c0 : (decide ((1 : Int) < -(2 ^ 63)) || decide ((1 : Int) ≥ 2 ^ 63)) = false := by decide
    have c1 : (items.isEmpty || (1 : Int) == 1) = true := by rw [show ((1 : Int) == 1) = true from rfl, Bool.or_true]
    wp_walk using wpAny_loadPart' hl
    repeat (first
      | (refine wpAny_ite_false (decide_eq_false (by rw [c0]; exact Bool.false_ne_true)) ?_; wp_walk using wpAny_loadPart' hl)
      | (refine wpAny_ite_true (decide_eq_true c1) ?_; wp_walk using wpAny_loadPart' hl))
    exact ⟨_, rfl, h⟩
def rRepT1 (K : PySem.W.Frag) : R2 := fun x y H Q => ∃ l xs, x = .ref l ∧ y = .int 1 ∧ SqT K H l xs ∧ Q (.ref l) H
theorem op_repT1 {X : Cx} : OpR X (binaryOp .Mult) (rRepT1 X.K) := by
  intro pins s σ H x y v u Q I rx ry h
  obtain ⟨l, xs, rfl, rfl, hT, q⟩ := h
  cases rx
  obtain ⟨t, rfl⟩ := ry
  obtain ⟨its, r, ⟨⟨cls, dd, data, sl⟩, ho, hc, n, hd⟩, hs⟩ := I.tuple hT
  simp only at hc hd
  subst hc hd
  refine wpAny_binaryOp_repeat_ref (T := "tuple") (U := "int") (by decide) ⟨_, ho, rfl⟩ (fun s' => typeIs_int s' 1 t) noFill_tuple_mul F.fills_int_mul F.slot_int_rmul repeat_tuple F.slot_int_index.lookup
    (call_meets F.slot_int_rmul (typeIs_int s 1 t) F.entry_int_rmul (F.args_int_rmul_2 _ _) (int_rmul_tuple 1 t l its.toArray n dd sl)
      ⟨ho, rfl, ⟨_, ho, rfl⟩, call_meets F.slot_tuple_mul ⟨_, ho, rfl⟩ F.entry_tuple_mul (F.args_tuple_mul_2 _ _) (tuple_mul1 l its.toArray n dd sl t) ⟨ho, ?_⟩⟩)
  exact ⟨.ref l, H, I, rfl, q⟩
end Ci
end

section
set_option Elab.async false
set_option linter.all false
set_option maxRecDepth 100000
set_option maxHeartbeats 2000000
/-! ## values, results, operations by values -/
namespace Ci
open PySem PySem.Spec PyProof.Rows L2 Evl

/-- a value: data, an object of ours; or a look at an object of ours -/
inductive RV where
  | sv (s : SV) | vw (x : FV)
  deriving Inhabited
abbrev dv (d : D) : RV := .sv (.fv (.d d))
abbrev ov (x : FV) : RV := .sv (.fv x)
inductive R (α : Type) where
  | ok (a : α) | err (x : Nat) (f : Option (Str × D)) | bad
def R.bind {α β : Type} : R α → (α → R β) → R β
  | .ok a, k => k a
  | .err x f, _ => .err x f
  | .bad, _ => .bad
@[simp] theorem R.bind_ok {α β : Type} (a : α) (k : α → R β) : (R.ok a).bind k = k a := rfl
@[simp] theorem R.bind_err {α β : Type} (x : Nat) (f : Option (Str × D)) (k : α → R β) : (R.err x f).bind k = .err x f := rfl
@[simp] theorem R.bind_bad {α β : Type} (k : α → R β) : (R.bad).bind k = .bad := rfl
def R.ofO {α : Type} : Option α → R α
  | some a => .ok a
  | none => .bad

inductive RvOk (G : Gm) (Hi B H : Hp) : V → RV → Prop
  | sv {v : V} {s : SV} {as : List Addr} : s.isBrw = false → SlotOk G 0 Hi B H v s as → RvOk G Hi B H v (.sv s)
  | vw {a : Addr} {o : HO} {x : FV} : H a = some o → Ho G B o x → RvOk G Hi B H (.ref a) (.vw x)
def XOk (G : Gm) (E : XK) (B H : Hp) (x : Nat) : Option (Str × D) → Prop
  | none => ∀ B' H', Go B H B' H' → E (.ref (G.ca x)) none H'
  | some (g, d) => ∀ B' H' dd v, Go B H B' H' → H' dd = some (.xd [(g, v)]) → Rep G B' v d → E (.ref (G.ca x)) (some dd) H'
/-- what a caller wants of a result -/
def Post (G : Gm) (E : XK) {α β : Type} (rel : Hp → Hp → Hp → β → α → Prop) (B H : Hp) (r : R α) (Q : β → Hp → Prop) : Prop := match r with
  | .ok a => ∀ b B' H', Go B H B' H' → rel H B' H' b a → Q b H'
  | .err x f => XOk G E B H x f
  | .bad => False
section
variable {G : Gm} {E : XK} {B H B1 H1 : Hp} {α β γ δ : Type} {rel : Hp → Hp → Hp → β → α → Prop} {rel' : Hp → Hp → Hp → δ → γ → Prop} {Q : β → Hp → Prop} {Q' : δ → Hp → Prop}
theorem XOk.go {x : Nat} {f : Option (Str × D)} (g : Go B H B1 H1) (h : XOk G E B H x f) : XOk G E B1 H1 x f := by
  cases f with
  | none => exact fun B2 H2 g2 => h B2 H2 (g.trans g2)
  | some p => exact fun B2 H2 dd v g2 a r => h B2 H2 dd v (g.trans g2) a r
/-- relations that an earlier entry keeps -/
def Early (rel : Hp → Hp → Hp → β → α → Prop) : Prop := ∀ Hi Hj B H b a, Ex Hi Hj → rel Hj B H b a → rel Hi B H b a
theorem Post.go {r : R α} (e : Early rel) (g : Go B H B1 H1) (h : Post G E rel B H r Q) : Post G E rel B1 H1 r Q := by
  cases r with
  | ok a => exact fun b B2 H2 g2 q => h b B2 H2 (g.trans g2) (e _ _ _ _ _ _ g.hh q)
  | err x f => exact XOk.go g h
  | bad => exact h
theorem Post.bind {r : R γ} {k : γ → R α} (P : Post G E rel B H (r.bind k) Q) (hk : ∀ c, r = .ok c → Post G E rel B H (k c) Q → ∀ b B' H', Go B H B' H' → rel' H B' H' b c → Q' b H') : Post G E rel' B H r Q' := by
  cases r with
  | ok c => exact fun b B' H' g q => hk c rfl P b B' H' g q
  | err x f => exact P
  | bad => exact P
theorem SlotOk.early {Hi Hj : Hp} {v : V} {s : SV} {as : List Addr} (nb : s.isBrw = false) (e : Ex Hi Hj) (h : SlotOk G 0 Hj B H v s as) : SlotOk G 0 Hi B H v s as := h.base nb fun a m => none_of_ex e (h.addr m).1
theorem RvOk.early : Early (RvOk G) := fun Hi Hj B H v rv e h => by
  cases h with
  | sv nb h => exact .sv nb (h.early nb e)
  | vw h1 h2 => exact .vw h1 h2
theorem RvOk.go {Hi : Hp} {v : V} {rv : RV} (g : Go B H B1 H1) (h : RvOk G Hi B H v rv) : RvOk G Hi B1 H1 v rv := by
  cases h with
  | sv nb h => exact .sv nb (h.go g)
  | vw h1 h2 => exact .vw (g.hh _ _ h1) (h2.mono g.bb)
theorem RvOk.d {Hi : Hp} {v : V} {d : D} (r : Rep G B v d) : RvOk G Hi B H v (dv d) := .sv rfl (.fv (.d r))
theorem RvOk.new {Hi : Hp} {p : Addr} {o : HO} {x : FV} (h0 : Hi p = none) (hb : B p = none) (hp : H p = some o) (r : Ho G B o x) : RvOk G Hi B H (.ref p) (ov x) := .sv rfl (.fv (.own h0 hb hp r))
/-- a new object of ours, answered -/
theorem Post.new {p : Addr} {o : HO} {x : FV} {Q : VK} (P : Post G E (RvOk G) B H (.ok (ov x)) Q) (e : Ex B H) (hp : H p = none) (r : Ho G B o x) : Q (.ref p) (upd H p o) :=
  P _ B _ (Go.newO e hp) (.new hp (none_of_ex e hp) upd_same r)
theorem Post.dat {v : V} {d : D} {Q : VK} (P : Post G E (RvOk G) B H (.ok (dv d)) Q) (e : Ex B H) (r : Rep G B v d) : Q v H := P _ B H (Go.refl e) (.d r)
theorem Post.tup {p : Addr} {vs : List V} {ds : List D} {Q : VK} (P : Post G E (RvOk G) B H (.ok (dv (.tup ds))) Q) (e : Ex B H) (hp : H p = none) (r : Reps G B vs ds) : Q (.ref p) (upd H p (.tup vs)) :=
  P _ _ _ (Go.new e hp) (.d (.tup (st_of upd_same) (r.mono (Ex.new (none_of_ex e hp)))))
/-- an own value becomes data -/
theorem RvOk.toD {Hi : Hp} {v : V} {s : SV} (h : RvOk G Hi B H v (.sv s)) (e : Ex B H) : ∃ B1, Rep G B1 v s.dat ∧ Ex B B1 ∧ Ex B1 H ∧ ∀ a o, Hi a = some o → B a = none → B1 a = none := by
  cases h with
  | sv nb h =>
    obtain ⟨B1, a1, a2, a3, a4⟩ := h.freeze nb e
    refine ⟨B1, a3, a1, a2, fun a o q1 q2 => a4 a (fun m => ?_) q2⟩
    have := (h.addr m).1
    rw [q1] at this
    cases this
end

/-! ### what is to be read -/
inductive Rdb (G : Gm) (B H : Hp) : V → D → Prop
  | rep {v : V} {d : D} : Rep G B v d → Rdb G B H v d
  | own {a : Addr} {o : HO} {x : FV} : H a = some o → Ho G B o x → Rdb G B H (.ref a) x.dat
def RV.rd : RV → R D
  | .sv (.fv x) => .ok x.dat
  | .vw x => .ok x.dat
  | _ => .bad
section
variable {G : Gm} {E : XK} {B H B1 H1 : Hp} {v : V}
theorem Rdb.go (g : Go B H B1 H1) {d : D} : Rdb G B H v d → Rdb G B1 H1 v d
  | .rep r => .rep (r.mono g.bb)
  | .own h r => .own (g.hh _ _ h) (r.mono g.bb)
theorem RvOk.rd {Hi : Hp} {rv : RV} {d : D} (h : RvOk G Hi B H v rv) (e : rv.rd = .ok d) : Rdb G B H v d := by
  cases h with
  | sv nb h =>
    cases h with
    | fv h =>
      cases e
      cases h with
      | d r => exact .rep r
      | own h0 hb hl r => exact .own hl r
    | obj => cases e
    | brw => cases nb
    | nst => cases e
  | vw h1 h2 =>
    cases e
    exact .own h1 h2
theorem Rdb.lst {ds : List D} (h : Rdb G B H v (.lst ds)) (e : Ex B H) : ∃ a vs, v = .ref a ∧ H a = some (.lst vs) ∧ Reps G B vs ds := by
  generalize hd : D.lst ds = d at h
  cases h with
  | rep r =>
    subst hd
    cases r with
    | lst h r => exact ⟨_, _, rfl, e _ _ h, r⟩
  | own h r =>
    cases r with
    | lst r =>
      cases hd
      exact ⟨_, _, rfl, h, r⟩
    | dk r => cases hd
    | dt r => cases hd
theorem Rdb.dk {ds : List (Key × D)} (h : Rdb G B H v (.dk ds)) (e : Ex B H) : ∃ a vs, v = .ref a ∧ H a = some (.dK vs) ∧ RepK G B vs ds := by
  generalize hd : D.dk ds = d at h
  cases h with
  | rep r =>
    subst hd
    cases r with
    | dk h r => exact ⟨_, _, rfl, e _ _ h, r⟩
  | own h r =>
    cases r with
    | lst r => cases hd
    | dk r =>
      cases hd
      exact ⟨_, _, rfl, h, r⟩
    | dt r => cases hd
theorem Rdb.dt {ds : List (List Key × D)} (h : Rdb G B H v (.dt ds)) (e : Ex B H) : ∃ a vs, v = .ref a ∧ H a = some (.dT vs) ∧ RepT G B vs ds := by
  generalize hd : D.dt ds = d at h
  cases h with
  | rep r =>
    subst hd
    cases r with
    | dt h r => exact ⟨_, _, rfl, e _ _ h, r⟩
  | own h r =>
    cases r with
    | lst r => cases hd
    | dk r => cases hd
    | dt r =>
      cases hd
      exact ⟨_, _, rfl, h, r⟩
def D.isRef : D → Bool
  | .lst _ => true
  | .dk _ => true
  | .dt _ => true
  | _ => false
theorem Rdb.plain {d : D} (h : Rdb G B H v d) (n : d.isRef = false) : Rep G B v d := by
  cases h with
  | rep r => exact r
  | own h r => cases r <;> cases n
theorem Rdb.int {i : Int} (h : Rdb G B H v (.int i)) : v = .int i := by
  cases h.plain rfl
  rfl
theorem Rdb.bl {i : Bool} (h : Rdb G B H v (.bl i)) : v = .bl i := by
  cases h.plain rfl
  rfl
theorem Rdb.non (h : Rdb G B H v .non) : v = .non := by
  cases h.plain rfl
  rfl
theorem Rdb.str {s : Str} (h : Rdb G B H v (.str s)) : v = .str s ∧ SOk s := by
  cases h.plain rfl
  exact ⟨rfl, by assumption⟩
theorem Rdb.tup {ds : List D} (h : Rdb G B H v (.tup ds)) (e : Ex B H) : ∃ a vs, v = .ref a ∧ SqT G.K H a vs ∧ Reps G B vs ds := by
  cases h.plain rfl with
  | tup h' r => exact ⟨_, _, rfl, ex_t e h', r⟩
theorem Rdb.scr {ns : List Int} (h : Rdb G B H v (.scr ns)) (e : Ex B H) : ∃ a, v = .ref a ∧ SqL G.K H a (ns.map V.int) := by
  cases h.plain rfl with
  | scr h' => exact ⟨_, rfl, ex_l e h'⟩
theorem Rdb.rng {lo hi : Int} (h : Rdb G B H v (.rng lo hi)) (e : Ex B H) : ∃ a, v = .ref a ∧ H a = some (.rng lo hi) := by
  cases h.plain rfl with
  | rng h' => exact ⟨_, rfl, e _ _ h'⟩
end

/-! ### two-place operations -/
/-- an operation r does what f says -/
def OpS (G : Gm) (r : R2) (f : D → D → R RV) : Prop := ∀ (E : XK) B H v u x y, Ex B H → Rdb G B H v x → Rdb G B H u y → ∀ Q, Post G E (RvOk G) B H (f x y) Q → r v u H Q
section
variable {G : Gm}
theorem OpS.or {r r' : R2} {f g : D → D → R RV} {h : D → D → R RV} (h1 : OpS G r f) (h2 : OpS G r' g) (e : ∀ x y, h x y = f x y ∨ h x y = g x y) : OpS G (fun x y H Q => r x y H Q ∨ r' x y H Q) h := fun E B H v u x y ex rx ry Q P => by
  rcases e x y with q | q
  · rw [q] at P
    exact .inl (h1 E B H v u x y ex rx ry Q P)
  · rw [q] at P
    exact .inr (h2 E B H v u x y ex rx ry Q P)
def intF (f : Int → Int → D) : D → D → R RV
  | .int m, .int n => .ok (dv (f m n))
  | _, _ => .bad
def intFC (C : Int → Int → Prop) [DecidableRel C] (f : Int → Int → D) : D → D → R RV
  | .int m, .int n => if C m n then .ok (dv (f m n)) else .bad
  | _, _ => .bad
theorem op_intF {g : Int → Int → V} {f : Int → Int → D} (h : ∀ B m n, Rep G B (g m n) (f m n)) : OpS G (rI0 g) (intF f) := fun E B H v u x y ex rx ry Q P => by
  cases x <;> cases y <;> first | exact P.elim | skip
  rw [rx.int, ry.int]
  exact ⟨_, _, rfl, rfl, P.dat ex (h B _ _)⟩
theorem op_intFC {C : Int → Int → Prop} [DecidableRel C] {g : Int → Int → V} {f : Int → Int → D} (h : ∀ B m n, Rep G B (g m n) (f m n)) : OpS G (rI C g) (intFC C f) := fun E B H v u x y ex rx ry Q P => by
  cases x <;> cases y <;> first | exact P.elim | skip
  rename_i m n
  unfold intFC at P
  by_cases c : C m n
  · simp only [if_pos c] at P
    rw [rx.int, ry.int]
    exact ⟨_, _, rfl, rfl, c, P.dat ex (h B _ _)⟩
  · simp only [if_neg c] at P
    exact P.elim
/-! + -/
def addF : D → D → R RV
  | .int m, .int n => .ok (dv (.int (m + n)))
  | .str s, .str t => if s.length + t.length ≤ sizeLine then .ok (dv (.str (s ++ t))) else .bad
  | .lst xs, .lst ys => if xs.length + ys.length ≤ sizeLine then .ok (ov (.lst (xs ++ ys))) else .bad
  | .tup xs, .tup ys => if xs.length + ys.length ≤ sizeLine then .ok (dv (.tup (xs ++ ys))) else .bad
  | _, _ => .bad
def rAddS : R2 := fun x y H Q => ∃ i j, x = .str i ∧ y = .str j ∧ i.length + j.length ≤ sizeLine ∧ Q (.str (i ++ j)) H
def rPlus (K : PySem.W.Frag) : R2 := fun x y H Q => rI0 (fun i j => .int (i + j)) x y H Q ∨ (rAddS x y H Q ∨ (rCat x y H Q ∨ rCatA K x y H Q))
theorem op_plusK {X : Cx} {K : PySem.W.Frag} (h : X.K = K) : OpR X (binaryOp .Add) (rPlus K) := h ▸ op_add.or (op_add_str.or (op_cat.or op_catA))
theorem sok_iff {s : Str} : SOk s ↔ ∀ c, c ∈ s.cps.toList → c < 0x110000 := by
  have e : PyData.canLay0 (.str s) = s.cps.all (· < 0x110000) := by
    unfold PyData.canLay0
    rfl
  unfold SOk
  rw [e, ← Array.all_toList, List.all_eq_true]
  constructor
  · intro h c m
    exact of_decide_eq_true (h c m)
  · intro h c m
    exact decide_eq_true (h c m)
theorem app_list (s t : Str) : (s ++ t).cps.toList = s.cps.toList ++ t.cps.toList := by
  show (s.cps ++ t.cps).toList = _
  simp
theorem SOk.app {s t : Str} (h1 : SOk s) (h2 : SOk t) : SOk (s ++ t) := sok_iff.mpr fun c m => by
  rw [app_list] at m
  exact (List.mem_append.mp m).elim (sok_iff.mp h1 c) (sok_iff.mp h2 c)
theorem opS_add : OpS G (rPlus G.K) addF := fun E B H v u x y ex rx ry Q P => by
  cases x <;> cases y <;> first | exact P.elim | skip
  · rw [rx.int, ry.int]
    exact .inl ⟨_, _, rfl, rfl, P.dat ex (.int _)⟩
  · rename_i s t
    unfold addF at P
    by_cases c : s.length + t.length ≤ sizeLine
    · simp only [if_pos c] at P
      rw [rx.str.1, ry.str.1]
      exact .inr (.inl ⟨_, _, rfl, rfl, c, P.dat ex (.str _ (rx.str.2.app ry.str.2))⟩)
    · simp only [if_neg c] at P
      exact P.elim
  · rename_i xs ys
    unfold addF at P
    by_cases c : xs.length + ys.length ≤ sizeLine
    · simp only [if_pos c] at P
      obtain ⟨a, vs, rfl, e1, r1⟩ := rx.tup ex
      obtain ⟨b, us, rfl, e2, r2⟩ := ry.tup ex
      refine .inr (.inr (.inr ⟨a, b, vs, us, rfl, rfl, e1, e2, by rw [r1.len, r2.len]; exact c, fun z => ?_, fun z z2 => ?_, fun z z2 p hp => P.tup ex hp (r1.app r2)⟩))
      · subst z
        cases r1
        exact P.dat ex (ry.plain rfl)
      · subst z2
        cases r2
        rw [List.append_nil] at P
        exact P.dat ex (rx.plain rfl)
    · simp only [if_neg c] at P
      exact P.elim
  · rename_i xs ys
    unfold addF at P
    by_cases c : xs.length + ys.length ≤ sizeLine
    · simp only [if_pos c] at P
      obtain ⟨a, vs, rfl, e1, r1⟩ := rx.lst ex
      obtain ⟨b, us, rfl, e2, r2⟩ := ry.lst ex
      exact .inr (.inr (.inl ⟨a, b, vs, us, rfl, rfl, e1, e2, by rw [r1.len, r2.len]; exact c, fun p hp => P.new ex hp (.lst (r1.app r2))⟩))
    · simp only [if_neg c] at P
      exact P.elim
/-! * -/
instance : DecidableRel CMul := fun m n => by unfold CMul; exact inferInstance
instance : DecidableRel CMulW := fun m n => by unfold CMulW; exact inferInstance
instance : DecidableRel CDivW := fun m n => by unfold CDivW; exact inferInstance
instance : DecidableRel CPow := fun m n => by unfold CPow; exact inferInstance
def rTimes (K : PySem.W.Frag) : R2 := fun x y H Q => rI CMul (fun i j => .int (i * j)) x y H Q ∨ (rI CMulW (fun i j => .int (i * j)) x y H Q ∨ (rRep x y H Q ∨ (rRepT K x y H Q ∨ rRepT1 K x y H Q)))
theorem op_timesK {X : Cx} {K : PySem.W.Frag} (h : X.K = K) : OpR X (binaryOp .Mult) (rTimes K) := h ▸ op_mul.or (op_mulW.or (op_rep.or (op_repT.or op_repT1)))
def MulOk (m n : Int) : Prop := CMul m n ∨ CMulW m n
instance (m n : Int) : Decidable (MulOk m n) := by unfold MulOk; exact inferInstance
theorem mulR {m n : Int} (h1 : -(2 ^ 64) < n) (h2 : n < 2 ^ 64) : MulOk m n := .inl (.inr ⟨h1, h2⟩)
theorem mulL {m n : Int} (h1 : -(2 ^ 64) < m) (h2 : m < 2 ^ 64) : MulOk m n := .inl (.inl ⟨h1, h2⟩)
def mulF : D → D → R RV
  | .int m, .int n => if MulOk m n then .ok (dv (.int (m * n))) else .bad
  | .lst xs, .int n => if n < 2 ^ 63 ∧ -(2 ^ 63) ≤ n ∧ xs.length * n.toNat ≤ sizeLine then .ok (ov (.lst (List.replicate n.toNat xs).flatten)) else .bad
  | .tup xs, .int n => if n = 1 then .ok (dv (.tup xs)) else if 2 ≤ n ∧ n ≤ 1000 ∧ xs.length ≤ 1000 ∧ xs ≠ [] then .ok (dv (.tup (List.replicate n.toNat xs).flatten)) else .bad
  | _, _ => .bad
theorem repl_reps {B : Hp} {vs : List V} {ds : List D} (r : Reps G B vs ds) : ∀ n : Nat, Reps G B (List.replicate n vs).flatten (List.replicate n ds).flatten
  | 0 => .nil
  | n + 1 => by
    rw [List.replicate_succ, List.replicate_succ, List.flatten_cons, List.flatten_cons]
    exact r.app (repl_reps r n)
theorem opS_mul : OpS G (rTimes G.K) mulF := fun E B H v u x y ex rx ry Q P => by
  cases x <;> cases y <;> first | exact P.elim | skip
  · rename_i m n
    unfold mulF at P
    by_cases c : MulOk m n
    · simp only [if_pos c] at P
      rw [rx.int, ry.int]
      rcases c with c | c
      · exact .inl ⟨_, _, rfl, rfl, c, P.dat ex (.int _)⟩
      · exact .inr (.inl ⟨_, _, rfl, rfl, c, P.dat ex (.int _)⟩)
    · simp only [if_neg c] at P
      exact P.elim
  · rename_i xs n
    unfold mulF at P
    by_cases c0 : n = 1
    · subst c0
      simp only [if_true] at P
      obtain ⟨a, vs, rfl, e1, r1⟩ := rx.tup ex
      rw [ry.int]
      exact .inr (.inr (.inr (.inr ⟨a, vs, rfl, rfl, e1, P.dat ex (rx.plain rfl)⟩)))
    simp only [if_neg c0] at P
    by_cases c : 2 ≤ n ∧ n ≤ 1000 ∧ xs.length ≤ 1000 ∧ xs ≠ []
    · simp only [if_pos c] at P
      obtain ⟨a, vs, rfl, e1, r1⟩ := rx.tup ex
      rw [ry.int]
      obtain ⟨c1, c2, c3, c4⟩ := c
      exact .inr (.inr (.inr (.inl ⟨a, n, vs, rfl, rfl, e1, fun z => c4 (by subst z; cases r1; rfl), c1, c2, by rw [r1.len]; exact c3, fun p hp => P.tup ex hp (repl_reps r1 _)⟩)))
    · simp only [if_neg c] at P
      exact P.elim
  · rename_i xs n
    unfold mulF at P
    by_cases c : n < 2 ^ 63 ∧ -(2 ^ 63) ≤ n ∧ xs.length * n.toNat ≤ sizeLine
    · simp only [if_pos c] at P
      obtain ⟨a, vs, rfl, e1, r1⟩ := rx.lst ex
      rw [ry.int]
      obtain ⟨c1, c2, c3⟩ := c
      exact .inr (.inr (.inl ⟨a, n, vs, rfl, rfl, e1, c2, c1, by rw [r1.len]; exact c3, fun p hp => P.new ex hp (.lst (repl_reps r1 _))⟩))
    · simp only [if_neg c] at P
      exact P.elim
/-! == -/
mutual
def toP : D → PyData
  | .non => .none
  | .bl b => .bool b
  | .int i => .int i
  | .str s => .str s
  | .tup ds => .tuple (toPs ds)
  | .lst ds => .list (toPs ds)
  | _ => .none
def toPs : List D → List PyData
  | [] => []
  | d :: ds => toP d :: toPs ds
end
mutual
def pure : D → Bool
  | .ins _ _ => false
  | .scr _ => false
  | .dk _ => false
  | .dt _ => false
  | .rng _ _ => false
  | .fnc _ => false
  | .tup ds => pures ds
  | .lst ds => pures ds
  | _ => true
def pures : List D → Bool
  | [] => true
  | d :: ds => pure d && pures ds
end
mutual
theorem Rep.dp {B H : Hp} (e : Ex B H) {v : V} : ∀ {d : D}, pure d = true → Rep G B v d → Dp G.K H v (toP d) ∧ (toP d).canLay0 = true
  | .non, _, .non => ⟨.non, rfl⟩
  | .bl b, _, .bl _ => ⟨.bl b, rfl⟩
  | .int i, _, .int _ => ⟨.int i, rfl⟩
  | .str s, _, .str _ h => ⟨.str s, h⟩
  | .tup ds, n, .tup h r => ⟨.tup (ex_t e h) (Reps.dp e (by unfold pure at n; exact n) r).1, (Reps.dp e (by unfold pure at n; exact n) r).2⟩
  | .lst ds, n, .lst h r => ⟨.lst (sq_of (e _ _ h)) (Reps.dp e (by unfold pure at n; exact n) r).1, (Reps.dp e (by unfold pure at n; exact n) r).2⟩
  | .ins C fs, n, _ => by unfold pure at n; cases n
  | .scr ns, n, _ => by unfold pure at n; cases n
  | .dk ns, n, _ => by unfold pure at n; cases n
  | .dt ns, n, _ => by unfold pure at n; cases n
  | .rng _ _, n, _ => by unfold pure at n; cases n
  | .fnc _, n, _ => by unfold pure at n; cases n
theorem Reps.dp {B H : Hp} (e : Ex B H) {vs : List V} : ∀ {ds : List D}, pures ds = true → Reps G B vs ds → DpAll G.K H vs (toPs ds) ∧ PyData.canLayAll0 (toPs ds) = true
  | [], _, .nil => ⟨.nil, rfl⟩
  | d :: ds, n, .cons h r => by
    unfold pures at n
    rw [Bool.and_eq_true] at n
    refine ⟨.cons (Rep.dp e n.1 h).1 (Reps.dp e n.2 r).1, ?_⟩
    show ((toP d).canLay0 && PyData.canLayAll0 (toPs ds)) = true
    rw [(Rep.dp e n.1 h).2, (Reps.dp e n.2 r).2]
    rfl
end
theorem Rdb.dp {B H : Hp} (e : Ex B H) {v : V} {d : D} (n : pure d = true) (h : Rdb G B H v d) : Dp G.K H v (toP d) ∧ (toP d).canLay0 = true := by
  cases d with
  | lst ds =>
    obtain ⟨a, vs, rfl, h1, r⟩ := h.lst e
    have := r.dp e (by unfold pure at n; exact n)
    exact ⟨.lst (sq_of h1) this.1, this.2⟩
  | dk _ => cases n
  | dt _ => cases n
  | _ => exact (h.plain rfl).dp e n
mutual
/-- how deep -/
def D.dep : D → Nat
  | .tup ds => depL ds + 1
  | .lst ds => depL ds + 1
  | _ => 0
def depL : List D → Nat
  | [] => 0
  | d :: ds => max d.dep (depL ds)
end
mutual
theorem dep_le : ∀ d : D, (toP d).depth ≤ d.dep + 1
  | .non => Nat.le_of_ble_eq_true rfl
  | .bl b => Nat.le_of_ble_eq_true rfl
  | .int i => Nat.le_of_ble_eq_true rfl
  | .str s => Nat.le_of_ble_eq_true rfl
  | .tup ds => by
    have := depL_le ds
    show PyData.depth (.tuple (toPs ds)) ≤ depL ds + 1 + 1
    unfold PyData.depth
    omega
  | .lst ds => by
    have := depL_le ds
    show PyData.depth (.list (toPs ds)) ≤ depL ds + 1 + 1
    unfold PyData.depth
    omega
  | .ins _ _ => Nat.le_of_ble_eq_true rfl
  | .scr _ => Nat.le_of_ble_eq_true rfl
  | .dk _ => Nat.le_of_ble_eq_true rfl
  | .dt _ => Nat.le_of_ble_eq_true rfl
  | .rng _ _ => Nat.le_of_ble_eq_true rfl
  | .fnc _ => Nat.le_of_ble_eq_true rfl
theorem depL_le : ∀ ds : List D, PyData.depthAll (toPs ds) ≤ depL ds + 1
  | [] => Nat.le_of_ble_eq_true rfl
  | d :: ds => by
    have h1 := dep_le d
    have h2 := depL_le ds
    show PyData.depthAll (toP d :: toPs ds) ≤ max d.dep (depL ds) + 1
    unfold PyData.depthAll
    omega
end
def eqOk (d : D) : Bool := pure d && decide (d.dep ≤ 60)
theorem shaped_of {d : D} (h : eqOk d = true) (c : (toP d).canLay0 = true) : SeqAt.shaped (toP d) = true := by
  unfold eqOk at h
  rw [Bool.and_eq_true] at h
  have h2 := of_decide_eq_true h.2
  have h3 := dep_le d
  unfold SeqAt.shaped
  rw [c, Bool.true_and]
  exact decide_eq_true (by omega)
def eqv (x y : D) : Bool := PyData.eqv (toP x) (toP y)
def eqF (neg : Bool) (x y : D) : R RV := if eqOk x && eqOk y then .ok (dv (.bl (if neg then !eqv x y else eqv x y))) else .bad
theorem op_eqDK {X : Cx} {K : PySem.W.Frag} (h : X.K = K) (hu : X.A.units + 64 < cLine) : OpR X (compareOp .Eq) (rEqD K) := h ▸ op_eqD hu
theorem op_neDK {X : Cx} {K : PySem.W.Frag} (h : X.K = K) (hu : X.A.units + 64 < cLine) : OpR X (compareOp .NotEq) (rNeD K) := h ▸ op_neD hu
theorem opS_eq : OpS G (rEqD G.K) (eqF false) := fun E B H v u x y ex rx ry Q P => by
  unfold eqF at P
  by_cases c : (eqOk x && eqOk y) = true
  · rw [if_pos c] at P
    rw [Bool.and_eq_true] at c
    have p1 : pure x = true := by have := c.1; unfold eqOk at this; rw [Bool.and_eq_true] at this; exact this.1
    have p2 : pure y = true := by have := c.2; unfold eqOk at this; rw [Bool.and_eq_true] at this; exact this.1
    have d1 := rx.dp ex p1
    have d2 := ry.dp ex p2
    exact ⟨_, _, d1.1, d2.1, shaped_of c.1 d1.2, shaped_of c.2 d2.2, P.dat ex (.bl _)⟩
  · rw [if_neg c] at P
    exact P.elim
theorem opS_ne : OpS G (rNeD G.K) (eqF true) := fun E B H v u x y ex rx ry Q P => by
  unfold eqF at P
  by_cases c : (eqOk x && eqOk y) = true
  · rw [if_pos c] at P
    rw [Bool.and_eq_true] at c
    have p1 : pure x = true := by have := c.1; unfold eqOk at this; rw [Bool.and_eq_true] at this; exact this.1
    have p2 : pure y = true := by have := c.2; unfold eqOk at this; rw [Bool.and_eq_true] at this; exact this.1
    have d1 := rx.dp ex p1
    have d2 := ry.dp ex p2
    exact ⟨_, _, d1.1, d2.1, shaped_of c.1 d1.2, shaped_of c.2 d2.2, P.dat ex (.bl _)⟩
  · rw [if_neg c] at P
    exact P.elim
/-! is None -/
def rIsN : R2 := fun x y H Q => y = .non ∧ Q (.bl (decide (x = .non))) H
def rNotN : R2 := fun x y H Q => y = .non ∧ Q (.bl (!decide (x = .non))) H
theorem op_isN1 {X : Cx} : OpR X (compareOp .Is) rIsN := op_isN
def D.isNon : D → Bool
  | .non => true
  | _ => false
theorem Rdb.isNon {B H : Hp} {v : V} {d : D} (h : Rdb G B H v d) : decide (v = .non) = d.isNon := by
  cases h with
  | rep h => cases h <;> first | rfl | exact decide_eq_false (by intro h; cases h)
  | own h r => cases r <;> exact decide_eq_false (by intro h; cases h)
def isF (neg : Bool) : D → D → R RV
  | x, .non => .ok (dv (.bl (if neg then !x.isNon else x.isNon)))
  | _, _ => .bad
theorem opS_is : OpS G rIsN (isF false) := fun E B H v u x y ex rx ry Q P => by
  cases y <;> first | exact P.elim | skip
  refine ⟨ry.non, ?_⟩
  rw [rx.isNon]
  exact P.dat ex (.bl _)
theorem opS_isnot : OpS G rNotN (isF true) := fun E B H v u x y ex rx ry Q P => by
  cases y <;> first | exact P.elim | skip
  refine ⟨ry.non, ?_⟩
  rw [rx.isNon]
  exact P.dat ex (.bl _)
def isBF (neg : Bool) : D → D → R RV
  | .bl a, .bl b => .ok (dv (.bl (if neg then !decide (a = b) else decide (a = b))))
  | _, _ => .bad
theorem opS_isB : OpS G rIsB (isBF false) := fun E B H v u x y ex rx ry Q P => by
  cases x <;> first | exact P.elim | skip
  cases y <;> first | exact P.elim | skip
  exact ⟨_, _, rx.bl, ry.bl, P.dat ex (.bl _)⟩
theorem opS_notB : OpS G rNotB (isBF true) := fun E B H v u x y ex rx ry Q P => by
  cases x <;> first | exact P.elim | skip
  cases y <;> first | exact P.elim | skip
  exact ⟨_, _, rx.bl, ry.bl, P.dat ex (.bl _)⟩
def rInT (K : PySem.W.Frag) : R2 := fun x y H Q => ∃ d ds, Dp K H x d ∧ Dp K H y (.tuple ds) ∧ SeqAt.shaped d = true ∧ SeqAt.shaped (.tuple ds) = true ∧ Q (.bl (ds.any fun z => PyData.eqv z d)) H
def rNotInT (K : PySem.W.Frag) : R2 := fun x y H Q => ∃ d ds, Dp K H x d ∧ Dp K H y (.tuple ds) ∧ SeqAt.shaped d = true ∧ SeqAt.shaped (.tuple ds) = true ∧ Q (.bl (!ds.any fun z => PyData.eqv z d)) H
theorem op_inT {X : Cx} (hu : X.A.units + 65 < cLine) : OpR X (compareOp .In) (rInT X.K) := by
  intro pins s σ H x y v u Q I rx ry h
  obtain ⟨d, ds, hd, he, sd, se, q⟩ := h
  obtain ⟨as, r1⟩ := Dp.reads I d x v hd rx
  obtain ⟨bs, r2⟩ := Dp.reads I (.tuple ds) y u he ry
  exact SeqAt.in_tuple_reads r2 r1 (SeqAt.canLay_of_shaped se) (SeqAt.canLay_of_shaped sd) (room_in_shaped sd hu) ⟨.bl _, H, I, rfl, q⟩
theorem op_notInT {X : Cx} (hu : X.A.units + 65 < cLine) : OpR X (compareOp .NotIn) (rNotInT X.K) := by
  intro pins s σ H x y v u Q I rx ry h
  obtain ⟨d, ds, hd, he, sd, se, q⟩ := h
  obtain ⟨as, r1⟩ := Dp.reads I d x v hd rx
  obtain ⟨bs, r2⟩ := Dp.reads I (.tuple ds) y u he ry
  exact SeqAt.notIn_tuple_reads r2 r1 (SeqAt.canLay_of_shaped se) (SeqAt.canLay_of_shaped sd) (room_in_shaped sd hu) ⟨.bl _, H, I, rfl, q⟩
def rInA (K : PySem.W.Frag) : R2 := fun x y H Q => rInS x y H Q ∨ (rInT K x y H Q ∨ rInD K x y H Q)
def rNotInA (K : PySem.W.Frag) : R2 := fun x y H Q => rNotInS x y H Q ∨ (rNotInT K x y H Q ∨ rNotInD K x y H Q)
theorem op_inK {X : Cx} {K : PySem.W.Frag} (h : X.K = K) (hu : X.A.units + 65 < cLine) : OpR X (compareOp .In) (rInA K) := h ▸ op_inS.or ((op_inT hu).or (op_inD hu))
theorem op_notInK {X : Cx} {K : PySem.W.Frag} (h : X.K = K) (hu : X.A.units + 65 < cLine) : OpR X (compareOp .NotIn) (rNotInA K) := h ▸ op_notInS.or ((op_notInT hu).or (op_notInD hu))
def inTup (x : D) (ds : List D) : R Bool := if eqOk x && eqOk (.tup ds) then .ok (ds.any fun z => eqv z x) else .bad
def inLst (x : D) (ds : List D) : R Bool := if eqOk x && eqOk (.lst ds) then .ok (ds.any fun z => eqv z x) else .bad
def inF (neg : Bool) (x y : D) : R RV := (match x, y with
  | .str s, .str t => match s.cps.toList with
    | [c] => R.ok (decide (c ∈ t.cps.toList))
    | _ => .bad
  | x, .tup ds => inTup x ds
  | x, .lst ds => inLst x ds
  | _, _ => .bad).bind fun b => .ok (dv (.bl (if neg then !b else b)))
theorem any_toPs (p : PyData → Bool) : ∀ ds : List D, (toPs ds).any p = ds.any fun z => p (toP z)
  | [] => rfl
  | d :: ds => by
    show (p (toP d) || (toPs ds).any p) = _
    rw [any_toPs p ds]
    rfl
theorem opS_in' {r1 r2 r3 : R2} (neg : Bool) (h1 : r1 = (fun x y H Q => ∃ (c : Nat) (z : Str), x = .str ⟨#[c]⟩ ∧ y = .str z ∧ Q (.bl (if neg then !decide (c ∈ z.cps.toList) else decide (c ∈ z.cps.toList))) H)) (h2 : r2 = fun x y H Q => ∃ d ds, Dp G.K H x d ∧ Dp G.K H y (.tuple ds) ∧ SeqAt.shaped d = true ∧ SeqAt.shaped (.tuple ds) = true ∧ Q (.bl (if neg then !(ds.any fun z => PyData.eqv z d) else ds.any fun z => PyData.eqv z d)) H)
    (h3 : r3 = fun x y H Q => ∃ d ds, Dp G.K H x d ∧ Dp G.K H y (.list ds) ∧ SeqAt.shaped d = true ∧ SeqAt.shaped (.list ds) = true ∧ Q (.bl (if neg then !(ds.any fun z => PyData.eqv z d) else ds.any fun z => PyData.eqv z d)) H) :
    OpS G (fun x y H Q => r1 x y H Q ∨ (r2 x y H Q ∨ r3 x y H Q)) (inF neg) := fun E B H v u x y ex rx ry Q P => by
  subst h1 h2 h3
  unfold inF at P
  cases y with
  | str t =>
    cases x with
    | str s =>
      simp only at P
      split at P
      · rename_i c e
        refine .inl ⟨c, t, ?_, ry.str.1, P.dat ex (.bl _)⟩
        rw [rx.str.1]
        congr 1
        have : s.cps = #[c] := by
          rw [← Array.toList_inj, e]
        cases s
        cases this
        rfl
      · exact P.elim
    | _ => exact P.elim
  | tup ds =>
    have P' : Post G E (RvOk G) B H ((inTup x ds).bind fun b => .ok (dv (.bl (if neg then !b else b)))) Q := by cases x <;> exact P
    unfold inTup at P'
    by_cases c : (eqOk x && eqOk (.tup ds)) = true
    · rw [if_pos c] at P'
      rw [Bool.and_eq_true] at c
      have p1 : pure x = true := by have := c.1; unfold eqOk at this; rw [Bool.and_eq_true] at this; exact this.1
      have p2 : pure (.tup ds) = true := by have := c.2; unfold eqOk at this; rw [Bool.and_eq_true] at this; exact this.1
      have d1 := rx.dp ex p1
      have d2 := ry.dp ex p2
      refine .inr (.inl ⟨_, toPs ds, d1.1, d2.1, shaped_of c.1 d1.2, shaped_of c.2 d2.2, ?_⟩)
      rw [any_toPs]
      exact P'.dat ex (.bl _)
    · rw [if_neg c] at P'
      exact P'.elim
  | lst ds =>
    have P' : Post G E (RvOk G) B H ((inLst x ds).bind fun b => .ok (dv (.bl (if neg then !b else b)))) Q := by cases x <;> exact P
    unfold inLst at P'
    by_cases c : (eqOk x && eqOk (.lst ds)) = true
    · rw [if_pos c] at P'
      rw [Bool.and_eq_true] at c
      have p1 : pure x = true := by have := c.1; unfold eqOk at this; rw [Bool.and_eq_true] at this; exact this.1
      have p2 : pure (.lst ds) = true := by have := c.2; unfold eqOk at this; rw [Bool.and_eq_true] at this; exact this.1
      have d1 := rx.dp ex p1
      have d2 := ry.dp ex p2
      refine .inr (.inr ⟨_, toPs ds, d1.1, d2.1, shaped_of c.1 d1.2, shaped_of c.2 d2.2, ?_⟩)
      rw [any_toPs]
      exact P'.dat ex (.bl _)
    · rw [if_neg c] at P'
      exact P'.elim
  | _ => cases x <;> exact P.elim
theorem opS_in : OpS G (rInA G.K) (inF false) := opS_in' false rfl rfl rfl
theorem opS_notin : OpS G (rNotInA G.K) (inF true) := opS_in' true rfl rfl rfl
/-! subscripts -/
def ixF : D → D → R RV
  | .lst ds, .int n => (R.ofO (atI ds n)).bind fun d => .ok (dv d)
  | .tup ds, .int n => (R.ofO (atI ds n)).bind fun d => .ok (dv d)
  | .scr ns, .int n => (R.ofO (atI ns n)).bind fun d => .ok (dv (.int d))
  | .str s, .int n => if s.length ≤ sizeLine then (R.ofO (atI s.cps.toList n)).bind fun c => .ok (dv (.str ⟨#[c]⟩)) else .bad
  | _, _ => .bad
theorem ix_seqK {X : Cx} {K : PySem.W.Frag} (h : X.K = K) : IxR X (rIx K) := h ▸ ix_seq
theorem Reps.atI {B : Hp} {vs : List V} {ds : List D} {n : Int} {d : D} (r : Reps G B vs ds) (h : L2.atI ds n = some d) : ∃ v, L2.atI vs n = some v ∧ Rep G B v d := by
  unfold L2.atI at h ⊢
  rw [r.len]
  cases e : ixN ds.length n with
  | none => rw [e] at h; cases h
  | some j =>
    rw [e] at h
    exact r.get h
theorem SOk.one {c : Nat} (h : c < 0x110000) : SOk ⟨#[c]⟩ := sok_iff.mpr fun k m => by
  have : k = c := by simpa using m
  rw [this]
  exact h
theorem opS_ix : OpS G (rIx G.K) ixF := fun E B H v u x y ex rx ry Q P => by
  cases y with
  | int n =>
    have hu := ry.int
    subst hu
    cases x with
    | lst ds =>
      simp only [ixF] at P
      cases e : atI ds n with
      | none => rw [e] at P; exact P.elim
      | some d =>
        rw [e] at P
        obtain ⟨a, vs, rfl, e1, r⟩ := rx.lst ex
        obtain ⟨w, k1, k2⟩ := r.atI e
        exact .inl ⟨a, vs, n, w, rfl, rfl, sq_of e1, k1, Post.dat P ex k2⟩
    | tup ds =>
      simp only [ixF] at P
      cases e : atI ds n with
      | none => rw [e] at P; exact P.elim
      | some d =>
        rw [e] at P
        obtain ⟨a, vs, rfl, e1, r⟩ := rx.tup ex
        obtain ⟨w, k1, k2⟩ := r.atI e
        exact .inr (.inl ⟨a, vs, n, w, rfl, rfl, e1, k1, Post.dat P ex k2⟩)
    | scr ns =>
      simp only [ixF] at P
      cases e : atI ns n with
      | none => rw [e] at P; exact P.elim
      | some d =>
        rw [e] at P
        obtain ⟨a, rfl, e1⟩ := rx.scr ex
        have e' : atI (ns.map D.int) n = some (.int d) := by
          unfold atI at e ⊢
          rw [List.length_map]
          cases z : ixN ns.length n with
          | none => rw [z] at e; cases e
          | some j =>
            rw [z] at e
            have e2 : ns[j]? = some d := e
            show (ns.map D.int)[j]? = some (.int d)
            rw [List.getElem?_map, e2]
            rfl
        obtain ⟨w, k1, k2⟩ := (Reps.of_ints (G := G) (B := B) ns).atI e'
        exact .inl ⟨a, _, n, w, rfl, rfl, e1, k1, Post.dat P ex k2⟩
    | str s =>
      simp only [ixF] at P
      by_cases c : s.length ≤ sizeLine
      · rw [if_pos c] at P
        cases e : atI s.cps.toList n with
        | none => rw [e] at P; exact P.elim
        | some k =>
          rw [e] at P
          obtain ⟨rfl, hs⟩ := rx.str
          refine .inr (.inr ⟨s, n, k, rfl, rfl, c, e, Post.dat P ex (.str _ (SOk.one (sok_iff.mp hs k ?_)))⟩)
          unfold atI at e
          cases z : ixN s.cps.toList.length n with
          | none => rw [z] at e; cases e
          | some j =>
            rw [z] at e
            exact List.mem_of_getElem? e
      · rw [if_neg c] at P
        exact P.elim
    | _ => exact P.elim
  | _ => cases x <;> exact P.elim
/-! slices -/
def cutD (xs : List D) (lo hi : Option Int) : List D := (xs.drop (HT.sIx xs.length 0 lo)).take (HT.sIx xs.length xs.length hi - HT.sIx xs.length 0 lo)
theorem cut_reps {B : Hp} {vs : List V} {ds : List D} (r : Reps G B vs ds) (lo hi : Option Int) : Reps G B (cutV vs lo hi) (cutD ds lo hi) := by
  unfold cutV cutD
  rw [r.len]
  exact (r.drop _).take _
theorem cut_all {ds : List D} {lo hi : Option Int} (h : HT.sIx ds.length 0 lo = 0 ∧ HT.sIx ds.length ds.length hi = ds.length) : cutD ds lo hi = ds := by
  unfold cutD
  rw [h.1, h.2, Nat.sub_zero, List.drop_zero, List.take_length]
def slF : D → Option Int → Option Int → R RV
  | .lst ds, lo, hi => .ok (ov (.lst (cutD ds lo hi)))
  | .tup ds, lo, hi => .ok (dv (.tup (cutD ds lo hi)))
  | .str s, lo, hi => if s.length ≤ sizeLine then .ok (dv (.str (cutS s lo hi))) else .bad
  | _, _, _ => .bad
def rSl (K : PySem.W.Frag) : V → Option Int → Option Int → Hp → VK → Prop := fun x lo hi H Q => rSlL K x lo hi H Q ∨ (rSlA K x lo hi H Q ∨ rSlS x lo hi H Q)
theorem sl_anyK {X : Cx} {K : PySem.W.Frag} (h : X.K = K) : SlR X (rSl K) := h ▸ sl_list.or (sl_tupA.or sl_str)
theorem SOk.cut {s : Str} (h : SOk s) (lo hi : Option Int) : SOk (cutS s lo hi) := sok_iff.mpr fun c m => by
  unfold cutS at m
  have m' : c ∈ (s.cps.toList.drop (HT.sIx s.length 0 lo)).take (HT.sIx s.length s.length hi - HT.sIx s.length 0 lo) := by simpa using m
  exact sok_iff.mp h c (List.mem_of_mem_drop (List.mem_of_mem_take m'))
theorem slS {E : XK} {B H : Hp} {v : V} {x : D} {lo hi : Option Int} {Q : VK} (ex : Ex B H) (rx : Rdb G B H v x) (P : Post G E (RvOk G) B H (slF x lo hi) Q) : rSl G.K v lo hi H Q := by
  cases x with
  | lst ds =>
    obtain ⟨a, vs, rfl, e1, r⟩ := rx.lst ex
    exact .inl ⟨a, vs, rfl, sq_of e1, fun p hp => Post.new P ex hp (.lst (cut_reps r lo hi))⟩
  | tup ds =>
    obtain ⟨a, vs, rfl, e1, r⟩ := rx.tup ex
    refine .inr (.inl ⟨a, vs, rfl, e1, fun z => ?_, fun z p hp => Post.tup P ex hp (cut_reps r lo hi)⟩)
    rw [r.len] at z
    have P' : Post G E (RvOk G) B H (.ok (dv (.tup (cutD ds lo hi)))) Q := P
    rw [cut_all z] at P'
    exact P'.dat ex (rx.plain rfl)
  | str s =>
    unfold slF at P
    by_cases c : s.length ≤ sizeLine
    · simp only [if_pos c] at P
      obtain ⟨rfl, hs⟩ := rx.str
      exact .inr (.inr ⟨s, rfl, c, P.dat ex (.str _ (hs.cut lo hi))⟩)
    · simp only [if_neg c] at P
      exact P.elim
  | _ => exact P.elim
/-! truth -/
def truD : D → R Bool
  | .non => .ok false
  | .bl b => .ok b
  | .int n => .ok (n != 0)
  | .str s => if s.length ≤ sizeLine then .ok ((s.length : Int) != 0) else .bad
  | .tup ds => .ok (!ds.isEmpty)
  | .lst ds => .ok (!ds.isEmpty)
  | .dk ds => .ok (!ds.isEmpty)
  | _ => .bad
def tTru (K : PySem.W.Frag) (ta : TE) : TT := fun σ H Q => ta σ H fun x H' => ∃ k, TruV K x H' k ∧ Q k H'
theorem pt_tru {X : Cx} {e : Expr} {ta : TE} (ha : PE X e ta) (he : ∀ whole, isTrue e X.env whole = (do let v ← whole; standAt e.pos; holding [v] (truthy v)) := by intro _; rfl) : PT X e (tTru X.K ta) := pt_truth ha he
theorem pt_truK {X : Cx} {K : PySem.W.Frag} {a : Expr} {ta : TE} (h : X.K = K) (ha : PE X a ta) (he : ∀ whole, isTrue a X.env whole = (do let v ← whole; standAt a.pos; holding [v] (truthy v)) := by intro _; rfl) : PT X a (tTru K ta) := h ▸ pt_tru ha he
theorem isEmpty_len {α β : Type} {xs : List α} {ys : List β} (h : xs.length = ys.length) : (!xs.isEmpty) = !ys.isEmpty := by
  cases xs <;> cases ys <;> first | rfl | (cases h)
theorem truS {B H : Hp} {v : V} {x : D} {k : Bool} (ex : Ex B H) (rx : Rdb G B H v x) (h : truD x = .ok k) : TruV G.K v H k := by
  cases x with
  | non => rw [rx.non]; cases h; rfl
  | bl b => rw [rx.bl]; cases h; rfl
  | int n => rw [rx.int]; cases h; rfl
  | str s =>
    rw [rx.str.1]
    unfold truD at h
    by_cases c : s.length ≤ sizeLine
    · simp only [if_pos c] at h
      cases h
      exact ⟨c, rfl⟩
    · simp only [if_neg c] at h
      cases h
  | tup ds =>
    obtain ⟨a, vs, rfl, e1, r⟩ := rx.tup ex
    cases h
    exact .inr (.inl ⟨vs, e1, isEmpty_len r.len.symm⟩)
  | lst ds =>
    obtain ⟨a, vs, rfl, e1, r⟩ := rx.lst ex
    cases h
    exact .inl ⟨vs, sq_of e1, isEmpty_len r.len.symm⟩
  | dk ds =>
    obtain ⟨a, vs, rfl, e1, r⟩ := rx.dk ex
    cases h
    exact .inr (.inr ⟨vs, e1, isEmpty_len r.len.symm⟩)
  | _ => cases h
end
end Ci
end

section
set_option Elab.async false
set_option linter.all false
set_option maxRecDepth 100000
set_option maxHeartbeats 2000000
/-! ## list(zip(a, b)): the pairs stay, so the zip sees that the tuple it gave is still out -/
namespace Ci
open PySem PySem.Spec PyProof.Rows L2 Evl
/-- a zip of two lists, k pairs given; the list that is filled is at S -/
structure Zst (h : Heap) (z TI TO i1 i2 a b S : Addr) (xs ys : Array Value) (k : Nat) : Prop where
  ti : IsPair h TI (.ref i1) (.ref i2)
  it1 : h.IsListIter i1 a k
  it2 : h.IsListIter i2 b k
  ls1 : h.IsList a xs
  ls2 : h.IsList b ys
  own : (IsZip h z TI TO .none ∧ ∃ x y, IsPair h TO x y) ∨ ∃ T f oT, IsZipHeld h z TI TO T f ∧ h.get? T = some oT ∧ T ≠ z ∧ T ≠ i1 ∧ T ≠ i2 ∧ T ≠ S
theorem lst_stay {h h' : Heap} {a : Addr} {xs : Array Value} (L : h.IsList a xs) (k : ∀ o, h.get? a = some o → h'.get? a = some o) : h'.IsList a xs := ⟨L.choose, k _ L.choose_spec.1, L.choose_spec.2⟩
section
variable {prog : Program} {w : World} {A : Around} {E : Value → Shared → Prop} {s : Shared} {z TI TO i1 i2 a b S : Addr} {xs ys : Array Value} {n : Nat}
theorem Zst.next {x y : Value} {Q : Option Value → Shared → Prop} (Z : Zst s.heap z TI TO i1 i2 a b S xs ys n) (D : ZipApart z TI TO i1 i2 a b) (hS : S < s.heap.objs.size) (hx : xs[n]? = some x) (hy : ys[n]? = some y)
    (fin : ∀ h', Zst h' z TI TO i1 i2 a b S xs ys (n + 1) → IsPair h' s.heap.objs.size x y → h'.objs.size = s.heap.objs.size + 1 → (∀ c o, c ≠ z → c ≠ TO → c ≠ i1 → c ≠ i2 → s.heap.get? c = some o → h'.get? c = some o) → Q (some (.ref s.heap.objs.size)) { s with heap := h' }) :
    wpAny (model prog w) A (pyNext (.ref z)) Q E s := by
  have q1 : i1 < s.heap.objs.size := Heap.lt_size Z.it1.choose_spec.1
  have q2 : i2 < s.heap.objs.size := Heap.lt_size Z.it2.choose_spec.1
  rcases Z.own with ⟨e, u, v, p⟩ | ⟨T, f, oT, e, g, n1, n2, n3, n4⟩
  · have q3 : z < s.heap.objs.size := Heap.lt_size e
    refine wpAny_pyNext_zip_item D e Z.ti p Z.it1 Z.it2 Z.ls1 Z.ls2 hx hy fun h' e' _ j1 j2 t sz kp => fin h' ⟨kp _ _ D.TIz D.TITO D.TIi1 D.TIi2 Z.ti, j1, j2, lst_stay Z.ls1 fun o => kp _ o D.l1z D.l1TO D.l1i1 D.l1i2, lst_stay Z.ls2 fun o => kp _ o D.l2z D.l2TO D.l2i1 D.l2i2, .inr ⟨_, false, _, e', t, ?_, ?_, ?_, ?_⟩⟩ t sz kp
    · exact Nat.ne_of_gt q3
    · exact Nat.ne_of_gt q1
    · exact Nat.ne_of_gt q2
    · exact Nat.ne_of_gt hS
  · exact wpAny_pyNext_zip_item_held D e g Z.ti Z.it1 Z.it2 Z.ls1 Z.ls2 hx hy fun h' e' j1 j2 t sz kp => fin h' ⟨kp _ _ D.TIz D.TIi1 D.TIi2 Z.ti, j1, j2, lst_stay Z.ls1 fun o => kp _ o D.l1z D.l1i1 D.l1i2, lst_stay Z.ls2 fun o => kp _ o D.l2z D.l2i1 D.l2i2, .inr ⟨T, true, oT, e', kp _ _ n1 n2 n3 g, n1, n2, n3, n4⟩⟩ t sz fun c o c1 _ c3 c4 => kp c o c1 c3 c4
theorem Zst.last {Q : Option Value → Shared → Prop} (Z : Zst s.heap z TI TO i1 i2 a b S xs ys n) (hh : A.handled = none) (D : ZipApart z TI TO i1 i2 a b) (hx : xs[n]? = none)
    (fin : ∀ h', (∀ c o, c ≠ z → c ≠ TO → c ≠ i1 → c ≠ i2 → s.heap.get? c = some o → h'.get? c = some o) → Q none { s with heap := h' }) : wpAny (model prog w) A (pyNext (.ref z)) Q E s := by
  rcases Z.own with ⟨e, u, v, p⟩ | ⟨T, f, oT, e, g, _⟩
  · exact wpAny_pyNext_zip_end hh D e Z.ti p Z.it1 Z.it2 Z.ls1 Z.ls2 (.inl hx) fin
  · exact wpAny_pyNext_zip_end_held hh D e g Z.ti Z.it1 Z.it2 Z.ls1 Z.ls2 (.inl hx) fun h' kp => fin h' fun c o c1 _ c3 c4 => kp c o c1 c3 c4
/-- the tuples so far: above lo, one above the other, and what they hold -/
structure Zout (xs ys : Array Value) (lo : Addr) (h : Heap) (ts : List Addr) : Prop where
  up : ts.Pairwise (· < ·)
  lo : ∀ t ∈ ts, lo < t
  it : ∀ (j : Nat) (t : Addr), ts[j]? = some t → ∃ x y, xs[j]? = some x ∧ ys[j]? = some y ∧ IsPair h t x y
theorem Zout.nil {lo : Addr} {h : Heap} : Zout xs ys lo h [] where
  up := List.Pairwise.nil
  lo := fun t m => absurd m List.not_mem_nil
  it := fun j t e => by cases e
end
/-- what list(zip(a, b)) leaves: the list at p, the pairs at ts -/
def Zlaid (H H' : Hp) (p : Addr) (ts : List Addr) (xs ys : List V) : Prop :=
  (∀ c o, H c = some o → H' c = some o) ∧ H p = none ∧ (∀ t ∈ ts, H t = none) ∧ p ∉ ts ∧ H' p = some (.lst (ts.map V.ref)) ∧ ts.length = xs.length ∧
    ∀ (j : Nat) (t : Addr), ts[j]? = some t → ∃ x y, xs[j]? = some x ∧ ys[j]? = some y ∧ H' t = some (.tup [x, y])
def rLzip (K : PySem.W.Frag) : List V → Hp → VK → Prop := fun vs H Q => ∃ (a b : Addr) (xs ys : List V), vs = [.ref a, .ref b] ∧ SqL K H a xs ∧ SqL K H b ys ∧ xs.length = ys.length ∧ xs.length ≤ sizeLine ∧ ∀ H' p ts, Zlaid H H' p ts xs ys → Q (.ref p) H'
end Ci
end

section
set_option Elab.async false
set_option linter.all false
set_option maxRecDepth 100000
set_option maxHeartbeats 2000000
/-! ## ranges as values -/
namespace Ci
open PySem PySem.Spec PyProof.Rows L2 Evl
def rRg1 : List V → Hp → VK → Prop := fun vs H Q => ∃ j, vs = [V.int j] ∧ ∀ p, H p = none → Q (.ref p) (upd H p (.rng 0 j))
def iRngV (te : TE) : TI := fun σ H R => te σ H fun x H1 => ∃ a lo hi, x = .ref a ∧ H1 a = some (.rng lo hi) ∧ (-(2 ^ 62) ≤ lo ∧ lo < 2 ^ 62 ∧ -(2 ^ 62) ≤ hi ∧ hi < 2 ^ 62) ∧ R (Itr lo (hi - lo).toNat) H1
end Ci
end

section
set_option Elab.async false
set_option linter.all false
set_option maxRecDepth 100000
set_option maxHeartbeats 2000000
/-! ## built-in calls by values -/
namespace Ci
open PySem PySem.Spec PyProof.Rows L2 Evl

inductive Rdbs (G : Gm) (B H : Hp) : List V → List D → Prop
  | nil : Rdbs G B H [] []
  | cons {v : V} {d : D} {vs : List V} {ds : List D} : Rdb G B H v d → Rdbs G B H vs ds → Rdbs G B H (v :: vs) (d :: ds)
def CaS (G : Gm) (r : List V → Hp → VK → Prop) (f : List D → R RV) : Prop := ∀ (E : XK) B H vs xs, Ex B H → Rdbs G B H vs xs → ∀ Q, Post G E (RvOk G) B H (f xs) Q → r vs H Q
section
variable {G : Gm} {B H B1 H1 : Hp}
theorem Rdbs.go (g : Go B H B1 H1) {vs : List V} {ds : List D} : Rdbs G B H vs ds → Rdbs G B1 H1 vs ds
  | .nil => .nil
  | .cons h r => .cons (h.go g) (Rdbs.go g r)
theorem Rdbs.one {vs : List V} {d : D} (h : Rdbs G B H vs [d]) : ∃ v, vs = [v] ∧ Rdb G B H v d := by
  cases h with
  | cons h r => cases r; exact ⟨_, rfl, h⟩
theorem Rdbs.two {vs : List V} {d e : D} (h : Rdbs G B H vs [d, e]) : ∃ v u, vs = [v, u] ∧ Rdb G B H v d ∧ Rdb G B H u e := by
  cases h with
  | cons h r =>
    obtain ⟨u, e, h2⟩ := r.one
    exact ⟨_, u, by rw [e], h, h2⟩
/-! len -/
def rLenX (K : PySem.W.Frag) : List V → Hp → VK → Prop := fun xs H Q => (∃ x n, xs = [x] ∧ LenV K x H n ∧ Q (.int n) H) ∨ ∃ a kvs, xs = [.ref a] ∧ H a = some (.dK kvs) ∧ Q (.int (kvs.length : Int)) H
theorem CallR.or' {X : Cx} {f : Value} {r r' : List V → Hp → VK → Prop} (h : CallR X f r) (h' : CallR X f r') : CallR X f (fun x H Q => r x H Q ∨ r' x H Q) := fun pins s σ H xs us Q I rv q => q.elim (h pins s σ H xs us Q I rv) (h' pins s σ H xs us Q I rv)
theorem call_lenK {X : Cx} {K : PySem.W.Frag} (h : X.K = K) : CallR X (.builtin "len") (rLenX K) := h ▸ CallR.or' call_len call_lenD
def lenD : D → R Int
  | .lst ds => .ok ds.length
  | .tup ds => .ok ds.length
  | .scr ns => .ok ns.length
  | .str s => if s.length ≤ sizeLine then .ok s.length else .bad
  | .dk ds => .ok ds.length
  | _ => .bad
def lenF : List D → R RV
  | [x] => (lenD x).bind fun n => .ok (dv (.int n))
  | _ => .bad
theorem caS_len : CaS G (rLenX G.K) lenF := fun E B H vs xs ex rs Q P => by
  rcases xs with _ | ⟨x, _ | ⟨y, r⟩⟩ <;> first | exact P.elim | skip
  obtain ⟨v, rfl, rx⟩ := rs.one
  cases x with
  | lst ds =>
    obtain ⟨a, us, rfl, e1, r⟩ := rx.lst ex
    exact .inl ⟨_, _, rfl, .inl ⟨us, sq_of e1, rfl⟩, by rw [r.len]; exact Post.dat P ex (.int _)⟩
  | tup ds =>
    obtain ⟨a, us, rfl, e1, r⟩ := rx.tup ex
    exact .inl ⟨_, _, rfl, .inr ⟨us, e1, rfl⟩, by rw [r.len]; exact Post.dat P ex (.int _)⟩
  | scr ns =>
    obtain ⟨a, rfl, e1⟩ := rx.scr ex
    exact .inl ⟨_, _, rfl, .inl ⟨_, e1, rfl⟩, by rw [List.length_map]; exact Post.dat P ex (.int _)⟩
  | str s =>
    unfold lenF lenD at P
    by_cases c : s.length ≤ sizeLine
    · simp only [if_pos c] at P
      rw [rx.str.1]
      exact .inl ⟨_, s.length, rfl, ⟨c, rfl⟩, Post.dat P ex (.int _)⟩
    · simp only [if_neg c] at P
      exact P.elim
  | dk ds =>
    obtain ⟨a, us, rfl, e1, r⟩ := rx.dk ex
    exact .inr ⟨a, us, rfl, e1, by rw [r.len]; exact Post.dat P ex (.int _)⟩
  | _ => exact P.elim
/-! abs, int, bool, str -/
def absF : List D → R RV
  | [.int n] => .ok (dv (.int (if n < 0 then -n else n)))
  | _ => .bad
theorem caS_abs : CaS G (fun xs H Q => ∃ i, xs = [.int i] ∧ Q (.int (if i < 0 then -i else i)) H) absF := fun E B H vs xs ex rs Q P => by
  unfold absF at P
  split at P <;> first | exact P.elim | skip
  obtain ⟨v, rfl, rx⟩ := rs.one
  rw [rx.int]
  exact ⟨_, rfl, Post.dat P ex (.int _)⟩
def rInt : List V → Hp → VK → Prop := fun xs H Q => ((∃ i, xs = [.int i] ∧ Q (.int i) H) ∨ ∃ k, xs = [.bl k] ∧ Q (.int (if k then 1 else 0)) H) ∨ ∃ (a : Str) (n : Int), xs = [.str a] ∧ PySem.intText? a = some n ∧ a.length ≤ 640 ∧ Q (.int n) H
theorem call_intK {X : Cx} : CallR X (.type "int") rInt := CallR.or' call_int1 call_int_str
def intD : D → R Int
  | .int n => .ok n
  | .bl k => .ok (if k then 1 else 0)
  | .str a => if a.length ≤ 640 then .ofO (PySem.intText? a) else .bad
  | _ => .bad
def intF1 : List D → R RV
  | [x] => (intD x).bind fun n => .ok (dv (.int n))
  | _ => .bad
theorem caS_int : CaS G rInt intF1 := fun E B H vs xs ex rs Q P => by
  rcases xs with _ | ⟨x, _ | ⟨y, r⟩⟩ <;> first | exact P.elim | skip
  obtain ⟨v, rfl, rx⟩ := rs.one
  cases x with
  | int n =>
    rw [rx.int]
    exact .inl (.inl ⟨_, rfl, Post.dat P ex (.int _)⟩)
  | bl k =>
    rw [rx.bl]
    exact .inl (.inr ⟨_, rfl, Post.dat P ex (.int _)⟩)
  | str a =>
    unfold intF1 intD at P
    by_cases c : a.length ≤ 640
    · simp only [if_pos c] at P
      cases e : PySem.intText? a with
      | none => rw [e] at P; exact P.elim
      | some n =>
        rw [e] at P
        rw [rx.str.1]
        exact .inr ⟨a, n, rfl, e, c, Post.dat P ex (.int _)⟩
    · simp only [if_neg c] at P
      exact P.elim
  | _ => exact P.elim
def boolF : List D → R RV
  | [.int n] => .ok (dv (.bl (n != 0)))
  | [.bl k] => .ok (dv (.bl k))
  | _ => .bad
theorem caS_bool : CaS G (fun xs H Q => (∃ i, xs = [.int i] ∧ Q (.bl (i != 0)) H) ∨ ∃ k, xs = [.bl k] ∧ Q (.bl k) H) boolF := fun E B H vs xs ex rs Q P => by
  unfold boolF at P
  split at P <;> first | exact P.elim | skip
  · obtain ⟨v, rfl, rx⟩ := rs.one
    rw [rx.int]
    exact .inl ⟨_, rfl, Post.dat P ex (.bl _)⟩
  · obtain ⟨v, rfl, rx⟩ := rs.one
    rw [rx.bl]
    exact .inr ⟨_, rfl, Post.dat P ex (.bl _)⟩
def strI (n : Int) : Str := (toString n : String)
theorem sok_lit (s : String) : SOk (s : Str) := sok_iff.mpr fun c m => by
  rw [Str.ofString_eq_toList] at m
  have m' : c ∈ s.toList.map Char.toNat := by simpa using m
  obtain ⟨k, _, rfl⟩ := List.mem_map.mp m'
  have := k.valid
  show k.val.toNat < 0x110000
  rcases this with h | h
  · have : k.val.toNat < 0xd800 := h
    omega
  · exact h.2
def strF : List D → R RV
  | [.int n] => if n.natAbs.log2 < 1920 then .ok (dv (.str (strI n))) else .bad
  | _ => .bad
theorem caS_str : CaS G (fun xs H Q => ∃ i : Int, xs = [.int i] ∧ i.natAbs.log2 < 1920 ∧ Q (.str (toString i)) H) strF := fun E B H vs xs ex rs Q P => by
  unfold strF at P
  split at P <;> first | exact P.elim | skip
  rename_i n
  by_cases c : n.natAbs.log2 < 1920
  · rw [if_pos c] at P
    obtain ⟨v, rfl, rx⟩ := rs.one
    rw [rx.int]
    exact ⟨_, rfl, c, Post.dat P ex (.str _ (sok_lit _))⟩
  · rw [if_neg c] at P
    exact P.elim
/-! list, tuple -/
def rListOf (K : PySem.W.Frag) : List V → Hp → VK → Prop := fun xs H Q => ∃ p ys, xs = [.ref p] ∧ (SqL K H p ys ∨ SqT K H p ys) ∧ ∀ l, H l = none → Q (.ref l) (upd H l (.lst ys))
def rTupOf (K : PySem.W.Frag) : List V → Hp → VK → Prop := fun xs H Q => ∃ p ys, xs = [.ref p] ∧ ((SqL K H p ys ∧ ∀ l, H l = none → Q (.ref l) (upd H l (.tup ys))) ∨ (SqT K H p ys ∧ Q (.ref p) H))
theorem call_tupK {X : Cx} {K : PySem.W.Frag} (h : X.K = K) : CallR X (.type "tuple") (rTupOf K) := h ▸ call_tuple_of
def listF : List D → R RV
  | [.lst ds] => .ok (ov (.lst ds))
  | [.tup ds] => .ok (ov (.lst ds))
  | _ => .bad
theorem caS_list : CaS G (rListOf G.K) listF := fun E B H vs xs ex rs Q P => by
  unfold listF at P
  split at P <;> first | exact P.elim | skip
  · obtain ⟨v, rfl, rx⟩ := rs.one
    obtain ⟨a, us, rfl, e1, r⟩ := rx.lst ex
    exact ⟨a, us, rfl, .inl (sq_of e1), fun l hl => Post.new P ex hl (.lst r)⟩
  · obtain ⟨v, rfl, rx⟩ := rs.one
    obtain ⟨a, us, rfl, e1, r⟩ := rx.tup ex
    exact ⟨a, us, rfl, .inr e1, fun l hl => Post.new P ex hl (.lst r)⟩
def tupF : List D → R RV
  | [.lst ds] => .ok (dv (.tup ds))
  | [.tup ds] => .ok (dv (.tup ds))
  | _ => .bad
theorem caS_tup : CaS G (rTupOf G.K) tupF := fun E B H vs xs ex rs Q P => by
  unfold tupF at P
  split at P <;> first | exact P.elim | skip
  · obtain ⟨v, rfl, rx⟩ := rs.one
    obtain ⟨a, us, rfl, e1, r⟩ := rx.lst ex
    exact ⟨a, us, rfl, .inl ⟨sq_of e1, fun l hl => Post.tup P ex hl r⟩⟩
  · obtain ⟨v, rfl, rx⟩ := rs.one
    obtain ⟨a, us, rfl, e1, r⟩ := rx.tup ex
    exact ⟨a, us, rfl, .inr ⟨e1, Post.dat P ex (rx.plain rfl)⟩⟩
/-! sum, all, any, max, min -/
def intsOf : List D → Option (List Int)
  | [] => some []
  | .int n :: r => (intsOf r).map (n :: ·)
  | _ => none
theorem intsOf_eq : ∀ {ds : List D} {ns : List Int}, intsOf ds = some ns → ds = ns.map D.int
  | [], ns, h => by cases h; rfl
  | d :: r, ns, h => by
    cases d <;> simp only [intsOf] at h <;> first | (cases h; done) | skip
    cases e : intsOf r with
    | none => rw [e] at h; cases h
    | some ms =>
      rw [e] at h
      cases h
      rw [intsOf_eq e]
      rfl
@[simp] theorem intsOf_map : ∀ ns : List Int, intsOf (ns.map D.int) = some ns
  | [] => rfl
  | n :: r => by
    show (intsOf (r.map D.int)).map (n :: ·) = _
    rw [intsOf_map r]
    rfl
def blsOf : List D → Option (List Bool)
  | [] => some []
  | .bl n :: r => (blsOf r).map (n :: ·)
  | _ => none
theorem blsOf_eq : ∀ {ds : List D} {ns : List Bool}, blsOf ds = some ns → ds = ns.map D.bl
  | [], ns, h => by cases h; rfl
  | d :: r, ns, h => by
    cases d <;> simp only [blsOf] at h <;> first | (cases h; done) | skip
    cases e : blsOf r with
    | none => rw [e] at h; cases h
    | some ms =>
      rw [e] at h
      cases h
      rw [blsOf_eq e]
      rfl
@[simp] theorem blsOf_map : ∀ ns : List Bool, blsOf (ns.map D.bl) = some ns
  | [] => rfl
  | n :: r => by
    show (blsOf (r.map D.bl)).map (n :: ·) = _
    rw [blsOf_map r]
    rfl
def sumF : List D → R RV
  | [.lst ds] => (R.ofO (intsOf ds)).bind fun ns => .ok (dv (.int ns.sum))
  | _ => .bad
theorem cr_sumK {X : Cx} {K : PySem.W.Frag} (h : X.K = K) (hc : X.calm = true) : CallR X (.builtin "sum") (rSum K) := h ▸ cr_sum hc
theorem cr_allK {X : Cx} {K : PySem.W.Frag} (h : X.K = K) (hc : X.calm = true) : CallR X (.builtin "all") (rAll K) := h ▸ cr_all hc
theorem caS_sum : CaS G (rSum G.K) sumF := fun E B H vs xs ex rs Q P => by
  unfold sumF at P
  split at P <;> first | exact P.elim | skip
  obtain ⟨v, rfl, rx⟩ := rs.one
  obtain ⟨a, us, rfl, e1, r⟩ := rx.lst ex
  rename_i ds
  cases e : intsOf ds with
  | none => rw [e] at P; exact P.elim
  | some ns =>
    rw [e] at P
    rw [intsOf_eq e] at r
    exact ⟨a, ns, rfl, by rw [← r.ints]; exact sq_of e1, Post.dat P ex (.int _)⟩
def allF : List D → R RV
  | [.lst ds] => (R.ofO (blsOf ds)).bind fun ns => .ok (dv (.bl (ns.all id)))
  | _ => .bad
def anyF : List D → R RV
  | [.lst ds] => (R.ofO (blsOf ds)).bind fun ns => .ok (dv (.bl (ns.any id)))
  | _ => .bad
theorem caS_all : CaS G (rAll G.K) allF := fun E B H vs xs ex rs Q P => by
  unfold allF at P
  split at P <;> first | exact P.elim | skip
  obtain ⟨v, rfl, rx⟩ := rs.one
  obtain ⟨a, us, rfl, e1, r⟩ := rx.lst ex
  rename_i ds
  cases e : blsOf ds with
  | none => rw [e] at P; exact P.elim
  | some ns =>
    rw [e] at P
    rw [blsOf_eq e] at r
    exact ⟨a, ns, rfl, by rw [← r.bools]; exact sq_of e1, Post.dat P ex (.bl _)⟩
theorem caS_any : CaS G (rAny G.K) anyF := fun E B H vs xs ex rs Q P => by
  unfold anyF at P
  split at P <;> first | exact P.elim | skip
  obtain ⟨v, rfl, rx⟩ := rs.one
  obtain ⟨a, us, rfl, e1, r⟩ := rx.lst ex
  rename_i ds
  cases e : blsOf ds with
  | none => rw [e] at P; exact P.elim
  | some ns =>
    rw [e] at P
    rw [blsOf_eq e] at r
    exact ⟨a, ns, rfl, by rw [← r.bools]; exact sq_of e1, Post.dat P ex (.bl _)⟩
def max2F : List D → R RV
  | [.int m, .int n] => .ok (dv (.int (max m n)))
  | _ => .bad
def min2F : List D → R RV
  | [.int m, .int n] => .ok (dv (.int (min m n)))
  | _ => .bad
theorem caS_max2 : CaS G (fun xs H Q => ∃ i j, xs = [.int i, .int j] ∧ Q (.int (if j > i then j else i)) H) max2F := fun E B H vs xs ex rs Q P => by
  unfold max2F at P
  split at P <;> first | exact P.elim | skip
  rename_i m n
  obtain ⟨v, u, rfl, rx, ry⟩ := rs.two
  rw [rx.int, ry.int]
  refine ⟨_, _, rfl, ?_⟩
  have e : (if n > m then n else m) = max m n := by omega
  rw [e]
  exact Post.dat P ex (.int _)
theorem caS_min2 : CaS G (fun xs H Q => ∃ i j, xs = [.int i, .int j] ∧ Q (.int (if j < i then j else i)) H) min2F := fun E B H vs xs ex rs Q P => by
  unfold min2F at P
  split at P <;> first | exact P.elim | skip
  rename_i m n
  obtain ⟨v, u, rfl, rx, ry⟩ := rs.two
  rw [rx.int, ry.int]
  refine ⟨_, _, rfl, ?_⟩
  have e : (if n < m then n else m) = min m n := by omega
  rw [e]
  exact Post.dat P ex (.int _)
/-- of lists, tuples -/
def rMinT (K : PySem.W.Frag) : List V → Hp → VK → Prop := fun vs H Q => ∃ (a : Addr) (x : Int) (xs : List Int), vs = [V.ref a] ∧ SqT K H a ((x :: xs).map V.int) ∧ Q (.int (PySem.W.minOf x xs)) H
def rMaxT (K : PySem.W.Frag) : List V → Hp → VK → Prop := fun vs H Q => ∃ (a : Addr) (x : Int) (xs : List Int), vs = [V.ref a] ∧ SqT K H a ((x :: xs).map V.int) ∧ Q (.int (PySem.W.maxOf x xs)) H
section
variable {X : Cx} {K : PySem.W.Frag}
def rMinA (K : PySem.W.Frag) : List V → Hp → VK → Prop := fun vs H Q => rMin K vs H Q ∨ rMinT K vs H Q
def rMaxA (K : PySem.W.Frag) : List V → Hp → VK → Prop := fun vs H Q => rMax K vs H Q ∨ rMaxT K vs H Q
end
def maxL : Int → List Int → Int
  | x, [] => x
  | x, y :: r => maxL (max x y) r
def minL : Int → List Int → Int
  | x, [] => x
  | x, y :: r => minL (min x y) r
theorem maxL_ge : ∀ (x : Int) (r : List Int), x ≤ maxL x r ∧ ∀ y ∈ r, y ≤ maxL x r
  | x, [] => ⟨Int.le_refl x, fun y m => nomatch m⟩
  | x, y :: r => by
    obtain ⟨h1, h2⟩ := maxL_ge (max x y) r
    have e : maxL x (y :: r) = maxL (max x y) r := rfl
    rw [e]
    refine ⟨by omega, fun z m => ?_⟩
    rcases List.mem_cons.mp m with rfl | m
    · omega
    · exact h2 z m
theorem maxL_mem : ∀ (x : Int) (r : List Int), maxL x r ∈ x :: r
  | x, [] => List.mem_cons_self
  | x, y :: r => by
    have h := maxL_mem (max x y) r
    have e : maxL x (y :: r) = maxL (max x y) r := rfl
    rw [e]
    rcases List.mem_cons.mp h with h | h
    · rw [h]
      rcases Int.le_total x y with c | c
      · rw [Int.max_eq_right c]
        exact List.mem_cons_of_mem _ List.mem_cons_self
      · rw [Int.max_eq_left c]
        exact List.mem_cons_self
    · exact List.mem_cons_of_mem _ (List.mem_cons_of_mem _ h)
theorem minL_le : ∀ (x : Int) (r : List Int), minL x r ≤ x ∧ ∀ y ∈ r, minL x r ≤ y
  | x, [] => ⟨Int.le_refl x, fun y m => nomatch m⟩
  | x, y :: r => by
    obtain ⟨h1, h2⟩ := minL_le (min x y) r
    have e : minL x (y :: r) = minL (min x y) r := rfl
    rw [e]
    refine ⟨by omega, fun z m => ?_⟩
    rcases List.mem_cons.mp m with rfl | m
    · omega
    · exact h2 z m
theorem minL_mem : ∀ (x : Int) (r : List Int), minL x r ∈ x :: r
  | x, [] => List.mem_cons_self
  | x, y :: r => by
    have h := minL_mem (min x y) r
    have e : minL x (y :: r) = minL (min x y) r := rfl
    rw [e]
    rcases List.mem_cons.mp h with h | h
    · rw [h]
      rcases Int.le_total x y with c | c
      · rw [Int.min_eq_left c]
        exact List.mem_cons_self
      · rw [Int.min_eq_right c]
        exact List.mem_cons_of_mem _ List.mem_cons_self
    · exact List.mem_cons_of_mem _ (List.mem_cons_of_mem _ h)
theorem maxOf_eq : ∀ (x : Int) (r : List Int), PySem.W.maxOf x r = maxL x r
  | x, [] => rfl
  | x, y :: r => by
    have e : PySem.W.maxOf x (y :: r) = PySem.W.maxOf (if PySem.W.DatumOrd.lt x y then y else x) r := rfl
    rw [e, maxOf_eq]
    show _ = maxL (max x y) r
    congr 1
    show (if decide (x < y) = true then y else x) = _
    by_cases c : x < y
    · simp [c]; omega
    · simp [c]; omega
theorem minOf_eq : ∀ (x : Int) (r : List Int), PySem.W.minOf x r = minL x r
  | x, [] => rfl
  | x, y :: r => by
    have e : PySem.W.minOf x (y :: r) = PySem.W.minOf (if PySem.W.DatumOrd.lt y x then y else x) r := rfl
    rw [e, minOf_eq]
    show _ = minL (min x y) r
    congr 1
    show (if decide (y < x) = true then y else x) = _
    by_cases c : y < x
    · simp [c]; omega
    · simp [c]; omega
def maxAF : List D → R RV
  | [.lst ds] => (R.ofO (intsOf ds)).bind fun | n :: r => .ok (dv (.int (maxL n r))) | [] => .bad
  | [.tup ds] => (R.ofO (intsOf ds)).bind fun | n :: r => .ok (dv (.int (maxL n r))) | [] => .bad
  | _ => .bad
def minAF : List D → R RV
  | [.lst ds] => (R.ofO (intsOf ds)).bind fun | n :: r => .ok (dv (.int (minL n r))) | [] => .bad
  | [.tup ds] => (R.ofO (intsOf ds)).bind fun | n :: r => .ok (dv (.int (minL n r))) | [] => .bad
  | _ => .bad
theorem caS_maxA : CaS G (rMaxA G.K) maxAF := fun E B H vs xs ex rs Q P => by
  unfold maxAF at P
  split at P <;> first | exact P.elim | skip
  all_goals
    obtain ⟨v, rfl, rx⟩ := rs.one
    rename_i ds
    cases e : intsOf ds with
    | none => rw [e] at P; exact P.elim
    | some ns =>
      rw [e] at P
      cases ns with
      | nil => exact P.elim
      | cons n r =>
        first
        | (obtain ⟨a, us, rfl, e1, rr⟩ := rx.lst ex
           rw [intsOf_eq e] at rr
           refine .inl ⟨a, n :: r, rfl, by rw [← rr.ints]; exact sq_of e1, Nat.succ_pos _, fun m h1 h2 => ?_⟩
           have : m = maxL n r := by
             have h3 := h2 _ (maxL_mem n r)
             obtain ⟨h4, h5⟩ := maxL_ge n r
             rcases List.mem_cons.mp h1 with z | z
             · omega
             · have := h5 m z
               omega
           rw [this]
           exact Post.dat P ex (.int _))
        | (obtain ⟨a, us, rfl, e1, rr⟩ := rx.tup ex
           rw [intsOf_eq e] at rr
           refine .inr ⟨a, n, r, rfl, by rw [← rr.ints]; exact e1, ?_⟩
           rw [maxOf_eq]
           exact Post.dat P ex (.int _))
theorem caS_minA : CaS G (rMinA G.K) minAF := fun E B H vs xs ex rs Q P => by
  unfold minAF at P
  split at P <;> first | exact P.elim | skip
  all_goals
    obtain ⟨v, rfl, rx⟩ := rs.one
    rename_i ds
    cases e : intsOf ds with
    | none => rw [e] at P; exact P.elim
    | some ns =>
      rw [e] at P
      cases ns with
      | nil => exact P.elim
      | cons n r =>
        first
        | (obtain ⟨a, us, rfl, e1, rr⟩ := rx.lst ex
           rw [intsOf_eq e] at rr
           refine .inl ⟨a, n :: r, rfl, by rw [← rr.ints]; exact sq_of e1, Nat.succ_pos _, fun m h1 h2 => ?_⟩
           have : m = minL n r := by
             have h3 := h2 _ (minL_mem n r)
             obtain ⟨h4, h5⟩ := minL_le n r
             rcases List.mem_cons.mp h1 with z | z
             · omega
             · have := h5 m z
               omega
           rw [this]
           exact Post.dat P ex (.int _))
        | (obtain ⟨a, us, rfl, e1, rr⟩ := rx.tup ex
           rw [intsOf_eq e] at rr
           refine .inr ⟨a, n, r, rfl, by rw [← rr.ints]; exact e1, ?_⟩
           rw [minOf_eq]
           exact Post.dat P ex (.int _))
/-! isqrt -/
def rIsq : List V → Hp → VK → Prop := fun vs H Q => ∃ a : Int, vs = [.int a] ∧ 0 ≤ a ∧ a.toNat.log2 ≤ 13000 ∧ Q (.int ((Float64.isqrt a.toNat : Nat) : Int)) H
def isqF : List D → R RV
  | [.int n] => if 0 ≤ n ∧ n.toNat.log2 ≤ 13000 then .ok (dv (.int ((Float64.isqrt n.toNat : Nat) : Int))) else .bad
  | _ => .bad
theorem caS_isq : CaS G rIsq isqF := fun E B H vs xs ex rs Q P => by
  unfold isqF at P
  split at P <;> first | exact P.elim | skip
  rename_i n
  by_cases c : 0 ≤ n ∧ n.toNat.log2 ≤ 13000
  · rw [if_pos c] at P
    obtain ⟨v, rfl, rx⟩ := rs.one
    rw [rx.int]
    exact ⟨_, rfl, c.1, c.2, Post.dat P ex (.int _)⟩
  · rw [if_neg c] at P
    exact P.elim
/-! isinstance -/
def tyD : D → Option String
  | .non => some "NoneType"
  | .bl _ => some "bool"
  | .int _ => some "int"
  | .str _ => some "str"
  | .tup _ => some "tuple"
  | .lst _ => some "list"
  | .dk _ => some "dict"
  | _ => none
theorem call_isiX {X : Cx} {K : PySem.W.Frag} (h : X.K = K) : CallR X (.builtin "isinstance") (rIsi K) := h ▸ call_isi
theorem Rdb.tyx {v : V} {d : D} {t : String} (e : Ex B H) (h : Rdb G B H v d) (ht : tyD d = some t) : TyX G.K H v (.type t) := by
  cases d with
  | non => rw [h.non]; cases ht; exact .base .non
  | bl b => rw [h.bl]; cases ht; exact .base (.bl b)
  | int i => rw [h.int]; cases ht; exact .base (.int i)
  | str s => rw [h.str.1]; cases ht; exact .base (.str s)
  | lst ds =>
    obtain ⟨a, us, rfl, e1, r⟩ := h.lst e
    cases ht
    exact .base (.lst e1)
  | dk ds =>
    obtain ⟨a, us, rfl, e1, r⟩ := h.dk e
    cases ht
    exact .base (.dK e1)
  | tup ds =>
    obtain ⟨a, us, rfl, e1, r⟩ := h.tup e
    cases ht
    rcases e1 with (h | ⟨o, h⟩) | ⟨o, its, m, h1, h2, _⟩
    · exact .base (.tup h)
    · exact .fTuple h
    · exact .kTuple h1 h2
  | _ => cases ht
def isiF (T : String) (d : D) : R RV := (R.ofO (tyD d)).bind fun t => (R.ofO (kitB t T)).bind fun k => .ok (dv (.bl k))
/-! len(set(ints)), chains of three comparisons -/
def nubN (ns : List Int) : Nat := (PyProof.Rows.firstMet (fun i => ns.getD i 0) ns.length).length
def rLenSet (K : PySem.W.Frag) : List V → Hp → VK → Prop := fun vs H Q => ∃ (a : Addr) (ns : List Int), vs = [V.ref a] ∧ SqL K H a (ns.map V.int) ∧ ns.length ≤ 4000 ∧ Q (.int (nubN ns : Nat)) H
def lenSetF : List D → R RV
  | [.lst ds] => (R.ofO (intsOf ds)).bind fun ns => if ns.length ≤ 4000 then .ok (dv (.int (nubN ns : Nat))) else .bad
  | _ => .bad
theorem caS_lenset : CaS G (rLenSet G.K) lenSetF := fun E B H vs xs ex rs Q P => by
  unfold lenSetF at P
  split at P <;> first | exact P.elim | skip
  obtain ⟨v, rfl, rx⟩ := rs.one
  obtain ⟨a, us, rfl, e1, r⟩ := rx.lst ex
  rename_i ds
  cases e : intsOf ds with
  | none => rw [e] at P; exact P.elim
  | some ns =>
    rw [e] at P
    rw [intsOf_eq e] at r
    by_cases c : ns.length ≤ 4000
    · rw [R.ofO, R.bind_ok, if_pos c] at P
      exact ⟨a, ns, rfl, by rw [← r.ints]; exact sq_of e1, c, Post.dat P ex (.int _)⟩
    · rw [R.ofO, R.bind_ok, if_neg c] at P
      exact P.elim
def zipD : List D → List D → List D
  | x :: xs, y :: ys => .tup [x, y] :: zipD xs ys
  | _, _ => []
theorem zipD_len : ∀ {xs ys : List D}, xs.length = ys.length → (zipD xs ys).length = xs.length
  | [], _, _ => by unfold zipD; rfl
  | _ :: _, [], h => by cases h
  | x :: xs, y :: ys, h => congrArg Nat.succ (zipD_len (Nat.succ.inj h))
theorem zipD_at : ∀ {xs ys : List D} {j : Nat} {x y : D}, xs[j]? = some x → ys[j]? = some y → (zipD xs ys)[j]? = some (.tup [x, y])
  | [], _, _, _, _, h, _ => by cases h
  | _ :: _, [], _, _, _, _, h => by cases h
  | x :: xs, y :: ys, 0, _, _, h1, h2 => by cases h1; cases h2; rfl
  | x :: xs, y :: ys, j + 1, _, _, h1, h2 => zipD_at (xs := xs) (ys := ys) (j := j) h1 h2
theorem reps_at {B : Hp} : ∀ {vs : List V} {ds : List D} {j : Nat} {v : V}, Reps G B vs ds → vs[j]? = some v → ∃ d, ds[j]? = some d ∧ Rep G B v d
  | _, _, _, _, .nil, h => by cases h
  | _, _, 0, _, .cons r _, h => by cases h; exact ⟨_, rfl, r⟩
  | _, _, j + 1, _, .cons _ r, h => reps_at (j := j) r h
theorem reps_of {B : Hp} : ∀ {vs : List V} {ds : List D}, vs.length = ds.length → (∀ (j : Nat) (v : V), vs[j]? = some v → ∃ d, ds[j]? = some d ∧ Rep G B v d) → Reps G B vs ds
  | [], [], _, _ => .nil
  | [], _ :: _, h, _ => by cases h
  | _ :: _, [], h, _ => by cases h
  | v :: vs, d :: ds, h, k => by
    obtain ⟨d', e, r⟩ := k 0 v rfl
    cases e
    exact .cons r (reps_of (Nat.succ.inj h) fun j u hu => k (j + 1) u hu)
def lzipF : List D → R RV
  | [.lst xs, .lst ys] => if xs.length = ys.length ∧ xs.length ≤ sizeLine then .ok (ov (.lst (zipD xs ys))) else .bad
  | _ => .bad
theorem caS_lzip : CaS G (rLzip G.K) lzipF := fun E B H vs xs ex rs Q P => by
  unfold lzipF at P
  split at P <;> first | exact P.elim | skip
  rename_i ds es
  cases rs with
  | cons r1 rs =>
    cases rs with
    | cons r2 rs =>
      cases rs
      obtain ⟨a, us, rfl, a1, ru⟩ := r1.lst ex
      obtain ⟨b, ws, rfl, b1, rw_⟩ := r2.lst ex
      by_cases c : ds.length = es.length ∧ ds.length ≤ sizeLine
      · rw [if_pos c] at P
        refine ⟨a, b, us, ws, rfl, sq_of a1, sq_of b1, by rw [ru.len, rw_.len]; exact c.1, by rw [ru.len]; exact c.2, ?_⟩
        rintro H' p ts ⟨z1, z2, z3, z4, z5, z6, z7⟩
        have bb : Ex B (fun d => if d ∈ ts then H' d else B d) := fun d o e => by
          show (if d ∈ ts then H' d else B d) = some o
          rw [if_neg fun m => by have := ex d o e; rw [z3 d m] at this; cases this]
          exact e
        refine P (.ref p) (fun d => if d ∈ ts then H' d else B d) H' ⟨bb, fun d o e => ?_, z1, fun d o e1 e2 => ?_⟩ (.new z2 ?_ z5 (.lst ?_))
        · by_cases m : d ∈ ts
          · have e : (if d ∈ ts then H' d else B d) = some o := e
            rw [if_pos m] at e
            exact e
          · have e : (if d ∈ ts then H' d else B d) = some o := e
            rw [if_neg m] at e
            exact z1 d o (ex d o e)
        · show (if d ∈ ts then H' d else B d) = none
          rw [if_neg fun m => by rw [z3 d m] at e1; cases e1]
          exact e2
        · show (if p ∈ ts then H' p else B p) = none
          rw [if_neg z4]
          exact none_of_ex ex z2
        · refine reps_of (by rw [List.length_map, z6, zipD_len c.1]; exact ru.len) fun j v hv => ?_
          rw [List.getElem?_map] at hv
          cases ht : ts[j]? with
          | none => rw [ht] at hv; cases hv
          | some t =>
            rw [ht] at hv
            cases hv
            obtain ⟨x, y, e1, e2, e3⟩ := z7 j t ht
            obtain ⟨dx, f1, g1⟩ := reps_at ru e1
            obtain ⟨dy, f2, g2⟩ := reps_at rw_ e2
            refine ⟨_, zipD_at f1 f2, .tup (st_of (xs := [x, y]) ?_) (.cons (g1.mono bb) (.cons (g2.mono bb) .nil))⟩
            show (if t ∈ ts then H' t else B t) = _
            rw [if_pos (List.mem_of_getElem? ht)]
            exact e3
      · rw [if_neg c] at P
        exact P.elim
def rg1F : List D → R RV
  | [.int n] => .ok (dv (.rng 0 n))
  | _ => .bad
theorem caS_rg1 : CaS G rRg1 rg1F := fun E B H vs xs ex rs Q P => by
  unfold rg1F at P
  split at P <;> first | exact P.elim | skip
  rename_i n
  obtain ⟨v, rfl, rx⟩ := rs.one
  rw [rx.int]
  exact ⟨n, rfl, fun p hp => P _ _ _ (Go.new ex hp) (.d (.rng upd_same))⟩
def tChain3 (r r' r2 : R2) (ta tb tc td : TE) : TE := fun σ H Q => ta σ H fun x H1 => tb σ H1 fun y H2 => r x y H2 fun z H3 => ∃ k, z = .bl k ∧
  (if k = true then tc σ H3 fun w H4 => r' y w H4 fun z2 H5 => ∃ k2, z2 = .bl k2 ∧ (if k2 = true then td σ H5 fun u H6 => r2 w u H6 Q else Q (.bl false) H5) else Q (.bl false) H3)
/-! one table -/
inductive Cb where
  | len | abs | int | bool | str | list | tuple | sum | all | any | max2 | min2 | maxA | minA | isqrt | lenset | lzip | range1
def Cb.den (K : PySem.W.Frag) : Cb → List V → Hp → VK → Prop
  | .len => rLenX K
  | .abs => fun xs H Q => ∃ i, xs = [.int i] ∧ Q (.int (if i < 0 then -i else i)) H
  | .int => rInt
  | .bool => fun xs H Q => (∃ i, xs = [.int i] ∧ Q (.bl (i != 0)) H) ∨ ∃ k, xs = [.bl k] ∧ Q (.bl k) H
  | .str => fun xs H Q => ∃ i : Int, xs = [.int i] ∧ i.natAbs.log2 < 1920 ∧ Q (.str (toString i)) H
  | .list => rListOf K
  | .tuple => rTupOf K
  | .sum => rSum K
  | .all => rAll K
  | .any => rAny K
  | .max2 => fun xs H Q => ∃ i j, xs = [.int i, .int j] ∧ Q (.int (if j > i then j else i)) H
  | .min2 => fun xs H Q => ∃ i j, xs = [.int i, .int j] ∧ Q (.int (if j < i then j else i)) H
  | .maxA => rMaxA K
  | .minA => rMinA K
  | .isqrt => rIsq
  | .lenset => rLenSet K
  | .lzip => rLzip K
  | .range1 => rRg1
def Cb.fn : Cb → List D → R RV
  | .len => lenF
  | .abs => absF
  | .int => intF1
  | .bool => boolF
  | .str => strF
  | .list => listF
  | .tuple => tupF
  | .sum => sumF
  | .all => allF
  | .any => anyF
  | .max2 => max2F
  | .min2 => min2F
  | .maxA => maxAF
  | .minA => minAF
  | .isqrt => isqF
  | .lenset => lenSetF
  | .lzip => lzipF
  | .range1 => rg1F
theorem Cb.ok (c : Cb) : CaS G (c.den G.K) c.fn := by
  cases c
  · exact caS_len
  · exact caS_abs
  · exact caS_int
  · exact caS_bool
  · exact caS_str
  · exact caS_list
  · exact caS_tup
  · exact caS_sum
  · exact caS_all
  · exact caS_any
  · exact caS_max2
  · exact caS_min2
  · exact caS_maxA
  · exact caS_minA
  · exact caS_isq
  · exact caS_lenset
  · exact caS_lzip
  · exact caS_rg1
/-- two-place operations -/
inductive B2 where
  | add | sub | mul | div | mod | pow | shl | lt | le | gt | ge | eq | ne | is | isnot | «in» | notin | ix | isb | notb | shr | band
def B2.den (K : PySem.W.Frag) : B2 → R2
  | .add => rPlus K
  | .sub => rI0 fun i j => .int (i - j)
  | .mul => rTimes K
  | .div => rI CDivW fun i j => .int (i / j)
  | .mod => rI (fun _ j => 0 < j) fun i j => .int (i % j)
  | .pow => rI CPow fun i j => .int (i ^ j.toNat)
  | .shl => rI CPow fun i j => .int (i * 2 ^ j.toNat)
  | .lt => rI0 fun i j => .bl (decide (i < j))
  | .le => rI0 fun i j => .bl (decide (i ≤ j))
  | .gt => rI0 fun i j => .bl (decide (i > j))
  | .ge => rI0 fun i j => .bl (decide (i ≥ j))
  | .eq => rEqD K
  | .ne => rNeD K
  | .is => rIsN
  | .isnot => rNotN
  | .in => rInA K
  | .notin => rNotInA K
  | .ix => rIx K
  | .isb => rIsB
  | .notb => rNotB
  | .shr => rI (fun _ j => 0 ≤ j) fun i j => .int (i / 2 ^ j.toNat)
  | .band => rI0 fun i j => .int (Builtin.bitAnd i j)
instance decNn : DecidableRel (fun (_ j : Int) => 0 ≤ j) := fun _ j => inferInstanceAs (Decidable (0 ≤ j))
instance decPos : DecidableRel (fun (_ j : Int) => 0 < j) := fun _ j => inferInstanceAs (Decidable (0 < j))
def B2.fn : B2 → D → D → R RV
  | .add => addF
  | .sub => intF fun i j => .int (i - j)
  | .mul => mulF
  | .div => intFC CDivW fun i j => .int (i / j)
  | .mod => intFC (fun _ j => 0 < j) fun i j => .int (i % j)
  | .pow => intFC CPow fun i j => .int (i ^ j.toNat)
  | .shl => intFC CPow fun i j => .int (i * 2 ^ j.toNat)
  | .lt => intF fun i j => .bl (decide (i < j))
  | .le => intF fun i j => .bl (decide (i ≤ j))
  | .gt => intF fun i j => .bl (decide (i > j))
  | .ge => intF fun i j => .bl (decide (i ≥ j))
  | .eq => eqF false
  | .ne => eqF true
  | .is => isF false
  | .isnot => isF true
  | .in => inF false
  | .notin => inF true
  | .ix => ixF
  | .isb => isBF false
  | .notb => isBF true
  | .shr => intFC (fun _ j => 0 ≤ j) fun i j => .int (i / 2 ^ j.toNat)
  | .band => intF fun i j => .int (Builtin.bitAnd i j)
theorem B2.ok (o : B2) : OpS G (o.den G.K) o.fn := by
  cases o
  · exact opS_add
  · exact op_intF fun B m n => .int _
  · exact opS_mul
  · exact op_intFC fun B m n => .int _
  · exact op_intFC fun B m n => .int _
  · exact op_intFC fun B m n => .int _
  · exact op_intFC fun B m n => .int _
  · exact op_intF fun B m n => .bl _
  · exact op_intF fun B m n => .bl _
  · exact op_intF fun B m n => .bl _
  · exact op_intF fun B m n => .bl _
  · exact opS_eq
  · exact opS_ne
  · exact opS_is
  · exact opS_isnot
  · exact opS_in
  · exact opS_notin
  · exact opS_ix
  · exact opS_isB
  · exact opS_notB
  · exact op_intFC fun B m n => .int _
  · exact op_intF fun B m n => .int _
end
end Ci
end

section
set_option Elab.async false
set_option linter.all false
set_option maxRecDepth 100000
set_option maxHeartbeats 2000000
/-! ## enumerate of a list or a tuple, from any number on -/
namespace CiEn
open PySem PySem.Spec PyProof.Rows L2 Evl
end CiEn
namespace Ci
open PySem PySem.Spec PyProof.Rows L2 Evl
def ItE (S : Hp → List V → Prop) (k : Int) : It where
  go i H := ∃ xs x, S H xs ∧ xs[i]? = some x
  yld i H v H' := ∃ T x, v = .ref T ∧ H T = none ∧ H' = upd H T (.tup [.int (k + (i : Int)), x]) ∧ ∀ xs, S H xs → xs[i]? = some x
  stop i H := ∃ xs, S H xs ∧ xs.length = i
/-- a turn, however what is walked is drawn -/
theorem turn_enumG {P : Program} {w : World} {K : PySem.W.Frag} {elts : List Expr} {kk : Nat} {tpos : Pos} {S : Hp → List V → Prop} {e it a : Addr} {k : Int} {I1 : Nat → Heap → Prop} (n1 : a ≠ it) (n2 : a ≠ e) (n3 : e ≠ it)
    (hI : ∀ i h, I1 i h → ∃ o, h.get? it = some o ∧ ∀ v, o.data ≠ Data.cell v) (hK : ∀ i h h', I1 i h → (∀ o, h.get? it = some o → h'.get? it = some o) → I1 i h')
    (inj : ∀ (X : Cx) pins σ H s xs ys, X.K = K → Inv X pins σ H s → S H xs → S H ys → xs = ys)
    (dr : ∀ (X : Cx) pins σ H s xs, X.prog = P → X.w = w → X.K = K → X.calm = true → Inv X pins σ H s → S H xs → ∃ us : List Value, Vals xs us ∧ ∃ L : Heap → Prop, L s.heap ∧ Draws P w X.A.in1 it [it, a] us.length (fun i v => us.toArray[i]? = some v) fun i h => I1 i h ∧ L h) :
    Turn P w K (.Tuple elts kk tpos) (ItE S k) [e, it] e fun i h => (∃ old, IsEnum h e it (k + (i : Int)) old) ∧ I1 i h where
  mem := List.mem_cons_self
  obj := fun i h t b m => by
    rcases List.mem_cons.mp m with rfl | m
    · obtain ⟨⟨old, g⟩, _⟩ := t
      exact ⟨_, g, fun v z => by cases z⟩
    · rw [List.mem_singleton.mp m]
      exact hI i h t.2
  keep := fun i h h' t kp => by
    obtain ⟨⟨old, g⟩, t2⟩ := t
    exact ⟨⟨old, kp e List.mem_cons_self _ g⟩, hK i h h' t2 fun o => kp it (by simp) o⟩
  self := fun A i s Q E t q => by
    obtain ⟨⟨old, g⟩, _⟩ := t
    exact wpAny_pyIter_enum g q
  item := fun X hp hw hk hc i pins s σ H E I fo t go => by
    subst hp hw
    obtain ⟨xs, x, hS, hx⟩ := go
    obtain ⟨us, vals, L, hL, D⟩ := dr X pins σ H s xs rfl rfl hk hc I hS
    obtain ⟨u, hu, ru⟩ := vals.get hx
    have ne : e ∉ [it, a] := by simp [n3, Ne.symm n2]
    have G := GoesN.enumFrom (elts := elts) (x1 := kk) (pos := tpos) k D e n3 ne (by simp)
    have lt : i < us.length := (List.getElem?_eq_some_iff.mp hu).1
    obtain ⟨ge, gi⟩ := t
    refine thn (G.goes i s (fun v s2 => ∃ x' H', Inv X pins σ H' s2 ∧ RelV x' v ∧ (ItE S k).yld i H x' H' ∧ ((∃ old, IsEnum s2.heap e it (k + ((i + 1 : Nat) : Int)) old) ∧ I1 (i + 1) s2.heap) ∧ ∀ b ∈ [e, it], H' b = none) E lt ⟨ge, gi, hL⟩ ?_) ?_
    · rintro v h' tk ⟨T, t, y, rfl, sz, hy, tup⟩ ⟨ge', gi', _⟩ fr ht
      have ey : y = u := by
        rw [List.getElem?_toArray] at hy
        exact Option.some.inj (hy.symm.trans hu)
      subst ey
      have fr0 : ∀ d, s.heap.objs.size ≤ d → H d = none := fun d l => I.hok.fresh l
      have fb : ∀ b ∈ [e, it], upd H T (.tup [.int (k + (i : Int)), x]) b = none := fun b m => by
        have l : b < s.heap.objs.size := by
          rcases List.mem_cons.mp m with rfl | m
          · obtain ⟨old, g⟩ := ge
            exact Heap.lt_size g
          · rw [List.mem_singleton.mp m]
            obtain ⟨o, g, _⟩ := hI i _ gi
            exact Heap.lt_size g
        rw [upd_ne (Nat.ne_of_lt (Nat.lt_of_lt_of_le l sz))]
        exact (fo b m).1
      refine ⟨.ref T, _, I.turnedNew (ch := [e, it]) fr (fun b m => fo b m) sz ?_, rfl, ⟨T, x, rfl, fr0 T sz, rfl, fun ys hy => ?_⟩, ⟨?_, gi'⟩, fb⟩
      · obtain ⟨o, g, c, n, d⟩ := tup
        exact ⟨by show 2 ≤ sizeLine; decide, [.int (k + (i : Int)) t, y], .cons ⟨_, rfl⟩ (.cons ru .nil), ⟨o, g, c, n, d⟩⟩
      · rw [inj X pins σ H s ys xs hk I hy hS]
        exact hx
      · obtain ⟨old, g⟩ := ge'
        exact ⟨old, by rw [show k + ((i + 1 : Nat) : Int) = k + ((i : Nat) + 1 : Nat) from rfl]; exact g⟩
    · exact fun r s1 h => h
  done := fun X hp hw hk hc i pins s σ H E I fo t stop => by
    subst hp hw
    obtain ⟨xs, hS, hx⟩ := stop
    obtain ⟨us, vals, L, hL, D⟩ := dr X pins σ H s xs rfl rfl hk hc I hS
    have ne : e ∉ [it, a] := by simp [n3, Ne.symm n2]
    have G := GoesN.enumFrom (elts := elts) (x1 := kk) (pos := tpos) k D e n3 ne (by simp)
    have en : us.length = i := by rw [← vals.length]; exact hx
    subst en
    obtain ⟨ge, gi⟩ := t
    exact thn (G.stops s (fun s1 => Inv X pins σ H s1) E ⟨ge, gi, hL⟩ fun h' tk fr ht => I.turnedL (ch := [e, it]) fr fun b m => fo b m) fun r s1 h => h
theorem turn_enumL {P : Program} {w : World} {K : PySem.W.Frag} {elts : List Expr} {kk : Nat} {tpos : Pos} {e it a : Addr} {k : Int} (n1 : a ≠ it) (n2 : a ≠ e) (n3 : e ≠ it) :
    Turn P w K (.Tuple elts kk tpos) (ItE (fun H xs => SqL K H a xs) k) [e, it] e fun i h => (∃ old, IsEnum h e it (k + (i : Int)) old) ∧ h.IsListIter it a i :=
  turn_enumG n1 n2 n3 (fun i h ⟨o, g, _, d⟩ => ⟨o, g, fun v z => by rw [d] at z; cases z⟩) (fun i h h' ⟨o, g, c, d⟩ kp => ⟨o, kp o g, c, d⟩) (fun X pins σ H s xs ys hk I h1 h2 => I.list_inj (hk ▸ h1) (hk ▸ h2)) fun X pins σ H s xs hp hw hk hc I hS => by
    obtain ⟨us, vals, pl, _⟩ := I.list (X := X) (hk ▸ hS)
    subst hp hw
    exact ⟨us, vals, fun h => h.IsList a us.toArray, pl.isList, by rw [← List.size_toArray]; exact Draws.list (A := X.A.in1) (I.ok.hd hc) it a n1 us.toArray⟩
def iEnumA (K : PySem.W.Frag) (ta : TA) : TI := fun σ H R => ta σ H fun vs H1 => ∃ a xs, vs = [.ref a] ∧ ((SqL K H1 a xs ∧ R (ItE (fun H xs => SqL K H a xs) 0) H1) ∨ (SqT K H1 a xs ∧ R (ItE (fun H xs => SqT K H a xs) 0) H1))
/-! a number of a list, read at a place from the front -/
def rGetL (o i : V) (H : Hp) (Q : VK) : Prop := ∃ p xs k x, o = .ref p ∧ i = .int k ∧ H p = some (.lst xs) ∧ 0 ≤ k ∧ k < 2 ^ 63 ∧ xs[k.toNat]? = some x ∧ Q x H
end Ci
end

section
set_option Elab.async false
set_option linter.all false
set_option maxRecDepth 100000
set_option maxHeartbeats 2000000
/-! ## texts: split, join, startswith; what is never reached -/
namespace Ci
open PySem PySem.Spec PyProof.Rows L2 Evl
inductive Tm where
  | split | join | starts
def Tm.den (K : PySem.W.Frag) : Tm → V → List V → Hp → VK → Prop
  | .split => fun x xs H Q => ∃ a b, x = .str a ∧ xs = [.str b] ∧ (b.length == 0) = false ∧ a.length + 2 ≤ sizeLine ∧ rNewStrs (Txt.split a b) H Q
  | .join => fun x xs H Q => ∃ a p, ∃ ys : List Str, x = .str a ∧ xs = [.ref p] ∧ (SqL K H p (ys.map V.str) ∨ SqT K H p (ys.map V.str)) ∧ (ys.map (fun x => x.length)).sum + ys.length * a.length ≤ 16777216 ∧ Q (.str (Txt.join a ys)) H
  | .starts => fun x xs H Q => ∃ a b, x = .str a ∧ xs = [.str b] ∧ Q (.bl (Txt.startswith a b)) H
def strsOf : List D → Option (List Str)
  | [] => some []
  | .str s :: r => (strsOf r).map (s :: ·)
  | _ :: _ => none
theorem strsOf_eq : ∀ {ds : List D} {ys : List Str}, strsOf ds = some ys → ds = ys.map D.str
  | [], ys, h => by cases h; rfl
  | d :: r, ys, h => by
    cases d with
    | str s =>
      unfold strsOf at h
      cases e : strsOf r with
      | none => rw [e] at h; cases h
      | some zs => rw [e] at h; cases h; rw [strsOf_eq e]; rfl
    | _ => cases h
theorem strsOf_map : ∀ ys : List Str, strsOf (ys.map D.str) = some ys
  | [] => rfl
  | s :: r => by show (strsOf (r.map D.str)).map _ = _; rw [strsOf_map r]; rfl
def Tm.fn : Tm → Str → D → R RV
  | .split, a, .str b => if (b.length == 0) = false ∧ a.length + 2 ≤ sizeLine then .ok (ov (.lst ((Txt.split a b).map D.str))) else .bad
  | .join, a, .lst ds => (R.ofO (strsOf ds)).bind fun ys => if (ys.map (fun x => x.length)).sum + ys.length * a.length ≤ 16777216 then .ok (dv (.str (Txt.join a ys))) else .bad
  | .join, a, .tup ds => (R.ofO (strsOf ds)).bind fun ys => if (ys.map (fun x => x.length)).sum + ys.length * a.length ≤ 16777216 then .ok (dv (.str (Txt.join a ys))) else .bad
  | .starts, a, .str b => .ok (dv (.bl (Txt.startswith a b)))
  | _, _, _ => .bad
theorem sok_sub {s : Str} {i j : Nat} (h : SOk s) : SOk (Builtin.Str.strSub s i j) := sok_iff.mpr fun c m => by
  have m : c ∈ (s.cps.extract i j).toList := m
  rw [Array.toList_extract] at m
  exact sok_iff.mp h c (List.mem_of_mem_drop (List.mem_of_mem_take m))
theorem sok_split {a b y : Str} (h : SOk a) (m : y ∈ Txt.split a b) : SOk y := by
  unfold Txt.split at m
  split at m
  · rw [List.mem_singleton.mp m]; exact h
  · split at m
    · rw [List.mem_singleton.mp m]; exact h
    · unfold Builtin.Str.partsBetween at m
      obtain ⟨⟨i, j⟩, _, rfl⟩ := List.mem_map.mp m
      exact sok_sub h
theorem sok_join {a : Str} {ys : List Str} (h : SOk a) (hy : ∀ y ∈ ys, SOk y) : SOk (Txt.join a ys) := sok_iff.mpr fun c m => by
  have key : ∀ (l : List Str) (acc : Array Nat), (∀ y ∈ l, SOk y) → (∀ c ∈ acc.toList, c < 0x110000) → ∀ c ∈ (l.foldl (fun acc p => acc ++ a.cps ++ p.cps) acc).toList, c < 0x110000 := by
    intro l
    induction l with
    | nil => exact fun acc _ q => q
    | cons y r ih =>
      intro acc q1 q2
      refine ih _ (fun z mz => q1 z (List.mem_cons_of_mem _ mz)) fun c mc => ?_
      rw [Array.toList_append, Array.toList_append, List.mem_append, List.mem_append] at mc
      rcases mc with (mc | mc) | mc
      · exact q2 c mc
      · exact sok_iff.mp h c mc
      · exact sok_iff.mp (q1 y List.mem_cons_self) c mc
  refine key (ys.drop 1) (ys.headD Str.empty).cps (fun y my => hy y (List.mem_of_mem_drop my)) (fun c mc => ?_) c m
  cases ys with
  | nil => exact absurd mc (by simp [Str.empty])
  | cons y r => exact sok_iff.mp (hy y List.mem_cons_self) c mc
theorem Reps.of_strs {G : Gm} {B : Hp} : ∀ {ys : List Str}, (∀ y ∈ ys, SOk y) → Reps G B (ys.map V.str) (ys.map D.str)
  | [], _ => .nil
  | y :: r, h => .cons (.str y (h y List.mem_cons_self)) (Reps.of_strs fun z m => h z (List.mem_cons_of_mem _ m))
theorem Reps.soks {G : Gm} {B : Hp} : ∀ {vs : List V} {ys : List Str}, Reps G B vs (ys.map D.str) → ∀ y ∈ ys, SOk y
  | _, [], _, y, m => nomatch m
  | _, x :: r, .cons h q, y, m => by
    rcases List.mem_cons.mp m with rfl | m
    · cases h; assumption
    · exact Reps.soks q y m
theorem Tm.ok {G : Gm} (o : Tm) {E : XK} {B H : Hp} {s : Str} {u : V} {y : D} (ex : Ex B H) (hs : SOk s) (ry : Rdb G B H u y) {Q : VK} (P : Post G E (RvOk G) B H (o.fn s y) Q) : o.den G.K (.str s) [u] H Q := by
  have J : ∀ {a : Addr} {us : List V} {ds : List D}, u = .ref a → (SqL G.K H a us ∨ SqT G.K H a us) → Reps G B us ds → Post G E (RvOk G) B H ((R.ofO (strsOf ds)).bind fun ys => if (ys.map (fun x => x.length)).sum + ys.length * s.length ≤ 16777216 then .ok (dv (.str (Txt.join s ys))) else .bad) Q → Tm.den G.K .join (.str s) [u] H Q := by
    intro a us ds eu hq r P
    cases e : strsOf ds with
    | none => rw [e] at P; exact P.elim
    | some ys =>
      rw [e] at P
      rw [strsOf_eq e] at r
      rw [R.ofO, R.bind_ok] at P
      by_cases c : (ys.map (fun x => x.length)).sum + ys.length * s.length ≤ 16777216
      · rw [if_pos c] at P
        refine ⟨s, a, ys, rfl, by rw [eu], ?_, c, P.dat ex (.str _ (sok_join hs r.soks))⟩
        rw [← r.strs]
        exact hq
      · rw [if_neg c] at P
        exact P.elim
  cases o with
  | split =>
    cases y with
    | str b =>
      obtain ⟨rfl, hb⟩ := ry.str
      have P : Post G E (RvOk G) B H (if (b.length == 0) = false ∧ s.length + 2 ≤ sizeLine then .ok (ov (.lst ((Txt.split s b).map D.str))) else .bad) Q := P
      by_cases c : (b.length == 0) = false ∧ s.length + 2 ≤ sizeLine
      · rw [if_pos c] at P
        exact ⟨s, b, rfl, rfl, c.1, c.2, fun p hp => P.new ex hp (.lst (Reps.of_strs fun y m => sok_split hs m))⟩
      · rw [if_neg c] at P
        exact P.elim
    | _ => exact P.elim
  | join =>
    cases y with
    | lst ds =>
      obtain ⟨a, us, rfl, e1, r⟩ := ry.lst ex
      exact J rfl (.inl (sq_of e1)) r P
    | tup ds =>
      obtain ⟨a, us, rfl, e1, r⟩ := ry.tup ex
      exact J rfl (.inr e1) r P
    | _ => exact P.elim
  | starts =>
    cases y with
    | str b =>
      obtain ⟨rfl, hb⟩ := ry.str
      exact ⟨s, b, rfl, rfl, P.dat ex (.bl _)⟩
    | _ => exact P.elim
theorem pe_joinK {X : Cx} {K : PySem.W.Frag} {o e : Expr} {to te : TE} {apos pos : Pos} (h : X.K = K) (ho : PE X o to) (he : PE X e te)
    (h1 : starEach [e] X.env = [(false, eval e X.env)] := by rfl) (h2 : attributeBase o "join" X.env (eval o X.env) = eval o X.env := by rfl) (h3 : (apos.endLine == pos.line) = true := by rfl) :
    PE X (.Call (.Attribute o "join" apos) [e] [] pos) (tM1 (Tm.den K .join) to te) := h ▸ pe_join ho he h1 h2 h3
/-! a text, sign by sign -/
def chD (s : Str) : List D := s.cps.toList.map fun c => D.str ⟨#[c]⟩
theorem chD_len {s : Str} : (chD s).length = s.cps.size := by
  unfold chD
  rw [List.length_map, Array.length_toList]
theorem chD_get {s : Str} {i : Nat} {x : D} (h : (chD s)[i]? = some x) : ∃ c, s.cps[i]? = some c ∧ x = .str ⟨#[c]⟩ := by
  unfold chD at h
  rw [List.getElem?_map, Array.getElem?_toList] at h
  cases e : s.cps[i]? with
  | none => rw [e] at h; cases h
  | some c => rw [e] at h; exact ⟨c, rfl, (Option.some.inj h).symm⟩
/-! enumerate(e, start=k) -/
theorem cw_type_kw {M : Model} {A : Around} {E : Value → Shared → Prop} {s : Shared} {pos : Pos} {T : String} {first : List Value} {args : List (Bool × Sem Value)} {kws : List (Option Str × Sem Value)} {Q : Value → Shared → Prop} (h1 : args.any (·.1) = false) (h2 : kws.any (·.1.isNone) = false)
    (h : wpAny M A (evalArgs (.type T) true args kws) (fun a s1 => wpAny M A (call (.type T) (first ++ a.pos) a.kw) Q E s1) E s) : wpAny M A (callWith pos (.type T) first args kws) Q E s := by
  unfold callWith
  refine wpAny_bind (wpAny_holding (wpAny_mono h (fun a s1 q => wpAny_bind (wpAny_standAt ?_)) fun _ _ z => z))
  rw [h1, h2]
  exact wpAny_bind (wpAny_pure (wpAny_bind (wpAny_mono q (fun r s2 hr => wpAny_bind (wpAny_holding (wpAny_point (wpAny_pure hr)))) fun _ _ z => z)))
def iEnumK (K : PySem.W.Frag) (ta tk : TA) : TI := fun σ H R => ta σ H fun vs H1 => tk σ H1 fun ks H2 => ∃ a xs k, vs = [.ref a] ∧ ks = [.int k] ∧ -(2 ^ 63) ≤ k ∧ k < 2 ^ 63 ∧ SqL K H2 a xs ∧ R (ItE (fun H xs => SqL K H a xs) k) H2
theorem pi_enumK {X : Cx} {K : PySem.W.Frag} {e b : Expr} {ta : TA} {tb : TE} {p pos tpos kpos : Pos} {elts : List Expr} {kk : Nat} (hK : X.K = K) (hg : Gl X "enumerate") (hm : X.mg "enumerate" = none) (ha : PA X [e] ta) (hb : PE X b tb)
    (hs : starEach [e] X.env = (false, eval e X.env) :: starEach [] X.env := by rfl) (hpl : (backTo pos (starEach [e] X.env)).any (·.1) = false := by rfl)
    (h1 : (backToKw pos (keywordEach [⟨some "start", b, kpos⟩] X.env)).any (·.1.isNone) = false := by rfl) (h2 : (backToKw pos (keywordEach [⟨some "start", b, kpos⟩] X.env)).all (·.1.isSome) = true := by rfl) :
    PI X (.Tuple elts kk tpos) (.Call (.Name "enumerate" p) [e] [⟨some "start", b, kpos⟩] pos) (iEnumK K ta (tCons tb tNil)) := by
  subst hK
  refine ⟨fun pins s σ H R I h => wpAny_Call_Name_kw (ld_blt I hg hm PyProof.Rows.boot_enumerate (cw_type_kw hpl h1 (PyProof.Rows.evalArgs_kw2 h2 (thn (ha.run pos pins s σ H _ I h) fun us s1 ⟨vs, H1, I1, r1, q1⟩ => ?_) hs)))⟩
  refine thn ((pk_cons (kpos := kpos) (nm := some "start") hb pk_nil).run pos pins s1 σ H1 _ I1 q1) fun ws s2 ⟨zs, H2, I2, r2, a, xs, k, ev, ez, k1, k2, hl, hR⟩ => ?_
  subst ev ez
  cases r1 with
  | cons ra r1 =>
    cases r1
    cases ra
    cases r2 with
    | cons rk r2 =>
      cases r2
      obtain ⟨t, rfl⟩ := rk
      obtain ⟨us, w1, p1, _⟩ := I2.list hl
      have N : ∀ {b : Addr}, b < s2.heap.objs.size → b ≠ s2.heap.objs.size ∧ b ≠ s2.heap.objs.size + 1 ∧ s2.heap.objs.size + 1 ≠ s2.heap.objs.size := fun {b} l => ⟨Nat.ne_of_lt l, Nat.ne_of_lt (Nat.lt_succ_of_lt l), Nat.succ_ne_self _⟩
      obtain ⟨m1, m2, m3⟩ := N p1.lt
      show wpAny _ _ (call (.type "enumerate") [.ref a] [(Str.ofString "start", .int k t)]) _ _ _
      refine enum_begins_start (begins_list a us.toArray) p1.isList k1 k2 fun h' e1 e2 sz kp => wpAny_pyIter_enum e1 ?_
      refine ⟨_, _, _, _, H2, rfl, I2.kept kp, turn_enumL m1 m2 m3, ⟨⟨_, by show IsEnum h' _ _ (k + 0) _; rw [Int.add_zero]; exact e1⟩, ⟨_, e2, rfl, rfl⟩⟩, fun b m => ?_, hR⟩
      rcases List.mem_cons.mp m with rfl | m
      · exact I2.fpOk (Nat.le_succ _) (I2.hok.fresh (Nat.le_succ _))
      · rw [List.mem_singleton.mp m]
        exact I2.fpOk (Nat.le_refl _) (I2.hok.fresh (Nat.le_refl _))
/-! what is never reached may be anything -/
def tNo : TE := fun _ _ _ => False
def sNo : TS := fun _ _ _ => False
end Ci
end

section
set_option Elab.async false
set_option linter.all false
set_option maxRecDepth 100000
set_option maxHeartbeats 2000000
/-! ## the syntax, what it denotes, what it computes -/
namespace Ci
open PySem PySem.Spec PyProof.Rows L2 Evl

inductive Cn where
  | non | bl (b : Bool) | int (n : Int) | str (s : String)
def Cn.v : Cn → V
  | .non => .non
  | .bl b => .bl b
  | .int n => .int n
  | .str s => .str s
def Cn.d : Cn → D
  | .non => .non
  | .bl b => .bl b
  | .int n => .int n
  | .str s => .str s
inductive Sr where
  | e | a | r | m | t | o | i | g | gs | p | s | f | x | xs | h
/-- list methods that change -/
inductive Mo where
  | append | insert
/-- a method that changes self: attributes and arguments to a value and attributes -/
abbrev SelfF := List (Str × FV) → List D → R (D × List (Str × FV))
inductive P : Sr → Type
  -- expressions
  | var (i : Nat) : P .e
  | c (k : Cn) : P .e
  | kt (j : Nat) (ds : List D) : P .e
  | bin (o : B2) (a b : P .e) : P .e
  | neg (a : P .e) : P .e
  | andV (a b : P .e) : P .e
  | orV (a b : P .e) : P .e
  | notV (a : P .e) : P .e
  | chain (o o' : B2) (a b c : P .e) : P .e
  | chain3 (o o' o2 : B2) (a b c d : P .e) : P .e
  | ife (t : P .t) (a b : P .e) : P .e
  | tup (as : P .a) : P .e
  | lst (as : P .a) : P .e
  | fld (cs : List Nat) (a : P .e) (f : Str) : P .e
  | fldv (cs : List Nat) (i : Nat) (f : Str) : P .e
  | sl (a : P .e) (lo hi : P .o) : P .e
  | cb (o : Cb) (as : P .r) : P .e
  | isi (a : P .e) (T : String) : P .e
  | call (ms : List Bool) (f : List D → R RV) (as : P .m) : P .e
  | meth (c : Nat) (m : Str) (ms : List Bool) (f : List D → R RV) (o : P .e) (as : P .m) : P .e
  | make (c : Nat) (ms : List Bool) (f : List D → R (List (Str × FV))) (as : P .m) : P .e
  | lc (it : P .i) (g : P .g) (t : P .t) (e : P .e) (vs : List Nat) : P .e
  | lc2 (it : P .i) (g : P .g) (it2 : P .i) (g2 : P .g) (e : P .e) (vs vs1 : List Nat) : P .e
  | lend (i : Nat) (a : P .e) : P .e
  | rev (a : P .e) : P .e
  | tm (o : Tm) (a e : P .e) : P .e
  | fn (j : Nat) : P .e
  | callv (i j : Nat) (ms : List Bool) (f : List D → R RV) (as : P .m) : P .e
  | fmt (a : P .e) : P .e
  | fstr (as : P .f) : P .e
  | fnil : P .f
  | fcons (a : P .e) (as : P .f) : P .f
  | noE : P .e
  | nix (i : Nat) (k : Bool) : P .e
  | lrg (a : P .e) : P .e
  -- arguments: data; to be read; by modes
  | anil : P .a
  | acons (a : P .e) (as : P .a) : P .a
  | rnil : P .r
  | rcons (a : P .e) (as : P .r) : P .r
  | mnil : P .m
  | mcons (b : Bool) (a : P .e) (as : P .m) : P .m
  -- tests
  | tst (a : P .e) : P .t
  | tru (a : P .e) : P .t
  | andT (a b : P .t) : P .t
  | orT (a b : P .t) : P .t
  | notT (a : P .t) : P .t
  | yes : P .t
  -- parts of a slice
  | noP : P .o
  | someP (a : P .e) : P .o
  -- what is walked
  | seq (a : P .e) : P .i
  | rngv (a : P .e) : P .i
  | seqb (i : Nat) : P .i
  | rng1 (as : P .a) : P .i
  | rng2 (as : P .a) : P .i
  | rng3 (as : P .a) : P .i
  | zip (as : P .a) : P .i
  | enum (as : P .a) : P .i
  | enumK (as ks : P .a) : P .i
  -- targets
  | gname (i : Nat) : P .g
  | gtup (n : Nat) (gs : P .gs) : P .g
  | gtl (n : Nat) (gs : P .gs) : P .g
  | gnil : P .gs
  | gcons (g : P .g) (gs : P .gs) : P .gs
  -- places
  | pvar (i : Nat) : P .p
  | pfld (c : Nat) (i : Nat) (f : Str) : P .p
  | pnst (i : Nat) (k : Bool) : P .p
  -- statements
  | skip : P .s
  | sq (a b : P .s) : P .s
  | asgN (i : Nat) (a : P .e) : P .s
  | asgG (g : P .g) (a : P .e) : P .s
  | asgF (i c : Nat) (f : Str) (a : P .e) : P .s
  | asgI (p : P .p) (ix a : P .e) : P .s
  | mut (o : Mo) (p : P .p) (as : P .a) : P .s
  | ext (p : P .p) (a : P .e) : P .s
  | popD (p : P .p) : P .s
  | popG (g : P .g) (p : P .p) : P .s
  | aug (i : Nat) (sub : Bool) (a : P .e) : P .s
  | augI (p : P .p) (ix : P .e) (sub : Bool) (a : P .e) : P .s
  | drop (a : P .e) : P .s
  | ret (a : P .e) : P .s
  | retO (i : Nat) : P .s
  | retN : P .s
  | brk : P .s
  | cont : P .s
  | raise (x : Nat) : P .s
  | ifS (t : P .t) (a b : P .s) : P .s
  | for (it : P .i) (g : P .g) (b : P .s) (kill : List Nat) : P .s
  | while (n : Nat) (t : P .t) (b : P .s) (kill : List Nat) : P .s
  | try (c : Nat) (subs : List Nat) (b h : P .s) : P .s
  | try2 (c c2 : Nat) (b h h2 : P .s) : P .s
  | try3 (c c2 c3 : Nat) (b h h2 h3 : P .s) : P .s
  | frz (i : Nat) : P .s
  | kill (is : List Nat) : P .s
  | noS : P .s
  | nset (i : Nat) (a b : P .e) : P .s
  | selfS (i c : Nat) (m : Str) (ms : List Bool) (f : SelfF) (as : P .m) : P .s
  | raiseF (x : Nat) (f : Str) (a : P .e) : P .s
  | tryA (c i : Nat) (subs : List Nat) (b : P .s) (h : P .h) : P .s
  -- what a suite that names the exception answers
  | xe (a : P .e) : P .x
  | xf (x : Nat) (f : Str) : P .x
  | xi (y : Nat) (ys : List (Nat × Bool)) : P .x
  | xtup (as : P .xs) : P .x
  | xand (a b : P .x) : P .x
  | xnil : P .xs
  | xcons (a : P .x) (as : P .xs) : P .xs
  | hret (a : P .x) : P .h
  | hif (y : Nat) (ys : List (Nat × Bool)) (a b : P .h) : P .h

/-! ### what it denotes -/
abbrev Den : Sr → Type
  | .e => TE
  | .a => TA
  | .r => TA
  | .m => TA
  | .t => TT
  | .o => TO
  | .i => TI
  | .g => TG
  | .gs => TGs
  | .p => TE
  | .s => TS
  | .f => List TE
  | .x => Nat → Addr → Value → Option Addr → TE
  | .xs => Nat → Addr → Value → Option Addr → TA
  | .h => Nat → Addr → Value → Option Addr → TS
/-- wishes of exceptions, by the slots -/
abbrev XE2 := L2.St → XK
def iOr (w1 w2 : TI) : TI := fun σ H R => w1 σ H R ∨ w2 σ H R
theorem pi_or {X : Cx} {tg e : Expr} {w1 w2 : TI} (h1 : PI X tg e w1) (h2 : PI X tg e w2) : PI X tg e (iOr w1 w2) := ⟨fun pins s σ H R I h => h.elim (fun q => h1.run pins s σ H R I q) fun q => h2.run pins s σ H R I q⟩
def iSeq (K : PySem.W.Frag) (te : TE) : TI := iOr (iList K te) (iOr (iTup K te) (iStr te))
theorem pi_seqK {X : Cx} {K : PySem.W.Frag} {e : Expr} {te : TE} {tg : Expr} (h : X.K = K) (ha : PE X e te) : PI X tg e (iSeq K te) := h ▸ pi_or (pi_list ha) (pi_or (pi_tup ha) (pi_str ha))
def tTry (K : PySem.W.Frag) (c : Value) (E : XE2) (tb : WX → TS) (ts : Addr → Value → Option Addr → TS) : TS := fun D' σ H => tb (wOnly K c ts (fun cl d σ H => E σ cl d H) D') D' σ H
def tTry3 (K : PySem.W.Frag) (c c2 c3 : Value) (E : XE2) (tb : WX → TS) (ts ts2 ts3 : Addr → Value → Option Addr → TS) : TS := fun D' σ H => tb (wMany K (fun cl d σ H => E σ cl d H) D' [(c, ts), (c2, ts2), (c3, ts3)]) D' σ H
def tTry2 (K : PySem.W.Frag) (c c2 : Value) (E : XE2) (tb : WX → TS) (ts ts2 : Addr → Value → Option Addr → TS) : TS := fun D' σ H => tb (wMany K (fun cl d σ H => E σ cl d H) D' [(c, ts), (c2, ts2)]) D' σ H
/-- an own exception with one attribute: what its __init__ keeps -/
def PrE (G : Gm) (x : Nat) (f : Str) : Sp := fun vs H Q _ => ∃ a y, vs = [.ref a, y] ∧ H a = some (exo a (G.ca x) none) ∧ ∀ dx, H dx = none → dx ≠ a → Q .non (upd (upd H dx (exd dx [(f, y)])) a (exo a (G.ca x) (some dx)))
/-- except c as the i-th name -/
def tTryA (K : PySem.W.Frag) (c : Value) (i : Nat) (E : XE2) (tb : WX → TS) (ts : Addr → Value → Option Addr → TS) : TS := fun D' σ H => tb (wAs K c i ts (fun cl d σ H => E σ cl d H) D') D' σ H
/-- isinstance of the exception that the suite names: told by its class -/
def tIsX (i a : Nat) (cls : Value) (ca : Nat → Addr) (ys : List (Nat × Bool)) : TE := fun σ H Q => ∃ x b, ys.lookup x = some b ∧ cls = .ref (ca x) ∧ σ[i]? = some (some (.ref a)) ∧ Q (.bl b) H
/-- nothing is raised -/
abbrev E0 : XE2 := fun _ _ _ _ => False
/-- calls, what is wished of exceptions by the slots -/
def cCall (sp : Sp) (E : XE2) (t : TA) : TE := fun σ H Q => t σ H fun vs H1 => sp vs H1 Q (E σ)
/-- a call of what a slot holds -/
def cCallL (i : Nat) (f : Addr) (sp : Sp) (E : XE2) (t : TA) : TE := fun σ H Q => σ[i]? = some (some (.ref f)) ∧ t σ H fun vs H1 => sp vs H1 Q (E σ)
def cMeth (C : Addr) (m : Str) (sp : Sp) (E : XE2) (to : TE) (t : TA) : TE := fun σ H Q => to σ H fun x H1 => ∃ a dx fs, x = .ref a ∧ H1 a = some (.ins C dx fs) ∧ fs.lookup m = none ∧ t σ H1 fun vs H2 => sp (x :: vs) H2 Q (E σ)
def cMake (C : Addr) (sp : Sp) (E : XE2) (t : TA) : TE := fun σ H Q => t σ H fun vs H1 => ∀ x dx, H1 x = none → H1 dx = none → dx ≠ x → sp (.ref x :: vs) (upd (upd H1 dx (.own x)) x (.ins C dx [])) (fun v H2 => v = .non ∧ Q (.ref x) H2) (E σ)
def Mo.den : Mo → V → List V → Hp → VK → Prop
  | .append => rAppend
  | .insert => fun x vs H Q => ∃ (l : Addr) (xs : List V) (i : Int) (y : V), x = .ref l ∧ vs = [.int i, y] ∧ H l = some (.lst xs) ∧ xs.length < sizeLine ∧ 0 ≤ i ∧ i < 2 ^ 63 ∧ Q .non (upd H l (.lst (xs.take i.toNat ++ [y] ++ xs.drop i.toNat)))
/-- the promise of a def whose arguments are data, or lists that are read (ms: true) -/
inductive ArgsOk (G : Gm) (B H : Hp) : List Bool → List V → List D → Prop
  | nil : ArgsOk G B H [] [] []
  | d {v : V} {d : D} {ms : List Bool} {vs : List V} {ds : List D} : Rep G B v d → ArgsOk G B H ms vs ds → ArgsOk G B H (false :: ms) (v :: vs) (d :: ds)
  | b {a : Addr} {us : List V} {es : List D} {ms : List Bool} {vs : List V} {ds : List D} : H a = some (.lst us) → Reps G B us es → ArgsOk G B H ms vs ds → ArgsOk G B H (true :: ms) (.ref a :: vs) (.lst es :: ds)
def Pr (G : Gm) (ms : List Bool) (f : List D → R RV) : Sp := fun vs H Q E => ∃ B ds, Ex B H ∧ ArgsOk G B H ms vs ds ∧ Post G E (RvOk G) B H (f ds) Q
/-- the promise of an __init__: self is a new object without attributes -/
def PrI (G : Gm) (c : Nat) (ms : List Bool) (f : List D → R (List (Str × FV))) : Sp := fun vs H Q E => ∃ B ds p dx ws, vs = .ref p :: ws ∧ H p = some (.ins (G.cm c) dx []) ∧ B p = none ∧ Ex B H ∧ ArgsOk G B H ms ws ds ∧ match f ds with
  | .ok fs => ∀ B' H' dy fv as, Off [p] B H B' H' → Ex B' H' → B' p = none → H' p = some (.ins (G.cm c) dy fv) → FsOk G H B' H' fv fs as → (p :: as).Nodup → Q .non H'
  | .err x f => match f with
    | none => ∀ B' H', Off [p] B H B' H' → Ex B' H' → E (.ref (G.ca x)) none H'
    | some (g, d) => ∀ B' H' dd v, Off [p] B H B' H' → Ex B' H' → H' dd = some (.xd [(g, v)]) → Rep G B' v d → E (.ref (G.ca x)) (some dd) H'
  | .bad => False
/-- the promise of a method that changes self -/
def PrS (G : Gm) (c : Nat) (ms : List Bool) (f : SelfF) : Sp := fun vs H Q E => ∃ B fs ds p dx ws fv as, vs = .ref p :: ws ∧ H p = some (.ins (G.cm c) dx fv) ∧ B p = none ∧ Ex B H ∧ FsOk G (fun _ => none) B H fv fs as ∧ (p :: as).Nodup ∧ ArgsOk G B H ms ws ds ∧ match f fs ds with
  | .ok (d, fs') => ∀ v B' H' dy fv' as', Off (p :: as) B H B' H' → Ex B' H' → B' p = none → H' p = some (.ins (G.cm c) dy fv') → FsOk G (fun _ => none) B' H' fv' fs' as' → (p :: as').Nodup → (∀ a, a ∈ as' → a ∈ as ∨ H a = none) → Rep G B' v d → Q v H'
  | .err x f => match f with
    | none => ∀ B' H', Off (p :: as) B H B' H' → Ex B' H' → E (.ref (G.ca x)) none H'
    | some (g, d) => ∀ B' H' dd v, Off (p :: as) B H B' H' → Ex B' H' → H' dd = some (.xd [(g, v)]) → Rep G B' v d → E (.ref (G.ca x)) (some dd) H'
  | .bad => False

def den (G : Gm) : {s : Sr} → XE2 → P s → Den s
  | _, E, .var i => tVar i
  | _, E, .c k => tC k.v
  | _, E, .kt j ds => tC (.ref (G.kt j))
  | _, E, .bin o a b => tOp (o.den G.K) (den G E a) (den G E b)
  | _, E, .neg a => tUn (rU fun i => .int (-i)) (den G E a)
  | _, E, .andV a b => tAndV (den G E a) (den G E b)
  | _, E, .orV a b => tOrV (den G E a) (den G E b)
  | _, E, .notV a => tNotV (den G E a)
  | _, E, .chain o o' a b c => tChain (o.den G.K) (o'.den G.K) (den G E a) (den G E b) (den G E c)
  | _, E, .chain3 o o' o2 a b c d => tChain3 (o.den G.K) (o'.den G.K) (o2.den G.K) (den G E a) (den G E b) (den G E c) (den G E d)
  | _, E, .ife t a b => tIf (den G E t) (den G E a) (den G E b)
  | _, E, .tup as => tTup (den G E as)
  | _, E, .lst as => tLst (den G E as)
  | _, E, .fld cs a f => tFld G.K (den G E a) f
  | _, E, .fldv cs i f => tFld G.K (tVar i) f
  | _, E, .sl a lo hi => tSl (rSl G.K) (den G E a) (den G E lo) (den G E hi)
  | _, E, .cb o as => tCB (o.den G.K) (den G E as)
  | _, E, .isi a T => tCB (rIsi G.K) (tCons (den G E a) (tCons (tC (.ty T)) tNil))
  | _, E, .call ms f as => cCall (Pr G ms f) E (den G E as)
  | _, E, .tm o a e => tM1 (o.den G.K) (den G E a) (den G E e)
  | _, E, .fn j => tC (.ref (G.ft j))
  | _, E, .callv i j ms f as => cCallL i (G.ft j) (Pr G ms f) E (den G E as)
  | _, E, .fmt a => tFmt (den G E a)
  | _, E, .fstr as => fun σ H Q => tJs (den G E as) Str.empty σ H fun out H1 => Q (.str out) H1
  | _, E, .fnil => []
  | _, E, .fcons a as => den G E a :: den G E as
  | _, E, .noE => tNo
  | _, E, .lrg a => tLstRg (tRg1 (den G E a))
  | _, E, .nix i k => tOp (rIx G.K) (tVar i) (tC (.int (if k then 1 else 0)))
  | _, E, .noS => sNo
  | _, E, .nset i a b => tAsg (tLst (tCons (den G E a) (tCons (den G E b) tNil))) (gName i)
  | _, E, .meth c m ms f o as => cMeth (G.cm c) m (Pr G (false :: ms) f) E (den G E o) (den G E as)
  | _, E, .make c ms f as => cMake (G.cm c) (PrI G c ms f) E (den G E as)
  | _, E, .lc it g t e vs => tLc (den G E it) (den G E0 g) (den G E0 t) (den G E0 e) vs
  | _, E, .lc2 it g it2 g2 e vs vs1 => tLc2 (den G E it) (den G E0 g) tYes (den G E0 it2) (den G E0 g2) tYes (den G E0 e) vs vs1
  | _, E, .lend i a => den G E a
  | _, E, .rev a => tRevL G.K (den G E a)
  | _, E, .anil => tNil
  | _, E, .acons a as => tCons (den G E a) (den G E as)
  | _, E, .rnil => tNil
  | _, E, .rcons a as => tCons (den G E a) (den G E as)
  | _, E, .mnil => tNil
  | _, E, .mcons _ a as => tCons (den G E a) (den G E as)
  | _, E, .tst a => tTest (den G E a)
  | _, E, .tru a => tTru G.K (den G E a)
  | _, E, .andT a b => tAnd (den G E a) (den G E b)
  | _, E, .orT a b => tOr (den G E a) (den G E b)
  | _, E, .notT a => tNot (den G E a)
  | _, E, .yes => tYes
  | _, E, .noP => tNoPart
  | _, E, .someP a => tPart (den G E a)
  | _, E, .seq a => iSeq G.K (den G E a)
  | _, E, .rngv a => iRngV (den G E a)
  | _, E, .seqb i => iSeq G.K (tVar i)
  | _, E, .rng1 as => iRng1 (den G E as)
  | _, E, .rng2 as => iRng2 (den G E as)
  | _, E, .rng3 as => iRng3 (den G E as)
  | _, E, .zip as => RZ.iZipA G.K (den G E as)
  | _, E, .enum as => iEnumA G.K (den G E as)
  | _, E, .enumK as ks => iEnumK G.K (den G E as) (den G E ks)
  | _, E, .gname i => gName i
  | _, E, .gtup n gs => gTup G.K n (den G E gs)
  | _, E, .gtl n gs => gLst G.K n (den G E gs)
  | _, E, .gnil => gNil
  | _, E, .gcons g gs => gCons (den G E g) (den G E gs)
  | _, E, .pvar i => tVar i
  | _, E, .pfld c i f => tFld G.K (tVar i) f
  | _, E, .pnst i k => tOp (rIx G.K) (tVar i) (tC (.int (if k then 1 else 0)))
  | _, E, .skip => tNext
  | _, E, .sq a b => tSeq (den G E a) (den G E b)
  | _, E, .asgN i a => tAsg (den G E a) (gName i)
  | _, E, .asgG g a => tAsg (den G E a) (den G E g)
  | _, E, .asgF i c f a => sFld G.K (tVar i) (den G E a) f
  | _, E, .asgI p ix a => tAsg (den G E a) (gSub (den G E p) (den G E ix) rSetL)
  | _, E, .mut o p as => tDrop (tBM G.K "list" o.den (den G E p) (den G E as))
  | _, E, .ext p a => tDrop (tBM G.K "list" rExtend (den G E p) (tCons (den G E a) tNil))
  | _, E, .popD p => tDrop (tBM0 G.K "list" rPop (den G E p))
  | _, E, .popG g p => tAsg (tBM0 G.K "list" rPop (den G E p)) (den G E g)
  | _, E, .aug i sub a => tAug i (den G E a) (ipI fun m n => if sub then m - n else m + n)
  | _, E, .augI p ix sub a => tAugS (den G E p) (den G E ix) (den G E a) rGetL (ipI fun m n => if sub then m - n else m + n) rSetL
  | _, E, .drop a => tDrop (den G E a)
  | _, E, .ret a => tRet (den G E a)
  | _, E, .retO i => tRet (tVar i)
  | _, E, .retN => tRetN
  | _, E, .brk => tBreak
  | _, E, .cont => tCont
  | _, E, .raise x => fun _ σ H => E σ (.ref (G.ca x)) none H
  | _, E, .ifS t a b => tIfS (den G E t) (den G E a) (den G E b)
  | _, E, .for it g b kill => tFor (den G E it) (den G E g) (den G E b)
  | _, E, .while n t b kill => tWhile (den G E t) (den G E b)
  | _, E, .try c subs b h => tTry G.K (.ref (G.ca c)) E (fun W => den G (WE W) b) (fun _ _ _ => den G E h)
  | _, E, .try2 c c2 b h h2 => tTry2 G.K (.ref (G.ca c)) (.ref (G.ca c2)) E (fun W => den G (WE W) b) (fun _ _ _ => den G E h) (fun _ _ _ => den G E h2)
  | _, E, .try3 c c2 c3 b h h2 h3 => tTry3 G.K (.ref (G.ca c)) (.ref (G.ca c2)) (.ref (G.ca c3)) E (fun W => den G (WE W) b) (fun _ _ _ => den G E h) (fun _ _ _ => den G E h2) (fun _ _ _ => den G E h3)
  | _, E, .frz i => tNext
  | _, E, .kill is => tNext
  | _, E, .selfS i c m ms f as => tDrop (cMeth (G.cm c) m (PrS G c ms f) E (tVar i) (den G E as))
  | _, E, .raiseF x f a => fun _ σ H => tMkO (G.ca x) (PrE G x f) [] (tCons (den G E a) tNil) σ H fun cl d H' => E σ cl d H'
  | _, E, .tryA c i subs b h => tTryA G.K (.ref (G.ca c)) i E (fun W => den G (WE W) b) (den G E h i)
  | _, E, .xe a => fun _ _ _ _ => den G E a
  | _, E, .xf x f => fun i a cls d => tXf a cls d (G.ca x) f (tVar i)
  | _, E, .xi y ys => fun i a cls d => tIsX i a cls G.ca ys
  | _, E, .xtup as => fun i a cls d => tTup (den G E as i a cls d)
  | _, E, .xand a b => fun i p cls d => tAndV (den G E a i p cls d) (den G E b i p cls d)
  | _, E, .xnil => fun _ _ _ _ => tNil
  | _, E, .xcons a as => fun i p cls d => tCons (den G E a i p cls d) (den G E as i p cls d)
  | _, E, .hret a => fun i p cls d => tRet (den G E a i p cls d)
  | _, E, .hif y ys a b => fun i p cls d => tIfS (tTest (tIsX i p cls G.ca ys)) (den G E a i p cls d) (den G E b i p cls d)

/-! ### what it computes -/
inductive SR where
  | nx (ρ : En) | bk (ρ : En) | ct (ρ : En) | rt (v : RV) (ρ : En) | err (x : Nat) (f : Option (Str × D)) (ρ : En) | bad
abbrev Val : Sr → Type
  | .e => En → R RV
  | .a => En → R (List D)
  | .r => En → R (List D)
  | .m => En → R (List D)
  | .t => En → R Bool
  | .o => En → R (Option Int)
  | .i => En → R (Bool × List D)
  | .g => D → En → R En
  | .gs => List D → En → R En
  | .p => En → R FV
  | .s => En → SR
  | .f => Str → En → R Str
  | .x => Nat → Option (Str × D) → En → R RV
  | .xs => Nat → Option (Str × D) → En → R (List D)
  | .h => Nat → Option (Str × D) → En → SR
def asStr : D → R Str
  | .str s => .ok s
  | _ => .bad
def fmtF : D → R RV
  | .str y => if y.length ≤ sizeLine then .ok (dv (.str y)) else .bad
  | .int n => if n.natAbs.log2 < 1920 then .ok (dv (.str (strI n))) else .bad
  | _ => .bad
/-- the exception's attribute; which class it is of -/
def xfF (x : Nat) (f : Str) (x' : Nat) : Option (Str × D) → R RV
  | some (g, d) => if x' = x ∧ g = f then .ok (dv d) else .bad
  | none => .bad
/-- a suite that ends with a return -/
def onlyRt : SR → SR
  | .rt v ρ => .rt v ρ
  | _ => .bad
def isX (ys : List (Nat × Bool)) (x : Nat) : R Bool := R.ofO (ys.lookup x)
def isFn (j : Nat) : Option (Option SV) → Bool
  | some (some (.fv (.d (.fnc k)))) => k == j
  | _ => false
def R.sr {α : Type} (r : R α) (ρ : En) (k : α → SR) : SR := match r with
  | .ok a => k a
  | .err x f => .err x f ρ
  | .bad => .bad
/-- where nothing is raised -/
def R.gr {α : Type} (r : R α) (k : α → SR) : SR := match r with
  | .ok a => k a
  | _ => .bad
@[simp] theorem R.sr_ok {α : Type} (a : α) (ρ : En) (k : α → SR) : (R.ok a).sr ρ k = k a := rfl
@[simp] theorem R.sr_err {α : Type} (x : Nat) (f : Option (Str × D)) (ρ : En) (k : α → SR) : (R.err x f).sr ρ k = .err x f ρ := rfl
@[simp] theorem R.sr_bad {α : Type} (ρ : En) (k : α → SR) : (R.bad).sr ρ k = .bad := rfl
@[simp] theorem R.gr_ok {α : Type} (a : α) (k : α → SR) : (R.ok a).gr k = k a := rfl
@[simp] theorem R.gr_err {α : Type} (x : Nat) (f : Option (Str × D)) (k : α → SR) : (R.err x f).gr k = .bad := rfl
@[simp] theorem R.gr_bad {α : Type} (k : α → SR) : (R.bad).gr k = .bad := rfl
/-- a value becomes data -/
def RV.toD : RV → R D
  | .sv s => .ok s.dat
  | .vw _ => .bad
def RV.toB : RV → R Bool
  | .sv (.fv (.d (.bl b))) => .ok b
  | _ => .bad
def RV.toI : RV → R Int
  | .sv (.fv (.d (.int b))) => .ok b
  | _ => .bad
/-- neither a list nor an object is in it -/
def noL : D → Bool
  | .non => true
  | .bl _ => true
  | .int _ => true
  | .str _ => true
  | .tup ds => noLs ds
  | _ => false
where noLs : List D → Bool
  | [] => true
  | d :: ds => noL d && noLs ds
def RV.noL : RV → Bool
  | .sv (.fv (.d d)) => Ci.noL d
  | .sv (.fv (.lst ds)) => Ci.noL.noLs ds
  | _ => false
/-- only what holds no list comes out of where a list is lent -/
def lentR : R RV → R RV
  | .ok x => if x.noL then .ok x else .bad
  | .err x none => .err x none
  | .err x (some p) => if Ci.noL p.2 then .err x (some p) else .bad
  | .bad => .bad
def getV (ρ : En) (i : Nat) : R RV := match ρ[i]? with
  | some (some (.fv (.d x))) => .ok (dv x)
  | some (some (.fv x)) => .ok (.vw x)
  | some (some (.brw ds)) => .ok (.vw (.lst ds))
  | _ => .bad
def getF (cs : List Nat) (ρ : En) (i : Nat) (f : Str) : R RV := match ρ[i]? with
  | some (some (.obj sf c fs)) => if c ∈ cs then (match fs.lookup f with
    | some (.d x) => .ok (dv x)
    | some x => .ok (.vw x)
    | none => .bad) else .bad
  | some (some (.fv (.d (.ins c fs)))) => if c ∈ cs then (match fs.lookup f with
    | some x => .ok (dv x)
    | none => .bad) else .bad
  | _ => .bad
/-- an attribute of a new object -/
def getFO : Option FV → R RV
  | some (.d x) => .ok (dv x)
  | some x => .ok (.vw x)
  | none => .bad
/-- a list of ours within a list of ours -/
def getN (k : Bool) : Option (Option SV) → R (List D)
  | some (some (.nst xs ys)) => .ok (if k then ys else xs)
  | _ => .bad
/-- a new list -/
def RV.toL : RV → R (List D)
  | .sv (.fv (.lst ds)) => .ok ds
  | _ => .bad
def getP (ρ : En) : P .p → R FV
  | .pnst i k => (getN k ρ[i]?).bind fun ds => .ok (.lst ds)
  | .pvar i => match ρ[i]? with
    | some (some (.fv (.d x))) => .bad
    | some (some (.fv x)) => .ok x
    | _ => .bad
  | .pfld c' i f => match ρ[i]? with
    | some (some (.obj sf c fs)) => if c = c' then (match fs.lookup f with
      | some (.d x) => .bad
      | some x => .ok x
      | none => .bad) else .bad
    | _ => .bad
def putN (ds : List D) (k : Bool) : Option (Option SV) → Option SV
  | some (some (.nst xs ys)) => some (if k then .nst xs ds else .nst ds ys)
  | some s => s
  | none => none
def putP (ρ : En) (x : FV) : P .p → En
  | .pvar i => ρ.set i (some (.fv x))
  | .pnst i k => match x with
    | .lst ds => ρ.set i (putN ds k ρ[i]?)
    | _ => ρ.set i none
  | .pfld c' i f => match ρ[i]? with
    | some (some (.obj sf c fs)) => ρ.set i (some (.obj sf c (putX f x fs)))
    | _ => ρ
def Mo.fn : Mo → List D → List D → R (List D)
  | .append, ds, [d] => if ds.length < sizeLine then .ok (ds ++ [d]) else .bad
  | .insert, ds, [.int i, d] => if ds.length < sizeLine ∧ 0 ≤ i ∧ i < 2 ^ 63 then .ok (ds.take i.toNat ++ [d] ++ ds.drop i.toNat) else .bad
  | _, _, _ => .bad
/-- the list at a place -/
def getL (ρ : En) (p : P .p) : R (List D) := match getP ρ p with
  | .ok (.lst ds) => .ok ds
  | _ => .bad
/-- a number in a list -/
def getI (ds : List D) (n : Int) : R Int := if 0 ≤ n ∧ n < 2 ^ 63 then (match ds[n.toNat]? with
  | some (.int v) => .ok v
  | _ => .bad) else .bad
def enD : Int → List D → List D
  | _, [] => []
  | k, x :: xs => .tup [.int k, x] :: enD (k + 1) xs
def wipeE (ρ : En) : List Nat → En
  | [] => ρ
  | v :: vs => (wipeE ρ vs).set v none
def rngD (lo : Int) (n : Nat) : List D := (List.range n).map fun (k : Nat) => D.int (lo - (k : Int))
def rng (lo : Int) (n : Nat) : List D := (List.range n).map fun (k : Nat) => D.int (lo + (k : Int))
def lrgF (n : Int) : R RV := if -(2 ^ 62) ≤ n ∧ n ≤ 1000000 then .ok (ov (.lst (rng 0 n.toNat))) else .bad
/-- a comprehension -/
def lcF (step : D → R (Option D)) : List D → R (List D)
  | [] => .ok []
  | x :: r => (step x).bind fun o => (lcF step r).bind fun ds => .ok (match o with | some d => d :: ds | none => ds)
/-- only errors free of raising go through a comprehension -/
def R.quiet {α : Type} : R α → R α
  | .ok a => .ok a
  | _ => .bad
def lcA (step : D → R (List D)) : List D → R (List D)
  | [] => .ok []
  | x :: r => (step x).bind fun a => (lcA step r).bind fun b => .ok (a ++ b)
def forF (step : D → En → SR) (kill : List Nat) : List D → En → SR
  | [], ρ => .nx ρ
  | x :: r, ρ => match step x ρ with
    | .nx ρ' => forF step kill r (wipeE ρ' kill)
    | .ct ρ' => forF step kill r (wipeE ρ' kill)
    | .bk ρ' => .nx (wipeE ρ' kill)
    | o => o
def whF (test : En → R Bool) (body : En → SR) (kill : List Nat) : Nat → En → SR
  | 0, _ => .bad
  | n + 1, ρ => (test ρ).sr ρ fun b => if b then (match body ρ with
    | .nx ρ' => whF test body kill n (wipeE ρ' kill)
    | .ct ρ' => whF test body kill n (wipeE ρ' kill)
    | .bk ρ' => .nx (wipeE ρ' kill)
    | o => o) else .nx ρ
def enumKF : List D → List D → R (Bool × List D)
  | [.lst xs], [.int k] => if -(2 ^ 62) ≤ k ∧ k < 2 ^ 62 then .ok (true, enD k xs) else .bad
  | _, _ => .bad
def ev : {s : Sr} → P s → Val s
  | _, .var i => fun ρ => getV ρ i
  | _, .c k => fun ρ => .ok (dv k.d)
  | _, .kt j ds => fun ρ => .ok (dv (.tup ds))
  | _, .bin o a b => fun ρ => (ev a ρ).bind fun x => (ev b ρ).bind fun y => x.rd.bind fun x => y.rd.bind fun y => o.fn x y
  | _, .neg a => fun ρ => (ev a ρ).bind fun x => x.toI.bind fun n => .ok (dv (.int (-n)))
  | _, .andV a b => fun ρ => (ev a ρ).bind fun x => x.toB.bind fun k => if k then ev b ρ else .ok (dv (.bl false))
  | _, .orV a b => fun ρ => (ev a ρ).bind fun x => x.toB.bind fun k => if k then .ok (dv (.bl true)) else ev b ρ
  | _, .notV a => fun ρ => (ev a ρ).bind fun x => x.toB.bind fun k => .ok (dv (.bl (!k)))
  | _, .chain o o' a b c => fun ρ => (ev a ρ).bind fun x => (ev b ρ).bind fun y => x.rd.bind fun x => y.rd.bind fun y => (o.fn x y).bind fun z => z.toB.bind fun k =>
      if k then (ev c ρ).bind fun w => w.rd.bind fun w => o'.fn y w else .ok (dv (.bl false))
  | _, .chain3 o o' o2 a b c d => fun ρ => (ev a ρ).bind fun x => (ev b ρ).bind fun y => x.rd.bind fun x => y.rd.bind fun y => (o.fn x y).bind fun z => z.toB.bind fun k =>
      if k then (ev c ρ).bind fun w => w.rd.bind fun w => (o'.fn y w).bind fun z2 => z2.toB.bind fun k2 => if k2 then (ev d ρ).bind fun u => u.rd.bind fun u => o2.fn w u else .ok (dv (.bl false)) else .ok (dv (.bl false))
  | _, .ife t a b => fun ρ => (ev t ρ).bind fun k => if k then ev a ρ else ev b ρ
  | _, .tup as => fun ρ => (ev as ρ).bind fun ds => if ds.length ≤ sizeLine then .ok (dv (.tup ds)) else .bad
  | _, .lst as => fun ρ => (ev as ρ).bind fun ds => if ds.length ≤ sizeLine then .ok (ov (.lst ds)) else .bad
  | _, .fld cs a f => fun ρ => (ev a ρ).bind fun
    | .sv (.fv (.d (.ins c fs))) => if c ∈ cs then (R.ofO (fs.lookup f)).bind fun d => .ok (dv d) else .bad
    | .sv (.obj false c fs) => if c ∈ cs then getFO (fs.lookup f) else .bad
    | _ => .bad
  | _, .fldv cs i f => fun ρ => getF cs ρ i f
  | _, .sl a lo hi => fun ρ => (ev a ρ).bind fun x => (ev lo ρ).bind fun l => (ev hi ρ).bind fun h => x.rd.bind fun d => slF d l h
  | _, .cb o as => fun ρ => (ev as ρ).bind o.fn
  | _, .isi a T => fun ρ => (ev a ρ).bind fun x => x.rd.bind fun d => isiF T d
  | _, .call ms f as => fun ρ => (ev as ρ).bind f
  | _, .tm o a e => fun ρ => (ev a ρ).bind fun x => x.rd.bind fun d => (asStr d).bind fun s => (ev e ρ).bind fun y => y.rd.bind fun b => o.fn s b
  | _, .fn j => fun ρ => .ok (dv (.fnc j))
  | _, .callv i j ms f as => fun ρ => if isFn j ρ[i]? = true then (ev as ρ).bind f else .bad
  | _, .fmt a => fun ρ => (ev a ρ).bind fun x => x.rd.bind fmtF
  | _, .fstr as => fun ρ => (ev as Str.empty ρ).bind fun s => .ok (dv (.str s))
  | _, .fnil => fun acc ρ => .ok acc
  | _, .fcons a as => fun acc ρ => (ev a ρ).bind fun x => x.rd.bind fun d => (asStr d).bind fun s => if (acc ++ s).length ≤ sizeLine then ev as (acc ++ s) ρ else .bad
  | _, .noE => fun ρ => .bad
  | _, .lrg a => fun ρ => (ev a ρ).bind fun x => x.toI.bind lrgF
  | _, .nix i k => fun ρ => (getN k ρ[i]?).bind fun ds => .ok (.vw (.lst ds))
  | _, .noS => fun ρ => .bad
  | _, .nset i a b => fun ρ => (ev a ρ).sr ρ fun x => x.toL.gr fun xs => (ev b ρ).sr ρ fun y => y.toL.gr fun ys => .nx (ρ.set i (some (.nst xs ys)))
  | _, .meth c m ms f o as => fun ρ => (ev o ρ).bind fun
    | .sv (.fv (.d (.ins c' fs))) => if c' = c then (match fs.lookup m with | none => (ev as ρ).bind fun ds => f (.ins c fs :: ds) | some _ => .bad) else .bad
    | _ => .bad
  | _, .make c ms f as => fun ρ => (ev as ρ).bind fun ds => (f ds).bind fun fs => .ok (.sv (.obj false c fs))
  | _, .lc it g t e vs => fun ρ => (ev it ρ).bind fun xs => if xs.2.length ≤ 1000000 then (lcF (fun x => ((ev g x (wipeE ρ vs)).bind fun ρ2 => (ev t ρ2).bind fun k => if k then (ev e ρ2).bind fun y => y.toD.bind fun d => .ok (some d) else .ok none).quiet) xs.2).bind fun ds => .ok (ov (.lst ds)) else .bad
  | _, .lc2 it g it2 g2 e vs vs1 => fun ρ => (ev it ρ).bind fun xs => if xs.2.length ≤ 1000000 then (lcA (fun x => ((ev g x (wipeE ρ vs)).bind fun ρ2 => (ev it2 ρ2).bind fun ys => if ys.1 = true ∧ ys.2.length ≤ 1000000 then lcA (fun y => ((ev g2 y (wipeE ρ2 vs1)).bind fun ρ3 => (ev e ρ3).bind fun v => v.toD.bind fun d => .ok [d]).quiet) ys.2 else .bad).quiet) xs.2).bind fun ds => if ds.length ≤ 1000000 then .ok (ov (.lst ds)) else .bad else .bad
  | _, .lend i a => fun ρ => match ρ[i]? with
    | some (some (.fv (.lst ds))) => lentR (ev a (ρ.set i (some (.d (.lst ds)))))
    | _ => .bad
  | _, .rev a => fun ρ => (ev a ρ).bind fun x => x.rd.bind fun
    | .lst ds => .ok (ov (.lst ds.reverse))
    | _ => .bad
  | _, .anil => fun ρ => .ok []
  | _, .acons a as => fun ρ => (ev a ρ).bind fun x => x.toD.bind fun d => (ev as ρ).bind fun ds => .ok (d :: ds)
  | _, .rnil => fun ρ => .ok []
  | _, .rcons a as => fun ρ => (ev a ρ).bind fun x => x.rd.bind fun d => (ev as ρ).bind fun ds => .ok (d :: ds)
  | _, .mnil => fun ρ => .ok []
  | _, .mcons b a as => fun ρ => (ev a ρ).bind fun x => (if b then x.rd.bind fun d => (match d with | .lst es => .ok (.lst es) | _ => .bad) else x.toD).bind fun d => (ev as ρ).bind fun ds => .ok (d :: ds)
  | _, .tst a => fun ρ => (ev a ρ).bind RV.toB
  | _, .tru a => fun ρ => (ev a ρ).bind fun x => x.rd.bind truD
  | _, .andT a b => fun ρ => (ev a ρ).bind fun k => if k then ev b ρ else .ok false
  | _, .orT a b => fun ρ => (ev a ρ).bind fun k => if k then .ok true else ev b ρ
  | _, .notT a => fun ρ => (ev a ρ).bind fun k => .ok (!k)
  | _, .yes => fun ρ => .ok true
  | _, .noP => fun ρ => .ok none
  | _, .someP a => fun ρ => (ev a ρ).bind fun x => x.toI.bind fun n => .ok (some n)
  | _, .rngv a => fun ρ => (ev a ρ).bind fun x => x.rd.bind fun
    | .rng lo hi => if -(2 ^ 62) ≤ lo ∧ lo < 2 ^ 62 ∧ -(2 ^ 62) ≤ hi ∧ hi < 2 ^ 62 then .ok (true, rng lo (hi - lo).toNat) else .bad
    | _ => .bad
  | _, .seq a => fun ρ => (ev a ρ).bind fun
    | .sv (.fv (.d (.lst ds))) => .ok (true, ds)
    | .sv (.fv (.d (.tup ds))) => .ok (true, ds)
    | .sv (.fv (.lst ds)) => .ok (true, ds)
    | .vw (.lst ds) => .ok (false, ds)
    | .sv (.fv (.d (.str s))) => .ok (true, chD s)
    | _ => .bad
  | _, .seqb i => fun ρ => match ρ[i]? with
    | some (some (.brw ds)) => .ok (true, ds)
    | _ => .bad
  | _, .rng1 as => fun ρ => (ev as ρ).bind fun
    | [.int n] => if -(2 ^ 62) ≤ n ∧ n < 2 ^ 62 then .ok (true, rng 0 n.toNat) else .bad
    | _ => .bad
  | _, .rng2 as => fun ρ => (ev as ρ).bind fun
    | [.int m, .int n] => if -(2 ^ 62) ≤ m ∧ m < 2 ^ 62 ∧ -(2 ^ 62) ≤ n ∧ n < 2 ^ 62 then .ok (true, rng m (n - m).toNat) else .bad
    | _ => .bad
  | _, .rng3 as => fun ρ => (ev as ρ).bind fun
    | [.int m, .int n, .int c] => if c = -1 ∧ -(2 ^ 62) ≤ m ∧ m < 2 ^ 62 ∧ -(2 ^ 62) ≤ n ∧ n < 2 ^ 62 then .ok (true, rngD m (m - n).toNat) else .bad
    | _ => .bad
  | _, .zip as => fun ρ => (ev as ρ).bind fun
    | [.lst xs, .lst ys] => .ok (true, zipD xs ys)
    | [.tup xs, .tup ys] => .ok (true, zipD xs ys)
    | _ => .bad
  | _, .enum as => fun ρ => (ev as ρ).bind fun
    | [.lst xs] => .ok (true, enD 0 xs)
    | [.tup xs] => .ok (true, enD 0 xs)
    | _ => .bad
  | _, .enumK as ks => fun ρ => (ev as ρ).bind fun xs => (ev ks ρ).bind fun ks => enumKF xs ks
  | _, .gname i => fun x ρ => .ok (ρ.set i (some (.d x)))
  | _, .gtl n gs => fun x ρ => match x with
    | .lst ds => if ds.length = n then ev gs ds ρ else .bad
    | _ => .bad
  | _, .gtup n gs => fun x ρ => match x with
    | .tup ds => if ds.length = n then ev gs ds ρ else .bad
    | _ => .bad
  | _, .gnil => fun xs ρ => match xs with
    | [] => .ok ρ
    | _ => .bad
  | _, .gcons g gs => fun xs ρ => match xs with
    | x :: r => (ev g x ρ).bind fun ρ' => ev gs r ρ'
    | [] => .bad
  | _, .pvar i => fun ρ => getP ρ (.pvar i)
  | _, .pfld c i f => fun ρ => getP ρ (.pfld c i f)
  | _, .pnst i k => fun ρ => getP ρ (.pnst i k)
  | _, .skip => fun ρ => .nx ρ
  | _, .sq a b => fun ρ => match ev a ρ with
    | .nx ρ' => ev b ρ'
    | o => o
  | _, .asgN i a => fun ρ => (ev a ρ).sr ρ fun
    | .sv s => .nx (ρ.set i (some s))
    | .vw _ => .bad
  | _, .asgG g a => fun ρ => (ev a ρ).sr ρ fun x => x.toD.gr fun d => (ev g d ρ).gr .nx
  | _, .asgF i c' f a => fun ρ => (ev a ρ).sr ρ fun
    | .sv (.fv x) => match ρ[i]? with
      | some (some (.obj sf c fs)) => if c = c' ∧ fs.length < 900 then .nx (ρ.set i (some (.obj sf c (putX f x fs)))) else .bad
      | _ => .bad
    | _ => .bad
  | _, .asgI p ix a => fun ρ => (ev a ρ).sr ρ fun x => x.toD.gr fun d => (getL ρ p).gr fun ds => (ev ix ρ).sr ρ fun y => y.toI.gr fun n => (R.ofO (ixN ds.length n)).gr fun j => .nx (putP ρ (.lst (ds.set j d)) p)
  | _, .mut o p as => fun ρ => (getL ρ p).gr fun xs => (ev as ρ).sr ρ fun ds => (o.fn xs ds).gr fun ys => .nx (putP ρ (.lst ys) p)
  | _, .ext p a => fun ρ => (getL ρ p).gr fun ds => (ev a ρ).sr ρ fun y => y.rd.gr fun d => match d with
    | .lst es => if ds.length + es.length ≤ sizeLine then .nx (putP ρ (.lst (ds ++ es)) p) else .bad
    | _ => .bad
  | _, .popD p => fun ρ => (getL ρ p).gr fun ds => if ds.isEmpty then .bad else .nx (putP ρ (.lst ds.dropLast) p)
  | _, .popG g p => fun ρ => (getL ρ p).gr fun ds => (R.ofO ds.getLast?).gr fun d => (ev g d (putP ρ (.lst ds.dropLast) p)).gr .nx
  | _, .augI p ix sub a => fun ρ => (getL ρ p).gr fun ds => (ev ix ρ).sr ρ fun y => y.toI.gr fun n => (getI ds n).gr fun v => (ev a ρ).sr ρ fun z => z.toI.gr fun m => .nx (putP ρ (.lst (ds.set n.toNat (.int (if sub then v - m else v + m)))) p)
  | _, .aug i sub a => fun ρ => match ρ[i]? with
    | some (some (.fv (.d (.int m)))) => (ev a ρ).sr ρ fun x => x.toI.gr fun n => .nx (ρ.set i (some (.d (.int (if sub then m - n else m + n)))))
    | _ => .bad
  | _, .drop a => fun ρ => (ev a ρ).sr ρ fun _ => .nx ρ
  | _, .ret a => fun ρ => (ev a ρ).sr ρ fun
    | .sv s => .rt (.sv s) ρ
    | .vw _ => .bad
  | _, .retO i => fun ρ => match ρ[i]? with
    | some (some s) => if s.isBrw then .bad else .rt (.sv s) (ρ.set i none)
    | _ => .bad
  | _, .retN => fun ρ => .rt (dv .non) ρ
  | _, .brk => fun ρ => .bk ρ
  | _, .cont => fun ρ => .ct ρ
  | _, .raise x => fun ρ => .err x none ρ
  | _, .ifS t a b => fun ρ => (ev t ρ).sr ρ fun k => if k then ev a ρ else ev b ρ
  | _, .for it g b kill => fun ρ => (ev it ρ).sr ρ fun xs => if xs.1 then forF (fun x ρ => (ev g x ρ).gr fun ρ' => ev b ρ') kill xs.2 ρ else .bad
  | _, .while n t b kill => fun ρ => whF (ev t) (ev b) kill n ρ
  | _, .try c subs b h => fun ρ => match ev b ρ with
    | .err x f ρ' => if x ∈ subs then ev h ρ' else .bad
    | o => o
  | _, .try2 c c2 b h h2 => fun ρ => match ev b ρ with
    | .err x f ρ' => if x = c then ev h ρ' else if x = c2 then ev h2 ρ' else .bad
    | o => o
  | _, .try3 c c2 c3 b h h2 h3 => fun ρ => match ev b ρ with
    | .err x f ρ' => if x = c then ev h ρ' else if x = c2 then ev h2 ρ' else if x = c3 then ev h3 ρ' else .bad
    | o => o
  | _, .frz i => fun ρ => match ρ[i]? with
    | some (some s) => if s.isBrw then .bad else .nx (ρ.set i (some (.d s.dat)))
    | _ => .bad
  | _, .kill is => fun ρ => .nx (wipeE ρ is)
  | _, .selfS i c m ms f as => fun ρ => match ρ[i]? with
    | some (some (.obj sf c' fs)) => if c' = c then (match fs.lookup m with | none => (ev as ρ).sr ρ fun ds => (f fs ds).sr (ρ.set i none) fun r => .nx (ρ.set i (some (.obj sf c r.2))) | some _ => .bad) else .bad
    | _ => .bad
  | _, .raiseF x f a => fun ρ => (ev a ρ).sr ρ fun v => v.toD.gr fun d => .err x (some (f, d)) ρ
  | _, .tryA c i subs b h => fun ρ => match ev b ρ with
    | .err x f ρ' => if x ∈ subs ∧ i < ρ'.length then onlyRt (ev h x f (ρ'.set i none)) else .bad
    | o => o
  | _, .xe a => fun _ _ ρ => ev a ρ
  | _, .xf x f => fun x' fo ρ => xfF x f x' fo
  | _, .xi y ys => fun x _ ρ => (isX ys x).bind fun b => .ok (dv (.bl b))
  | _, .xtup as => fun x fo ρ => (ev as x fo ρ).bind fun ds => if ds.length ≤ sizeLine then .ok (dv (.tup ds)) else .bad
  | _, .xand a b => fun x fo ρ => (ev a x fo ρ).bind fun v => v.toB.bind fun k => if k then ev b x fo ρ else .ok (dv (.bl false))
  | _, .xnil => fun _ _ ρ => .ok []
  | _, .xcons a as => fun x fo ρ => (ev a x fo ρ).bind fun v => v.toD.bind fun d => (ev as x fo ρ).bind fun ds => .ok (d :: ds)
  | _, .hret a => fun x fo ρ => (ev a x fo ρ).sr ρ fun
    | .sv s => .rt (.sv s) ρ
    | .vw _ => .bad
  | _, .hif y ys a b => fun x fo ρ => (isX ys x).sr ρ fun k => if k then ev a x fo ρ else ev b x fo ρ
/-- what the syntax leans on -/
def Wf (G : Gm) : {s : Sr} → P s → Prop
  | _, .kt j ds => ∀ B : Hp, ∃ vs, SqT G.K B (G.kt j) vs ∧ Reps G B vs ds
  | _, .bin _ a b => Wf G a ∧ Wf G b
  | _, .neg a => Wf G a
  | _, .andV a b => Wf G a ∧ Wf G b
  | _, .orV a b => Wf G a ∧ Wf G b
  | _, .notV a => Wf G a
  | _, .chain _ _ a b c => Wf G a ∧ Wf G b ∧ Wf G c
  | _, .chain3 _ _ _ a b c d => Wf G a ∧ Wf G b ∧ Wf G c ∧ Wf G d
  | _, .ife t a b => Wf G t ∧ Wf G a ∧ Wf G b
  | _, .tup as => Wf G as
  | _, .lst as => Wf G as
  | _, .fld cs a f => Wf G a ∧ ∀ c, c ∈ cs → Cls G.K (G.cm c) ∧ NoAttr G.K (G.cm c) f
  | _, .fldv cs i f => ∀ c, c ∈ cs → Cls G.K (G.cm c) ∧ NoAttr G.K (G.cm c) f
  | _, .sl a lo hi => Wf G a ∧ Wf G lo ∧ Wf G hi
  | _, .cb _ as => Wf G as
  | _, .isi a _ => Wf G a
  | _, .call ms f as => modes as = ms ∧ Wf G as
  | _, .tm _ a e => Wf G a ∧ Wf G e
  | _, .callv _ _ ms f as => modes as = ms ∧ Wf G as
  | _, .fmt a => Wf G a
  | _, .fstr as => Wf G as
  | _, .fcons a as => Wf G a ∧ Wf G as
  | _, .meth c m ms f o as => modes as = ms ∧ Wf G o ∧ Wf G as
  | _, .make c ms f as => modes as = ms ∧ Wf G as
  | _, .lc it g t e vs => Wf G it ∧ (∀ i, i ∈ names g → i ∈ vs) ∧ Wf G t ∧ Wf G e
  | _, .lc2 it g it2 g2 e vs vs1 => Wf G it ∧ (∀ i, i ∈ names g → i ∈ vs) ∧ Wf G it2 ∧ (∀ i, i ∈ names g2 → i ∈ vs1) ∧ Wf G e
  | _, .lend _ a => Wf G a
  | _, .rev a => Wf G a
  | _, .acons a as => Wf G a ∧ Wf G as
  | _, .rcons a as => Wf G a ∧ Wf G as
  | _, .mcons _ a as => Wf G a ∧ Wf G as
  | _, .tst a => Wf G a
  | _, .tru a => Wf G a
  | _, .andT a b => Wf G a ∧ Wf G b
  | _, .orT a b => Wf G a ∧ Wf G b
  | _, .notT a => Wf G a
  | _, .someP a => Wf G a
  | _, .seq a => Wf G a
  | _, .rngv a => Wf G a
  | _, .rng1 as => Wf G as
  | _, .rng2 as => Wf G as
  | _, .rng3 as => Wf G as
  | _, .zip as => Wf G as
  | _, .enum as => Wf G as
  | _, .enumK as ks => Wf G as ∧ Wf G ks
  | _, .pfld c i f => Cls G.K (G.cm c) ∧ NoAttr G.K (G.cm c) f
  | _, .nset _ a b => Wf G a ∧ Wf G b
  | _, .lrg a => Wf G a
  | _, .sq a b => Wf G a ∧ Wf G b
  | _, .asgN _ a => Wf G a
  | _, .asgG _ a => Wf G a
  | _, .asgF i c f a => Wf G a ∧ Cls G.K (G.cm c) ∧ NoAttr G.K (G.cm c) f
  | _, .asgI p ix a => Wf G p ∧ Wf G ix ∧ Wf G a
  | _, .mut _ p as => Wf G p ∧ Wf G as
  | _, .ext p a => Wf G p ∧ Wf G a
  | _, .popD p => Wf G p
  | _, .popG _ p => Wf G p
  | _, .aug _ _ a => Wf G a
  | _, .augI p ix _ a => Wf G p ∧ Wf G ix ∧ Wf G a
  | _, .drop a => Wf G a
  | _, .ret a => Wf G a
  | _, .ifS t a b => Wf G t ∧ Wf G a ∧ Wf G b
  | _, .for it g b _ => Wf G it ∧ Wf G b
  | _, .while _ t b _ => Wf G t ∧ Wf G b
  | _, .try c subs b h => (∀ x, x ∈ subs → PySem.W.exmOne G.K (.ref (G.ca x)) (.ref (G.ca c)) = some true) ∧ Wf G b ∧ Wf G h
  | _, .try2 c c2 b h h2 => (PySem.W.exmOne G.K (.ref (G.ca c)) (.ref (G.ca c)) = some true ∧ PySem.W.exmOne G.K (.ref (G.ca c2)) (.ref (G.ca c)) = some false ∧ PySem.W.exmOne G.K (.ref (G.ca c2)) (.ref (G.ca c2)) = some true) ∧ Wf G b ∧ Wf G h ∧ Wf G h2
  | _, .try3 c c2 c3 b h h2 h3 => (PySem.W.exmOne G.K (.ref (G.ca c)) (.ref (G.ca c)) = some true ∧ PySem.W.exmOne G.K (.ref (G.ca c2)) (.ref (G.ca c)) = some false ∧ PySem.W.exmOne G.K (.ref (G.ca c2)) (.ref (G.ca c2)) = some true ∧ PySem.W.exmOne G.K (.ref (G.ca c3)) (.ref (G.ca c)) = some false ∧ PySem.W.exmOne G.K (.ref (G.ca c3)) (.ref (G.ca c2)) = some false ∧ PySem.W.exmOne G.K (.ref (G.ca c3)) (.ref (G.ca c3)) = some true) ∧ Wf G b ∧ Wf G h ∧ Wf G h2 ∧ Wf G h3
  | _, .selfS i c m ms f as => modes as = ms ∧ Wf G as
  | _, .raiseF _ _ a => Wf G a
  | _, .tryA c i subs b h => (∀ x, x ∈ subs → PySem.W.exmOne G.K (.ref (G.ca x)) (.ref (G.ca c)) = some true) ∧ Wf G b ∧ Wf G h
  | _, .xe a => Wf G a
  | _, .xtup as => Wf G as
  | _, .xand a b => Wf G a ∧ Wf G b
  | _, .xcons a as => Wf G a ∧ Wf G as
  | _, .hret a => Wf G a
  | _, .hif _ _ a b => Wf G a ∧ Wf G b
  | _, _ => True
where
  modes : {s : Sr} → P s → List Bool
    | _, .mcons b _ as => b :: modes as
    | _, _ => []
  names : {s : Sr} → P s → List Nat
    | _, .gname i => [i]
    | _, .gtup _ gs => names gs
    | _, .gtl _ gs => names gs
    | _, .gcons g gs => names g ++ names gs
    | _, _ => []
end Ci
end

section
set_option Elab.async false
set_option linter.all false
set_option maxRecDepth 100000
set_option maxHeartbeats 2000000
/-! ## expressions do what they compute -/
namespace Ci
open PySem PySem.Spec PyProof.Rows L2 Evl

/-- a reading does what is computed -/
def Does (G : Gm) (E : XE2) {α β : Type} (rel : Hp → Hp → Hp → Hp → β → α → Prop) (t : L2.St → Hp → (β → Hp → Prop) → Prop) (ρ : En) (r : R α) : Prop :=
  ∀ pn H0 B H σ, Slots G pn H0 B H σ ρ → ∀ Q, Post G (E σ) (rel H0) B H r Q → t σ H Q
def relV (G : Gm) : Hp → Hp → Hp → Hp → V → RV → Prop := fun _ => RvOk G
def relA (G : Gm) : Hp → Hp → Hp → Hp → List V → List D → Prop := fun _ _ B' _ vs ds => Reps G B' vs ds
def relR (G : Gm) : Hp → Hp → Hp → Hp → List V → List D → Prop := fun _ _ B' H' vs ds => Rdbs G B' H' vs ds
def relT : Hp → Hp → Hp → Hp → Bool → Bool → Prop := fun _ _ _ _ b k => b = k
def relO : Hp → Hp → Hp → Hp → Option Int → Option Int → Prop := fun _ _ _ _ b k => b = k
section
variable {G : Gm} {E : XE2} {ρ : En} {ta tb tc : TE} {ra rb rc : R RV} {i : Nat} {pn : Addr}
theorem early_V {H0 : Hp} : Early (relV G H0) := RvOk.early
theorem early_A {H0 : Hp} : Early (relA G H0) := fun _ _ _ _ _ _ _ h => h
theorem early_R {H0 : Hp} : Early (relR G H0) := fun _ _ _ _ _ _ _ h => h
theorem early_T {H0 : Hp} : Early (relT H0) := fun _ _ _ _ _ _ _ h => h
theorem getV_ok {H0 B H : Hp} {σ : L2.St} {rv : RV} (S : Slots G pn H0 B H σ ρ) (h : getV ρ i = .ok rv) : ∃ v, σ[i]? = some (some v) ∧ RvOk G H B H v rv := by
  unfold getV at h
  split at h
  · rename_i x e
    cases h
    obtain ⟨v, h1, h2⟩ := S.data e
    exact ⟨v, h1, .d h2⟩
  · rename_i x nd e
    cases h
    obtain ⟨a, o, h1, h2, h3, h4⟩ := S.own e (fun y z => nd y (by rw [z]))
    exact ⟨_, h1, .vw h3 h4⟩
  · rename_i ds e
    cases h
    obtain ⟨a, vs, h1, h2, h3⟩ := S.lent e
    exact ⟨_, h1, .vw (S.ex0 _ _ h2) (.lst h3)⟩
  · cases h
theorem do_var : Does G E (relV G) (tVar i) ρ (getV ρ i) := fun pn H0 B H σ S Q P => by
  cases h : getV ρ i with
  | ok rv =>
    rw [h] at P
    obtain ⟨v, h1, h2⟩ := getV_ok S h
    exact ⟨v, h1, P v B H (Go.refl S.ex) h2⟩
  | err x f =>
    unfold getV at h
    split at h <;> cases h
  | bad => rw [h] at P; exact P.elim
theorem do_c {k : Cn} : Does G E (relV G) (tC k.v) ρ (.ok (dv k.d)) := fun pn H0 B H σ S Q P => P _ B H (Go.refl S.ex) (by
  cases k with
  | non => exact .d .non
  | bl b => exact .d (.bl b)
  | int n => exact .d (.int n)
  | str s => exact .d (.str _ (sok_lit s)))
theorem toI_ok {B H Hi : Hp} {v : V} {x : RV} {n : Int} (r : RvOk G Hi B H v x) (h : x.toI = .ok n) : v = .int n := by
  unfold RV.toI at h
  split at h <;> cases h
  exact (r.rd rfl).int
theorem toB_ok {B H Hi : Hp} {v : V} {x : RV} {n : Bool} (r : RvOk G Hi B H v x) (h : x.toB = .ok n) : v = .bl n := by
  unfold RV.toB at h
  split at h <;> cases h
  exact (r.rd rfl).bl
theorem toI_noerr {x : RV} {a : Nat} {b : Option (Str × D)} (h : x.toI = .err a b) : False := by
  unfold RV.toI at h
  split at h <;> cases h
theorem toB_noerr {x : RV} {a : Nat} {b : Option (Str × D)} (h : x.toB = .err a b) : False := by
  unfold RV.toB at h
  split at h <;> cases h
theorem rd_noerr {x : RV} {a : Nat} {b : Option (Str × D)} (h : x.rd = .err a b) : False := by
  unfold RV.rd at h
  split at h <;> cases h
theorem toD_noerr {x : RV} {a : Nat} {b : Option (Str × D)} (h : x.toD = .err a b) : False := by
  unfold RV.toD at h
  split at h <;> cases h
theorem do_bin {o : B2} (ha : Does G E (relV G) ta ρ ra) (hb : Does G E (relV G) tb ρ rb) : Does G E (relV G) (tOp (o.den G.K) ta tb) ρ (ra.bind fun x => rb.bind fun y => x.rd.bind fun x => y.rd.bind fun y => o.fn x y) := fun pn H0 B H σ S Q P =>
  ha pn H0 B H σ S _ (P.bind fun x ex P v B1 H1 g1 r1 => hb pn H0 B1 H1 σ (S.go g1) _ ((P.go early_V g1).bind fun y ey P u B2 H2 g2 r2 => by
    cases e1 : x.rd with
    | ok x' =>
      cases e2 : y.rd with
      | ok y' =>
        rw [e1, R.bind_ok, e2, R.bind_ok] at P
        exact o.ok (E σ) B2 H2 v u x' y' g2.bh ((r1.rd e1).go g2) (r2.rd e2) Q (P.go RvOk.early g2)
      | err a b => exact (rd_noerr e2).elim
      | bad => rw [e1, R.bind_ok, e2] at P; exact P.elim
    | err a b => exact (rd_noerr e1).elim
    | bad => rw [e1] at P; exact P.elim))
theorem do_neg (ha : Does G E (relV G) ta ρ ra) : Does G E (relV G) (tUn (rU fun i => .int (-i)) ta) ρ (ra.bind fun x => x.toI.bind fun n => .ok (dv (.int (-n)))) := fun pn H0 B H σ S Q P =>
  ha pn H0 B H σ S _ (P.bind fun x ex P v B1 H1 g1 r1 => by
    cases e : x.toI with
    | ok n =>
      rw [e] at P
      exact ⟨n, toI_ok r1 e, P _ B1 H1 g1 (.d (.int _))⟩
    | err a b => exact (toI_noerr e).elim
    | bad => rw [e] at P; exact P.elim)
theorem do_andV (ha : Does G E (relV G) ta ρ ra) (hb : Does G E (relV G) tb ρ rb) : Does G E (relV G) (tAndV ta tb) ρ (ra.bind fun x => x.toB.bind fun k => if k then rb else .ok (dv (.bl false))) := fun pn H0 B H σ S Q P =>
  ha pn H0 B H σ S _ (P.bind fun x ex P v B1 H1 g1 r1 => by
    cases e : x.toB with
    | ok k =>
      rw [e] at P
      refine ⟨k, toB_ok r1 e, ?_⟩
      cases k with
      | true => exact iteT (hb pn H0 B1 H1 σ (S.go g1) Q (P.go early_V g1))
      | false => exact iteF (P _ B1 H1 g1 (.d (.bl _)))
    | err a b => exact (toB_noerr e).elim
    | bad => rw [e] at P; exact P.elim)
theorem do_orV (ha : Does G E (relV G) ta ρ ra) (hb : Does G E (relV G) tb ρ rb) : Does G E (relV G) (tOrV ta tb) ρ (ra.bind fun x => x.toB.bind fun k => if k then .ok (dv (.bl true)) else rb) := fun pn H0 B H σ S Q P =>
  ha pn H0 B H σ S _ (P.bind fun x ex P v B1 H1 g1 r1 => by
    cases e : x.toB with
    | ok k =>
      rw [e] at P
      refine ⟨k, toB_ok r1 e, ?_⟩
      cases k with
      | true => exact iteT (P _ B1 H1 g1 (.d (.bl _)))
      | false => exact iteF (hb pn H0 B1 H1 σ (S.go g1) Q (P.go early_V g1))
    | err a b => exact (toB_noerr e).elim
    | bad => rw [e] at P; exact P.elim)
theorem do_notV (ha : Does G E (relV G) ta ρ ra) : Does G E (relV G) (tNotV ta) ρ (ra.bind fun x => x.toB.bind fun k => .ok (dv (.bl (!k)))) := fun pn H0 B H σ S Q P =>
  ha pn H0 B H σ S _ (P.bind fun x ex P v B1 H1 g1 r1 => by
    cases e : x.toB with
    | ok n =>
      rw [e] at P
      exact ⟨n, toB_ok r1 e, P _ B1 H1 g1 (.d (.bl _))⟩
    | err a b => exact (toB_noerr e).elim
    | bad => rw [e] at P; exact P.elim)
theorem do_chain {o o' : B2} (ha : Does G E (relV G) ta ρ ra) (hb : Does G E (relV G) tb ρ rb) (hc : Does G E (relV G) tc ρ rc) : Does G E (relV G) (tChain (o.den G.K) (o'.den G.K) ta tb tc) ρ
    (ra.bind fun x => rb.bind fun y => x.rd.bind fun x => y.rd.bind fun y => (o.fn x y).bind fun z => z.toB.bind fun k => if k then rc.bind fun w => w.rd.bind fun w => o'.fn y w else .ok (dv (.bl false))) := fun pn H0 B H σ S Q P =>
  ha pn H0 B H σ S _ (P.bind fun x ex P v B1 H1 g1 r1 => hb pn H0 B1 H1 σ (S.go g1) _ ((P.go early_V g1).bind fun y ey P u B2 H2 g2 r2 => by
    cases e1 : x.rd with
    | ok x' =>
      cases e2 : y.rd with
      | ok y' =>
        rw [e1, R.bind_ok, e2, R.bind_ok] at P
        refine o.ok (E σ) B2 H2 v u x' y' g2.bh ((r1.rd e1).go g2) (r2.rd e2) _ ((P.go (early_V (H0 := H0)) g2).bind fun z ez P w B3 H3 g3 r3 => ?_)
        cases e3 : z.toB with
        | ok k =>
          rw [e3, R.bind_ok] at P
          refine ⟨k, toB_ok r3 e3, ?_⟩
          cases k with
          | true =>
            refine iteT (hc pn H0 B3 H3 σ (S.go ((g1.trans g2).trans g3)) _ ((P.go (early_V (H0 := H0)) g3).bind fun w ew P w' B4 H4 g4 r4 => ?_))
            cases e4 : w.rd with
            | ok w0 =>
              rw [e4, R.bind_ok] at P
              exact o'.ok (E σ) B4 H4 u w' y' w0 g4.bh ((r2.rd e2).go (g3.trans g4)) (r4.rd e4) Q (P.go (early_V (H0 := H0)) g4)
            | err a b => exact (rd_noerr e4).elim
            | bad => rw [e4] at P; exact P.elim
          | false => exact iteF (P _ B3 H3 g3 (.d (.bl _)))
        | err a b => exact (toB_noerr e3).elim
        | bad => rw [e3] at P; exact P.elim
      | err a b => exact (rd_noerr e2).elim
      | bad => rw [e1, R.bind_ok, e2] at P; exact P.elim
    | err a b => exact (rd_noerr e1).elim
    | bad => rw [e1] at P; exact P.elim))
variable {tt tu : TT} {rt ru : R Bool}
theorem do_chain3 {o o' o2 : B2} {td : TE} {rd : R RV} (ha : Does G E (relV G) ta ρ ra) (hb : Does G E (relV G) tb ρ rb) (hc : Does G E (relV G) tc ρ rc) (hd : Does G E (relV G) td ρ rd) : Does G E (relV G) (tChain3 (o.den G.K) (o'.den G.K) (o2.den G.K) ta tb tc td) ρ
    (ra.bind fun x => rb.bind fun y => x.rd.bind fun x => y.rd.bind fun y => (o.fn x y).bind fun z => z.toB.bind fun k => if k then rc.bind fun w => w.rd.bind fun w => (o'.fn y w).bind fun z2 => z2.toB.bind fun k2 => if k2 then rd.bind fun u => u.rd.bind fun u => o2.fn w u else .ok (dv (.bl false)) else .ok (dv (.bl false))) := fun pn H0 B H σ S Q P =>
  ha pn H0 B H σ S _ (P.bind fun x ex P v B1 H1 g1 r1 => hb pn H0 B1 H1 σ (S.go g1) _ ((P.go early_V g1).bind fun y ey P u B2 H2 g2 r2 => by
    cases e1 : x.rd with
    | ok x' =>
      cases e2 : y.rd with
      | ok y' =>
        rw [e1, R.bind_ok, e2, R.bind_ok] at P
        refine o.ok (E σ) B2 H2 v u x' y' g2.bh ((r1.rd e1).go g2) (r2.rd e2) _ ((P.go (early_V (H0 := H0)) g2).bind fun z ez P w B3 H3 g3 r3 => ?_)
        cases e3 : z.toB with
        | ok k =>
          rw [e3, R.bind_ok] at P
          refine ⟨k, toB_ok r3 e3, ?_⟩
          cases k with
          | true =>
            refine iteT (hc pn H0 B3 H3 σ (S.go ((g1.trans g2).trans g3)) _ ((P.go (early_V (H0 := H0)) g3).bind fun w ew P w' B4 H4 g4 r4 => ?_))
            cases e4 : w.rd with
            | ok w0 =>
              rw [e4, R.bind_ok] at P
              refine o'.ok (E σ) B4 H4 u w' y' w0 g4.bh ((r2.rd e2).go (g3.trans g4)) (r4.rd e4) _ ((P.go (early_V (H0 := H0)) g4).bind fun z2 ez2 P w5 B5 H5 g5 r5 => ?_)
              cases e5 : z2.toB with
              | ok k2 =>
                rw [e5, R.bind_ok] at P
                refine ⟨k2, toB_ok r5 e5, ?_⟩
                cases k2 with
                | true =>
                  refine iteT (hd pn H0 B5 H5 σ (S.go ((((g1.trans g2).trans g3).trans g4).trans g5)) _ ((P.go (early_V (H0 := H0)) g5).bind fun u6 eu6 P w6 B6 H6 g6 r6 => ?_))
                  cases e6 : u6.rd with
                  | ok u0 =>
                    rw [e6, R.bind_ok] at P
                    exact o2.ok (E σ) B6 H6 w' w6 w0 u0 g6.bh ((r4.rd e4).go (g5.trans g6)) (r6.rd e6) Q (P.go (early_V (H0 := H0)) g6)
                  | err a b => exact (rd_noerr e6).elim
                  | bad => rw [e6] at P; exact P.elim
                | false => exact iteF (P _ B5 H5 g5 (.d (.bl _)))
              | err a b => exact (toB_noerr e5).elim
              | bad => rw [e5] at P; exact P.elim
            | err a b => exact (rd_noerr e4).elim
            | bad => rw [e4] at P; exact P.elim
          | false => exact iteF (P _ B3 H3 g3 (.d (.bl _)))
        | err a b => exact (toB_noerr e3).elim
        | bad => rw [e3] at P; exact P.elim
      | err a b => exact (rd_noerr e2).elim
      | bad => rw [e1, R.bind_ok, e2] at P; exact P.elim
    | err a b => exact (rd_noerr e1).elim
    | bad => rw [e1] at P; exact P.elim))
theorem do_ife (ht : Does G E relT tt ρ rt) (ha : Does G E (relV G) ta ρ ra) (hb : Does G E (relV G) tb ρ rb) : Does G E (relV G) (tIf tt ta tb) ρ (rt.bind fun k => if k then ra else rb) := fun pn H0 B H σ S Q P =>
  ht pn H0 B H σ S _ (P.bind fun k ek P b B1 H1 g1 r1 => by
    cases r1
    cases k with
    | true => exact iteT (ha pn H0 B1 H1 σ (S.go g1) Q (P.go early_V g1))
    | false => exact iteF (hb pn H0 B1 H1 σ (S.go g1) Q (P.go early_V g1)))
variable {as : TA} {rs : R (List D)}
theorem do_tup (h : Does G E (relA G) as ρ rs) : Does G E (relV G) (tTup as) ρ (rs.bind fun ds => if ds.length ≤ sizeLine then .ok (dv (.tup ds)) else .bad) := fun pn H0 B H σ S Q P =>
  h pn H0 B H σ S _ (P.bind fun ds eds P vs B1 H1 g1 r1 => by
    by_cases c : ds.length ≤ sizeLine
    · rw [if_pos c] at P
      exact ⟨by rw [Reps.len r1]; exact c, fun p hp => Post.tup (P.go (early_V (H0 := H0)) g1) g1.bh hp r1⟩
    · rw [if_neg c] at P
      exact P.elim)
theorem do_lst (h : Does G E (relA G) as ρ rs) : Does G E (relV G) (tLst as) ρ (rs.bind fun ds => if ds.length ≤ sizeLine then .ok (ov (.lst ds)) else .bad) := fun pn H0 B H σ S Q P =>
  h pn H0 B H σ S _ (P.bind fun ds eds P vs B1 H1 g1 r1 => by
    by_cases c : ds.length ≤ sizeLine
    · rw [if_pos c] at P
      exact ⟨by rw [Reps.len r1]; exact c, fun p hp => Post.new (P.go (early_V (H0 := H0)) g1) g1.bh hp (.lst r1)⟩
    · rw [if_neg c] at P
      exact P.elim)
theorem do_anil : Does G E (relA G) tNil ρ (.ok []) := fun pn H0 B H σ S Q P => P [] B H (Go.refl S.ex) Reps.nil
theorem do_acons (ha : Does G E (relV G) ta ρ ra) (h : Does G E (relA G) as ρ rs) : Does G E (relA G) (tCons ta as) ρ (ra.bind fun x => x.toD.bind fun d => rs.bind fun ds => .ok (d :: ds)) := fun pn H0 B H σ S Q P =>
  ha pn H0 B H σ S _ (P.bind fun x ex P v B1 H1 g1 r1 => by
    cases e : x.toD with
    | ok d =>
      rw [e, R.bind_ok] at P
      cases x with
      | vw y => cases e
      | sv s =>
        cases e
        obtain ⟨B2, a1, a2, a3, a4⟩ := r1.toD g1.bh
        have g2 : Go B H B2 H1 := ⟨g1.bb.trans a2, a3, g1.hh, fun a o q1 q2 => a4 a o q1 (g1.fr a o q1 q2)⟩
        exact h pn H0 B2 H1 σ (S.go g2) _ ((P.go early_A g2).bind fun ds eds P vs B3 H3 g3 r3 => P _ B3 H3 g3 (Reps.cons (a1.mono g3.bb) r3))
    | err a b => exact (toD_noerr e).elim
    | bad => rw [e] at P; exact P.elim)
theorem do_rnil : Does G E (relR G) tNil ρ (.ok []) := fun pn H0 B H σ S Q P => P [] B H (Go.refl S.ex) Rdbs.nil
theorem do_rcons (ha : Does G E (relV G) ta ρ ra) (h : Does G E (relR G) as ρ rs) : Does G E (relR G) (tCons ta as) ρ (ra.bind fun x => x.rd.bind fun d => rs.bind fun ds => .ok (d :: ds)) := fun pn H0 B H σ S Q P =>
  ha pn H0 B H σ S _ (P.bind fun x ex P v B1 H1 g1 r1 => by
    cases e : x.rd with
    | ok d =>
      rw [e, R.bind_ok] at P
      exact h pn H0 B1 H1 σ (S.go g1) _ ((P.go early_R g1).bind fun ds eds P vs B3 H3 g3 r3 => P _ B3 H3 g3 (Rdbs.cons ((r1.rd e).go g3) r3))
    | err a b => exact (rd_noerr e).elim
    | bad => rw [e] at P; exact P.elim)
def relM (G : Gm) (ms : List Bool) : Hp → Hp → Hp → Hp → List V → List D → Prop := fun _ _ B' H' vs ds => ArgsOk G B' H' ms vs ds
theorem early_M {ms : List Bool} {H0 : Hp} : Early (relM G ms H0) := fun _ _ _ _ _ _ _ h => h
theorem do_mnil : Does G E (relM G []) tNil ρ (.ok []) := fun pn H0 B H σ S Q P => P [] B H (Go.refl S.ex) ArgsOk.nil
theorem do_mcons {b : Bool} {ms : List Bool} (ha : Does G E (relV G) ta ρ ra) (h : Does G E (relM G ms) as ρ rs) : Does G E (relM G (b :: ms)) (tCons ta as) ρ
    (ra.bind fun x => (if b then x.rd.bind fun d => (match d with | .lst es => .ok (.lst es) | _ => .bad) else x.toD).bind fun d => rs.bind fun ds => .ok (d :: ds)) := fun pn H0 B H σ S Q P =>
  ha pn H0 B H σ S _ (P.bind fun x ex P v B1 H1 g1 r1 => by
    cases b with
    | false =>
      simp only [Bool.false_eq_true, if_false] at P
      cases e : x.toD with
      | ok d =>
        rw [e, R.bind_ok] at P
        cases x with
        | vw y => cases e
        | sv s =>
          cases e
          obtain ⟨B2, a1, a2, a3, a4⟩ := r1.toD g1.bh
          have g2 : Go B H B2 H1 := ⟨g1.bb.trans a2, a3, g1.hh, fun a o q1 q2 => a4 a o q1 (g1.fr a o q1 q2)⟩
          exact h pn H0 B2 H1 σ (S.go g2) _ ((P.go early_M g2).bind fun ds eds P vs B3 H3 g3 r3 => P _ B3 H3 g3 (ArgsOk.d (a1.mono g3.bb) r3))
      | err a b => exact (toD_noerr e).elim
      | bad => rw [e] at P; exact P.elim
    | true =>
      simp only [if_true] at P
      cases e : x.rd with
      | ok d =>
        rw [e, R.bind_ok] at P
        cases d with
        | lst es =>
          obtain ⟨a, us, rfl, e1, r⟩ := (r1.rd e).lst g1.bh
          have P' : Post G (E σ) (relM G (true :: ms) H0) B H (rs.bind fun ds => .ok (.lst es :: ds)) Q := P
          exact h pn H0 B1 H1 σ (S.go g1) _ ((P'.go early_M g1).bind fun ds eds P vs B3 H3 g3 r3 => P _ B3 H3 g3 (ArgsOk.b (g3.hh _ _ e1) (r.mono g3.bb) r3))
        | _ => exact P.elim
      | err a b => exact (rd_noerr e).elim
      | bad => rw [e] at P; exact P.elim)
theorem do_fld {f : Str} {cs : List Nat} (ha : Does G E (relV G) ta ρ ra) (hc : ∀ c, c ∈ cs → Cls G.K (G.cm c) ∧ NoAttr G.K (G.cm c) f) : Does G E (relV G) (tFld G.K ta f) ρ (ra.bind fun | .sv (.fv (.d (.ins c fs))) => if c ∈ cs then (R.ofO (fs.lookup f)).bind fun d => .ok (dv d) else .bad | .sv (.obj false c fs) => if c ∈ cs then getFO (fs.lookup f) else .bad | _ => .bad) := fun pn H0 B H σ S Q P =>
  ha pn H0 B H σ S _ (P.bind fun x ex P v B1 H1 g1 r1 => by
    split at P <;> first | exact P.elim | skip
    rename_i c fs
    by_cases m : c ∈ cs
    · rw [if_pos m] at P
      cases e : fs.lookup f with
      | none => rw [e] at P; exact P.elim
      | some d =>
        rw [e] at P
        have r2 := (RvOk.rd r1 (d := .ins c fs) rfl).plain rfl
        cases r2 with
        | ins hb r =>
          obtain ⟨w, k1, k2⟩ := r.look e
          exact ⟨_, _, _, _, w, rfl, g1.bh _ _ hb, (hc c m).1, (hc c m).2, k1, P w B1 H1 g1 (.d k2)⟩
    · rw [if_neg m] at P
      exact P.elim
    · rename_i c fs
      by_cases m : c ∈ cs
      · rw [if_pos m] at P
        cases r1 with
        | sv nb q =>
          cases q with
          | obj z h0 hb hl r n =>
            unfold getFO at P
            split at P
            · rename_i x hx
              obtain ⟨w, bs, k1, k2, k3⟩ := r.look hx
              refine ⟨_, _, _, _, w, rfl, hl, (hc c m).1, (hc c m).2, k1, P w B1 H1 g1 ?_⟩
              cases k2 with
              | d r => exact .d r
              | own _ _ _ r => cases r
            · rename_i x nd hx
              obtain ⟨w, bs, k1, k2, k3⟩ := r.look hx
              refine ⟨_, _, _, _, w, rfl, hl, (hc c m).1, (hc c m).2, k1, P w B1 H1 g1 ?_⟩
              cases k2 with
              | d r => exact absurd rfl (nd _)
              | own _ _ h r => exact .vw h r
            · exact P.elim
      · rw [if_neg m] at P
        exact P.elim)
theorem do_fldv {f : Str} {cs : List Nat} (hc : ∀ c, c ∈ cs → Cls G.K (G.cm c) ∧ NoAttr G.K (G.cm c) f) : Does G E (relV G) (tFld G.K (tVar i) f) ρ (getF cs ρ i f) := fun pn H0 B H σ S Q P => by
  unfold getF at P
  split at P
  · rename_i c fs e
    by_cases m : c ∈ cs
    · rw [if_pos m] at P
      obtain ⟨l, dx, fv, ow, as, zs, S', e1, e2, e3, e4, e5, e6, e7⟩ := S.obj e
      split at P
      · rename_i x hx
        obtain ⟨w, bs, k1, k2, k3⟩ := e6.look hx
        refine ⟨.ref l, e2, l, _, dx, fv, w, rfl, e5, (hc c m).1, (hc c m).2, k1, P w B H (Go.refl S.ex) ?_⟩
        cases k2 with
        | d r => exact .d r
        | own _ _ _ r => cases r
      · rename_i x nd hx
        obtain ⟨w, bs, k1, k2, k3⟩ := e6.look hx
        refine ⟨.ref l, e2, l, _, dx, fv, w, rfl, e5, (hc c m).1, (hc c m).2, k1, P w B H (Go.refl S.ex) ?_⟩
        cases k2 with
        | d r => exact absurd rfl (nd _)
        | own _ _ h r => exact .vw h r
      · exact P.elim
    · rw [if_neg m] at P
      exact P.elim
  · rename_i c fs e
    by_cases m : c ∈ cs
    · rw [if_pos m] at P
      obtain ⟨v, h1, h2⟩ := S.data e
      split at P
      · rename_i x hx
        cases h2 with
        | ins hb r =>
          obtain ⟨w, k1, k2⟩ := r.look hx
          exact ⟨_, h1, _, _, _, _, w, rfl, S.ex _ _ hb, (hc c m).1, (hc c m).2, k1, P w B H (Go.refl S.ex) (.d k2)⟩
      · exact P.elim
    · rw [if_neg m] at P
      exact P.elim
  · exact P.elim
variable {tl th : TO} {rl rh : R (Option Int)}
theorem do_noP : Does G E relO tNoPart ρ (.ok none) := fun pn H0 B H σ S Q P => P none B H (Go.refl S.ex) rfl
theorem do_someP (ha : Does G E (relV G) ta ρ ra) : Does G E relO (tPart ta) ρ (ra.bind fun x => x.toI.bind fun n => .ok (some n)) := fun pn H0 B H σ S Q P =>
  ha pn H0 B H σ S _ (P.bind fun x ex P v B1 H1 g1 r1 => by
    cases e : x.toI with
    | ok n =>
      rw [e] at P
      exact ⟨n, toI_ok r1 e, P _ B1 H1 g1 rfl⟩
    | err a b => exact (toI_noerr e).elim
    | bad => rw [e] at P; exact P.elim)
theorem do_sl (ha : Does G E (relV G) ta ρ ra) (hl : Does G E relO tl ρ rl) (hh : Does G E relO th ρ rh) : Does G E (relV G) (tSl (rSl G.K) ta tl th) ρ (ra.bind fun x => rl.bind fun l => rh.bind fun h => x.rd.bind fun d => slF d l h) := fun pn H0 B H σ S Q P =>
  ha pn H0 B H σ S _ (P.bind fun x ex P v B1 H1 g1 r1 => hl pn H0 B1 H1 σ (S.go g1) _ ((P.go (early_V (H0 := H0)) g1).bind fun l el P l' B2 H2 g2 r2 => hh pn H0 B2 H2 σ (S.go (g1.trans g2)) _ ((P.go (early_V (H0 := H0)) g2).bind fun h eh P h' B3 H3 g3 r3 => by
    cases r2
    cases r3
    cases e : x.rd with
    | ok d =>
      rw [e, R.bind_ok] at P
      exact slS g3.bh ((r1.rd e).go (g2.trans g3)) (P.go (early_V (H0 := H0)) g3)
    | err a b => exact (rd_noerr e).elim
    | bad => rw [e] at P; exact P.elim)))
theorem do_rev (ha : Does G E (relV G) ta ρ ra) : Does G E (relV G) (tRevL G.K ta) ρ (ra.bind fun x => x.rd.bind fun
    | .lst ds => .ok (ov (.lst ds.reverse))
    | _ => .bad) := fun pn H0 B H σ S Q P =>
  ha pn H0 B H σ S _ (P.bind fun x ex P v B1 H1 g1 r1 => by
    cases e : x.rd with
    | ok d =>
      rw [e, R.bind_ok] at P
      split at P <;> first | exact P.elim | skip
      obtain ⟨a, vs, rfl, h1, h2⟩ := (r1.rd e).lst g1.bh
      exact ⟨a, vs, rfl, sq_of h1, fun p hp => Post.new (P.go (early_V (H0 := H0)) g1) g1.bh hp (.lst h2.rev)⟩
    | err a b => exact (rd_noerr e).elim
    | bad => rw [e] at P; exact P.elim)
theorem do_cb {o : Cb} (h : Does G E (relR G) as ρ rs) : Does G E (relV G) (tCB (o.den G.K) as) ρ (rs.bind o.fn) := fun pn H0 B H σ S Q P =>
  h pn H0 B H σ S _ (P.bind fun ds eds P vs B1 H1 g1 r1 => o.ok (E σ) B1 H1 vs ds g1.bh r1 Q (P.go (early_V (H0 := H0)) g1))
theorem do_isi {T : String} (ha : Does G E (relV G) ta ρ ra) : Does G E (relV G) (tCB (rIsi G.K) (tCons ta (tCons (tC (.ty T)) tNil))) ρ (ra.bind fun x => x.rd.bind fun d => isiF T d) := fun pn H0 B H σ S Q P =>
  ha pn H0 B H σ S _ (P.bind fun x ex P v B1 H1 g1 r1 => by
    cases e : x.rd with
    | ok d =>
      rw [e, R.bind_ok] at P
      unfold isiF at P
      cases e1 : tyD d with
      | none => rw [e1] at P; exact P.elim
      | some t =>
        rw [e1] at P
        cases e2 : kitB t T with
        | none => simp only [R.ofO, R.bind_ok, e2] at P; exact P.elim
        | some k =>
          simp only [R.ofO, R.bind_ok, e2] at P
          exact ⟨v, .ty T, _, _, k, rfl, .ty T, (r1.rd e).tyx g1.bh e1, kit_ty e2, P _ B1 H1 g1 (.d (.bl k))⟩
    | err a b => exact (rd_noerr e).elim
    | bad => rw [e] at P; exact P.elim)
/-! tests -/
theorem do_tst (ha : Does G E (relV G) ta ρ ra) : Does G E relT (tTest ta) ρ (ra.bind RV.toB) := fun pn H0 B H σ S Q P =>
  ha pn H0 B H σ S _ (P.bind fun x ex P v B1 H1 g1 r1 => by
    cases e : x.toB with
    | ok k => rw [e] at P; exact ⟨k, toB_ok r1 e, P k B1 H1 g1 rfl⟩
    | err a b => exact (toB_noerr e).elim
    | bad => rw [e] at P; exact P.elim)
theorem do_tru (ha : Does G E (relV G) ta ρ ra) : Does G E relT (tTru G.K ta) ρ (ra.bind fun x => x.rd.bind truD) := fun pn H0 B H σ S Q P =>
  ha pn H0 B H σ S _ (P.bind fun x ex P v B1 H1 g1 r1 => by
    cases e : x.rd with
    | ok d =>
      rw [e, R.bind_ok] at P
      cases e2 : truD d with
      | ok k =>
        rw [e2] at P
        exact ⟨k, truS g1.bh (r1.rd e) e2, P k B1 H1 g1 rfl⟩
      | err a b =>
        exfalso
        unfold truD at e2
        split at e2 <;> first | (cases e2; done) | (split at e2 <;> cases e2)
      | bad => rw [e2] at P; exact P.elim
    | err a b => exact (rd_noerr e).elim
    | bad => rw [e] at P; exact P.elim)
theorem do_andT (ht : Does G E relT tt ρ rt) (hu : Does G E relT tu ρ ru) : Does G E relT (tAnd tt tu) ρ (rt.bind fun k => if k then ru else .ok false) := fun pn H0 B H σ S Q P =>
  ht pn H0 B H σ S _ (P.bind fun k ek P b B1 H1 g1 r1 => by
    cases r1
    cases k with
    | true => exact iteT (hu pn H0 B1 H1 σ (S.go g1) Q (P.go early_T g1))
    | false => exact iteF (P _ B1 H1 g1 rfl))
theorem do_orT (ht : Does G E relT tt ρ rt) (hu : Does G E relT tu ρ ru) : Does G E relT (tOr tt tu) ρ (rt.bind fun k => if k then .ok true else ru) := fun pn H0 B H σ S Q P =>
  ht pn H0 B H σ S _ (P.bind fun k ek P b B1 H1 g1 r1 => by
    cases r1
    cases k with
    | true => exact iteT (P _ B1 H1 g1 rfl)
    | false => exact iteF (hu pn H0 B1 H1 σ (S.go g1) Q (P.go early_T g1)))
theorem do_notT (ht : Does G E relT tt ρ rt) : Does G E relT (tNot tt) ρ (rt.bind fun k => .ok (!k)) := fun pn H0 B H σ S Q P =>
  ht pn H0 B H σ S _ (P.bind fun k ek P b B1 H1 g1 r1 => by
    cases r1
    exact P _ B1 H1 g1 rfl)
theorem do_yes : Does G E relT tYes ρ (.ok true) := fun pn H0 B H σ S Q P => P true B H (Go.refl S.ex) rfl
/-! calls -/
variable {ms : List Bool}
theorem do_call {f : List D → R RV} (h : Does G E (relM G ms) as ρ rs) : Does G E (relV G) (cCall (Pr G ms f) E as) ρ (rs.bind f) := fun pn H0 B H σ S Q P =>
  h pn H0 B H σ S _ (P.bind fun ds eds P vs B1 H1 g1 r1 => ⟨B1, ds, g1.bh, r1, P.go (early_V (H0 := H0)) g1⟩)
theorem do_meth {f : List D → R RV} {c : Nat} {m : Str} (ha : Does G E (relV G) ta ρ ra) (h : Does G E (relM G ms) as ρ rs) : Does G E (relV G) (cMeth (G.cm c) m (Pr G (false :: ms) f) E ta as) ρ (ra.bind fun
    | .sv (.fv (.d (.ins c' fs))) => if c' = c then (match fs.lookup m with | none => rs.bind fun ds => f (.ins c fs :: ds) | some _ => .bad) else .bad
    | _ => .bad) := fun pn H0 B H σ S Q P =>
  ha pn H0 B H σ S _ (P.bind fun x ex P v B1 H1 g1 r1 => by
    split at P <;> first | exact P.elim | skip
    rename_i c' fs
    by_cases e : c' = c
    · subst e
      rw [if_pos rfl] at P
      split at P <;> first | exact P.elim | skip
      rename_i hm
      have r2 := (RvOk.rd r1 (d := .ins c' fs) rfl).plain rfl
      cases r2 with
      | ins hb r =>
        refine ⟨_, _, _, rfl, g1.bh _ _ hb, r.lookN hm, ?_⟩
        refine h pn H0 B1 H1 σ (S.go g1) _ ((P.go (early_V (H0 := H0)) g1).bind fun ds eds P vs B2 H2 g2 r2 => ?_)
        exact ⟨B2, _, g2.bh, .d (Rep.mono g2.bb (.ins hb r)) r2, P.go (early_V (H0 := H0)) g2⟩
    · rw [if_neg e] at P
      exact P.elim)
theorem do_make {f : List D → R (List (Str × FV))} {c : Nat} (h : Does G E (relM G ms) as ρ rs) : Does G E (relV G) (cMake (G.cm c) (PrI G c ms f) E as) ρ (rs.bind fun ds => (f ds).bind fun fs => .ok (.sv (.obj false c fs))) := fun pn H0 B H σ S Q P =>
  h pn H0 B H σ S _ (P.bind fun ds eds P vs B1 H1 g1 r1 => by
    intro x dx nx nd ne
    have e1 : Ex H1 (upd (upd H1 dx (.own x)) x (.ins (G.cm c) dx [])) := fun a o e => by
      rw [upd_ne (ne_of_none e nx), upd_ne (ne_of_none e nd)]
      exact e
    have hm : ∀ {ms vs ds}, ArgsOk G B1 H1 ms vs ds → ArgsOk G B1 (upd (upd H1 dx (.own x)) x (.ins (G.cm c) dx [])) ms vs ds := fun q => by
      induction q with
      | nil => exact .nil
      | d h _ ih => exact .d h ih
      | b h1 h2 _ ih => exact .b (e1 _ _ h1) h2 ih
    refine ⟨B1, ds, x, dx, vs, rfl, upd_same, none_of_ex g1.bh nx, g1.bh.trans e1, hm r1, ?_⟩
    cases e : f ds with
    | ok fs =>
      rw [e] at P
      intro B2 H2 dy fv bs z a2 a5 a6 a7 nd'
      have kk : ∀ a o, H1 a = some o → H2 a = some o := fun a o q => z.kh a o (e1 a o q) fun m => ne_of_none q nx (List.mem_singleton.mp m)
      have g2 : Go B1 H1 B2 H2 := ⟨z.bb, a2, kk, fun a o q1 q2 => z.kb a o (e1 a o q1) (fun m => ne_of_none q1 nx (List.mem_singleton.mp m)) q2⟩
      refine ⟨rfl, P _ B2 H2 (g1.trans g2) (.sv rfl (.obj (fun z => nomatch z) (none_of_ex g1.hh nx) a5 a6 (a7.base fun a m => ?_) nd'))⟩
      have n1 := (a7.addr m).1
      have n2 := none_of_ex e1 n1
      exact none_of_ex g1.hh n2
    | err y g =>
      rw [e] at P
      have go : ∀ B2 H2, Off [x] B1 (upd (upd H1 dx (.own x)) x (.ins (G.cm c) dx [])) B2 H2 → Ex B2 H2 → Go B H B2 H2 := fun B2 H2 z a2 =>
        g1.trans ⟨z.bb, a2, fun a o q => z.kh a o (e1 a o q) fun m => ne_of_none q nx (List.mem_singleton.mp m), fun a o q1 q2 => z.kb a o (e1 a o q1) (fun m => ne_of_none q1 nx (List.mem_singleton.mp m)) q2⟩
      cases g with
      | none => exact fun B2 H2 z a2 => P B2 H2 (go B2 H2 z a2)
      | some p => exact fun B2 H2 dd v z a2 a3 a4 => P B2 H2 dd v (go B2 H2 z a2) a3 a4
    | bad => rw [e] at P; exact P.elim)
end
end Ci
end

section
set_option Elab.async false
set_option linter.all false
set_option maxRecDepth 100000
set_option maxHeartbeats 2000000
/-! ## what is walked, targets, comprehensions, lists that are lent -/
namespace Ci
open PySem PySem.Spec PyProof.Rows L2 Evl

def Steady (G : Gm) (J : It) (B1 Hx : Hp) (xs : List D) : Prop := ∀ i B H, Ex B1 B → Ex B H → Ex Hx H → (xs.length = i → J.stop i H) ∧ ∀ x, xs[i]? = some x → J.go i H ∧ ∀ v H', J.yld i H v H' → ∃ B', Go B H B' H' ∧ Rep G B' v x
def relI (G : Gm) : Hp → Hp → Hp → Hp → It → Bool × List D → Prop := fun H0 _ B1 H1 J xs => Steady G J B1 (if xs.1 then H0 else H1) xs.2
section
variable {G : Gm} {E : XE2} {ρ : En} {ta : TE} {ra : R RV} {i : Nat} {pn : Addr} {as : TA} {rs : R (List D)}
theorem early_I {H0 : Hp} : Early (relI G H0) := fun _ _ _ _ _ _ _ h => h
theorem steady_lst {B1 Hx : Hp} {a : Addr} {vs : List V} {xs : List D} (h : ∀ B H, Ex B1 B → Ex B H → Ex Hx H → H a = some (.lst vs)) (r : Reps G B1 vs xs) : Steady G (Itl G.K a) B1 Hx xs := fun i B2 H2 e1 e2 e3 => by
  have hq := sq_of (K := G.K) (h B2 H2 e1 e2 e3)
  refine ⟨fun hi => ⟨_, hq, by rw [r.len]; exact Nat.le_of_eq hi⟩, fun x hx => ?_⟩
  obtain ⟨w, h1, h2⟩ := r.get hx
  refine ⟨⟨_, w, hq, h1⟩, fun v H' ⟨e, f⟩ => ⟨B2, by rw [e]; exact Go.refl e2, ?_⟩⟩
  have e3 := Option.some.inj ((f _ hq).symm.trans h1)
  rw [e3]
  exact h2.mono e1
theorem steady_tup {B1 Hx : Hp} {a : Addr} {vs : List V} {xs : List D} (hb : SqT G.K B1 a vs) (r : Reps G B1 vs xs) : Steady G (Itt G.K a) B1 Hx xs := fun i B2 H2 e1 e2 _ => by
  have hq := ex_t e2 (ex_t e1 hb)
  refine ⟨fun hi => ⟨_, hq, by rw [r.len]; exact Nat.le_of_eq hi⟩, fun x hx => ?_⟩
  obtain ⟨w, h1, h2⟩ := r.get hx
  refine ⟨⟨_, w, hq, h1⟩, fun v H' ⟨e, f⟩ => ⟨B2, by rw [e]; exact Go.refl e2, ?_⟩⟩
  have e3 := Option.some.inj ((f _ hq).symm.trans h1)
  rw [e3]
  exact h2.mono e1
theorem RvOk.dat {Hi B H : Hp} {v : V} {d : D} (r : RvOk G Hi B H v (dv d)) : Rep G B v d := by
  generalize hx : dv d = x at r
  cases r with
  | vw _ _ => cases hx
  | sv nb q =>
    cases q with
    | fv q =>
      cases q with
      | d rr =>
        cases hx
        exact rr
      | own _ _ _ q =>
        cases hx
        cases q
    | obj _ _ _ _ _ _ => cases hx
    | brw _ _ => cases hx
    | nst _ _ _ _ _ _ _ => cases hx
theorem steady_str {B1 Hx : Hp} {s : Str} (hs : SOk s) : Steady G (Its s) B1 Hx (chD s) := fun i B2 H2 e1 e2 _ => by
  refine ⟨fun hi => by rw [chD_len] at hi; exact Nat.le_of_eq hi, fun x hx => ?_⟩
  obtain ⟨c, h1, rfl⟩ := chD_get hx
  refine ⟨(Array.getElem?_eq_some_iff.mp h1).1, fun v H' ⟨e, c', f1, f2⟩ => ⟨B2, by rw [e]; exact Go.refl e2, ?_⟩⟩
  rw [h1] at f1
  cases f1
  rw [f2]
  refine .str _ (SOk.one (sok_iff.mp hs c ?_))
  exact Array.mem_toList_iff.mpr (Array.mem_of_getElem? h1)
theorem do_seq (ha : Does G E (relV G) ta ρ ra) : Does G E (relI G) (iSeq G.K ta) ρ (ra.bind fun
    | .sv (.fv (.d (.lst ds))) => .ok (true, ds)
    | .sv (.fv (.d (.tup ds))) => .ok (true, ds)
    | .sv (.fv (.lst ds)) => .ok (true, ds)
    | .vw (.lst ds) => .ok (false, ds)
    | .sv (.fv (.d (.str s))) => .ok (true, chD s)
    | _ => .bad) := fun pn H0 B H σ S Q P => by
  cases hr : ra with
  | bad => rw [hr] at P; exact P.elim
  | err x f => rw [hr] at P; rw [hr] at ha; exact .inl (ha pn H0 B H σ S _ P)
  | ok x =>
    rw [hr] at P ha
    simp only [R.bind_ok] at P
    split at P <;> first | exact P.elim | skip
    · refine .inl (ha pn H0 B H σ S _ fun v B1 H1 g r => ?_)
      cases r.dat with
      | lst hb r => exact ⟨_, rfl, ⟨_, sq_of (g.bh _ _ hb)⟩, P _ B1 H1 g (steady_lst (fun B2 H2 e1 e2 _ => e2 _ _ (e1 _ _ hb)) r)⟩
    · refine .inr (.inl (ha pn H0 B H σ S _ fun v B1 H1 g r => ?_))
      cases (RvOk.rd r (d := .tup _) rfl).plain rfl with
      | tup hb r => exact ⟨_, rfl, ⟨_, ex_t g.bh hb⟩, P _ B1 H1 g (steady_tup hb r)⟩
    · refine .inl (ha pn H0 B H σ S _ fun v B1 H1 g r => ?_)
      cases r with
      | sv nb q =>
        cases q with
        | fv q =>
          generalize hx : FV.lst _ = x at q
          cases q with
          | d rr => cases hx
          | @own a o _ h0 hb hl q =>
            subst hx
            cases q with
            | lst q =>
              refine ⟨_, rfl, ⟨_, sq_of hl⟩, P _ (upd B1 a _) H1 ⟨g.bb.trans (Ex.new hb), upd_ex2 g.bh hl, g.hh, fun b u q1 q2 => ?_⟩ (steady_lst (fun B2 H2 e1 e2 _ => e2 _ _ (e1 _ _ upd_same)) (q.mono (Ex.new hb)))⟩
              rw [upd_ne (ne_of_none q1 h0)]
              exact g.fr b u q1 q2
    · refine .inl (ha pn H0 B H σ S _ fun v B1 H1 g r => ?_)
      cases r with
      | vw hl q =>
        cases q with
        | lst q => exact ⟨_, rfl, ⟨_, sq_of hl⟩, P _ B1 H1 g (steady_lst (fun B2 H2 _ _ e3 => e3 _ _ hl) q)⟩
    · rename_i s
      refine .inr (.inr (ha pn H0 B H σ S _ fun v B1 H1 g r => ?_))
      obtain ⟨rfl, hs⟩ := (RvOk.rd r (d := .str s) rfl).str
      exact ⟨s, rfl, P _ B1 H1 g (steady_str hs)⟩
theorem do_seqb : Does G E (relI G) (iSeq G.K (tVar i)) ρ (match ρ[i]? with
    | some (some (.brw ds)) => .ok (true, ds)
    | _ => .bad) := fun pn H0 B H σ S Q P => by
  split at P <;> first | exact P.elim | skip
  rename_i ds e
  obtain ⟨a, vs, h1, h2, h3⟩ := S.lent e
  exact .inl ⟨_, h1, a, rfl, ⟨_, sq_of (S.ex0 _ _ h2)⟩, P _ B H (Go.refl S.ex) (steady_lst (fun B2 H2 _ _ e3 => e3 _ _ h2) h3)⟩
theorem rng_len (lo : Int) (n : Nat) : (rng lo n).length = n := by
  unfold rng
  rw [List.length_map, List.length_range]
theorem rng_get {lo : Int} {n i : Nat} {x : D} (h : (rng lo n)[i]? = some x) : i < n ∧ x = .int (lo + (i : Int)) := by
  unfold rng at h
  rw [List.getElem?_map] at h
  by_cases hi : i < n
  · rw [List.getElem?_range hi] at h
    exact ⟨hi, (Option.some.inj h).symm⟩
  · rw [List.getElem?_eq_none (by rw [List.length_range]; omega)] at h
    cases h
theorem steady_rng {B1 Hx : Hp} {lo : Int} {n : Nat} : Steady G (Itr lo n) B1 Hx (rng lo n) := fun i B H e1 e2 _ => by
  refine ⟨fun hi => by rw [rng_len] at hi; exact Nat.le_of_eq hi, fun x hx => ?_⟩
  obtain ⟨hi, rfl⟩ := rng_get hx
  refine ⟨hi, fun v H' ⟨e, f⟩ => ⟨B, by rw [e]; exact Go.refl e2, ?_⟩⟩
  rw [f]
  exact .int _
theorem do_rng1 (h : Does G E (relA G) as ρ rs) : Does G E (relI G) (iRng1 as) ρ (rs.bind fun
    | [.int n] => if -(2 ^ 62) ≤ n ∧ n < 2 ^ 62 then .ok (true, rng 0 n.toNat) else .bad
    | _ => .bad) := fun pn H0 B H σ S Q P => h pn H0 B H σ S _ (P.bind fun ds eds P vs B1 H1 g1 r1 => by
  split at P <;> first | exact P.elim | skip
  rename_i n
  split at P <;> first | exact P.elim | skip
  rename_i c
  cases r1 with
  | cons r1 r2 =>
    cases r1
    cases r2
    exact ⟨n, rfl, c.1, c.2, P _ B1 H1 g1 steady_rng⟩)
theorem do_rng2 (h : Does G E (relA G) as ρ rs) : Does G E (relI G) (iRng2 as) ρ (rs.bind fun
    | [.int m, .int n] => if -(2 ^ 62) ≤ m ∧ m < 2 ^ 62 ∧ -(2 ^ 62) ≤ n ∧ n < 2 ^ 62 then .ok (true, rng m (n - m).toNat) else .bad
    | _ => .bad) := fun pn H0 B H σ S Q P => h pn H0 B H σ S _ (P.bind fun ds eds P vs B1 H1 g1 r1 => by
  split at P <;> first | exact P.elim | skip
  rename_i m n
  split at P <;> first | exact P.elim | skip
  rename_i c
  cases r1 with
  | cons r1 r2 =>
    cases r1
    cases r2 with
    | cons r3 r4 =>
      cases r3
      cases r4
      exact ⟨m, n, rfl, c, P _ B1 H1 g1 steady_rng⟩)
theorem rngD_get {lo : Int} {n i : Nat} {x : D} (h : (rngD lo n)[i]? = some x) : i < n ∧ x = .int (lo - (i : Int)) := by
  unfold rngD at h
  rw [List.getElem?_map] at h
  by_cases hi : i < n
  · rw [List.getElem?_range hi] at h
    exact ⟨hi, (Option.some.inj h).symm⟩
  · rw [List.getElem?_eq_none (by rw [List.length_range]; omega)] at h
    cases h
theorem steady_rngD {B1 Hx : Hp} {lo : Int} {n : Nat} : Steady G (Itc lo (-1) n) B1 Hx (rngD lo n) := fun i B H e1 e2 _ => by
  refine ⟨fun hi => by unfold rngD at hi; rw [List.length_map, List.length_range] at hi; exact Nat.le_of_eq hi, fun x hx => ?_⟩
  obtain ⟨hi, rfl⟩ := rngD_get hx
  refine ⟨hi, fun v H' ⟨e, f⟩ => ⟨B, by rw [e]; exact Go.refl e2, ?_⟩⟩
  rw [f, show lo + (i : Int) * (-1) = lo - (i : Int) by omega]
  exact .int _
theorem do_rng3 (h : Does G E (relA G) as ρ rs) : Does G E (relI G) (iRng3 as) ρ (rs.bind fun
    | [.int m, .int n, .int c] => if c = -1 ∧ -(2 ^ 62) ≤ m ∧ m < 2 ^ 62 ∧ -(2 ^ 62) ≤ n ∧ n < 2 ^ 62 then .ok (true, rngD m (m - n).toNat) else .bad
    | _ => .bad) := fun pn H0 B H σ S Q P => h pn H0 B H σ S _ (P.bind fun ds eds P vs B1 H1 g1 r1 => by
  split at P <;> first | exact P.elim | skip
  rename_i m n c
  split at P <;> first | exact P.elim | skip
  rename_i cc
  obtain ⟨rfl, c1, c2, c3, c4⟩ := cc
  cases r1 with
  | cons r1 r2 =>
    cases r1
    cases r2 with
    | cons r3 r4 =>
      cases r3
      cases r4 with
      | cons r5 r6 =>
        cases r5
        cases r6
        exact ⟨m, n, -1, _, rfl, RgC.neg c1 c2 c3 c4, P _ B1 H1 g1 steady_rngD⟩)
theorem zipD_get : ∀ {xs ys : List D} {i : Nat} {z : D}, (zipD xs ys)[i]? = some z → ∃ x y, xs[i]? = some x ∧ ys[i]? = some y ∧ z = .tup [x, y]
  | [], ys, i, z, h => by
    unfold zipD at h
    cases h
  | x :: xs, [], i, z, h => by
    unfold zipD at h
    cases h
  | x :: xs, y :: ys, 0, z, h => ⟨x, y, rfl, rfl, (Option.some.inj h).symm⟩
  | x :: xs, y :: ys, i + 1, z, h => zipD_get (xs := xs) (ys := ys) (i := i) h
theorem zipD_end : ∀ {xs ys : List D} {i : Nat}, (zipD xs ys).length ≤ i → xs.length ≤ i ∨ ys.length ≤ i
  | [], ys, i, _ => .inl (Nat.zero_le _)
  | x :: xs, [], i, _ => .inr (Nat.zero_le _)
  | x :: xs, y :: ys, 0, h => absurd h (Nat.not_succ_le_zero _)
  | x :: xs, y :: ys, i + 1, h => (zipD_end (xs := xs) (ys := ys) (i := i) (Nat.le_of_succ_le_succ h)).imp Nat.succ_le_succ Nat.succ_le_succ
theorem steady_zip {B1 Hx : Hp} {a b : Addr} {us vs : List V} {xs ys : List D} (ha : B1 a = some (.lst us)) (hb : B1 b = some (.lst vs)) (r1 : Reps G B1 us xs) (r2 : Reps G B1 vs ys) : Steady G (Itz G.K a b) B1 Hx (zipD xs ys) := fun i B2 H2 e1 e2 _ => by
  have qa := sq_of (K := G.K) (e2 _ _ (e1 _ _ ha))
  have qb := sq_of (K := G.K) (e2 _ _ (e1 _ _ hb))
  refine ⟨fun hi => ⟨us, vs, qa, qb, by rw [r1.len, r2.len]; exact zipD_end (Nat.le_of_eq hi)⟩, fun z hz => ?_⟩
  obtain ⟨x, y, hx, hy, rfl⟩ := zipD_get hz
  obtain ⟨u, u1, u2⟩ := r1.get hx
  obtain ⟨v, v1, v2⟩ := r2.get hy
  refine ⟨⟨us, vs, u, v, qa, qb, u1, v1⟩, fun w H' ⟨T, u', v', ew, hT, eH, f1, f2⟩ => ?_⟩
  have h1 := Option.some.inj ((f1 _ qa).symm.trans u1)
  have h2 := Option.some.inj ((f2 _ qb).symm.trans v1)
  subst h1 h2 ew eH
  refine ⟨upd B2 T (.tup [u', v']), Go.new e2 hT, .tup (st_of upd_same) ?_⟩
  have ex := Ex.new (o := .tup [u', v']) (none_of_ex e2 hT)
  exact .cons ((u2.mono e1).mono ex) (.cons ((v2.mono e1).mono ex) .nil)
theorem steady_zipT {B1 Hx : Hp} {a b : Addr} {us vs : List V} {xs ys : List D} (ha : SqT G.K B1 a us) (hb : SqT G.K B1 b vs) (r1 : Reps G B1 us xs) (r2 : Reps G B1 vs ys) : Steady G (RZ.ItzT G.K a b) B1 Hx (zipD xs ys) := fun i B2 H2 e1 e2 _ => by
  have qa : SqT G.K H2 a us := ex_t e2 (ex_t e1 ha)
  have qb : SqT G.K H2 b vs := ex_t e2 (ex_t e1 hb)
  refine ⟨fun hi => ⟨us, vs, qa, qb, by rw [r1.len, r2.len]; exact zipD_end (Nat.le_of_eq hi)⟩, fun z hz => ?_⟩
  obtain ⟨x, y, hx, hy, rfl⟩ := zipD_get hz
  obtain ⟨u, u1, u2⟩ := r1.get hx
  obtain ⟨v, v1, v2⟩ := r2.get hy
  refine ⟨⟨us, vs, u, v, qa, qb, u1, v1⟩, fun w H' ⟨T, u', v', ew, hT, eH, f1, f2⟩ => ?_⟩
  have h1 := Option.some.inj ((f1 _ qa).symm.trans u1)
  have h2 := Option.some.inj ((f2 _ qb).symm.trans v1)
  subst h1 h2 ew eH
  refine ⟨upd B2 T (.tup [u', v']), Go.new e2 hT, .tup (st_of upd_same) ?_⟩
  have ex := Ex.new (o := .tup [u', v']) (none_of_ex e2 hT)
  exact .cons ((u2.mono e1).mono ex) (.cons ((v2.mono e1).mono ex) .nil)
theorem do_zip (h : Does G E (relA G) as ρ rs) : Does G E (relI G) (RZ.iZipA G.K as) ρ (rs.bind fun
    | [.lst xs, .lst ys] => .ok (true, zipD xs ys)
    | [.tup xs, .tup ys] => .ok (true, zipD xs ys)
    | _ => .bad) := fun pn H0 B H σ S Q P => h pn H0 B H σ S _ (P.bind fun ds eds P vs B1 H1 g1 r1 => by
  split at P <;> first | exact P.elim | skip
  · cases r1 with
    | cons r1 r2 =>
      cases r1 with
      | lst ha ra =>
        cases r2 with
        | cons r3 r4 =>
          cases r3 with
          | lst hb rb =>
            cases r4
            exact ⟨_, _, _, _, rfl, .inl ⟨sq_of (g1.bh _ _ ha), sq_of (g1.bh _ _ hb), P _ B1 H1 g1 (steady_zip ha hb ra rb)⟩⟩
  · cases r1 with
    | cons r1 r2 =>
      cases r1 with
      | tup ha ra =>
        cases r2 with
        | cons r3 r4 =>
          cases r3 with
          | tup hb rb =>
            cases r4
            exact ⟨_, _, _, _, rfl, .inr ⟨ex_t g1.bh ha, ex_t g1.bh hb, P _ B1 H1 g1 (steady_zipT ha hb ra rb)⟩⟩)
theorem enD_get : ∀ {k : Int} {xs : List D} {i : Nat} {z : D}, (enD k xs)[i]? = some z → ∃ x, xs[i]? = some x ∧ z = .tup [.int (k + (i : Int)), x]
  | k, [], i, z, h => by
    unfold enD at h
    cases h
  | k, x :: xs, 0, z, h => ⟨x, rfl, by rw [← Option.some.inj h]; show D.tup [.int k, x] = _; rw [show k + ((0 : Nat) : Int) = k by omega]⟩
  | k, x :: xs, i + 1, z, h => by
    obtain ⟨y, h1, h2⟩ := enD_get (k := k + 1) (xs := xs) (i := i) h
    exact ⟨y, h1, by rw [h2, show k + 1 + (i : Int) = k + ((i + 1 : Nat) : Int) by omega]⟩
theorem enD_len : ∀ {k : Int} {xs : List D}, (enD k xs).length = xs.length
  | _, [] => rfl
  | k, x :: xs => congrArg Nat.succ (enD_len (k := k + 1) (xs := xs))
theorem steady_enum {S : Hp → List V → Prop} {k : Int} {B1 Hx : Hp} {vs : List V} {xs : List D} (hS : ∀ B H, Ex B1 B → Ex B H → S H vs) (r : Reps G B1 vs xs) : Steady G (ItE S k) B1 Hx (enD k xs) := fun i B2 H2 e1 e2 _ => by
  have q := hS B2 H2 e1 e2
  refine ⟨fun hi => ⟨vs, q, by rw [r.len, ← enD_len (k := k)]; exact hi⟩, fun z hz => ?_⟩
  obtain ⟨x, hx, rfl⟩ := enD_get hz
  obtain ⟨u, u1, u2⟩ := r.get hx
  refine ⟨⟨vs, u, q, u1⟩, fun w H' ⟨T, u', ew, hT, eH, f⟩ => ?_⟩
  have h1 := Option.some.inj ((f _ q).symm.trans u1)
  subst h1 ew eH
  refine ⟨upd B2 T (.tup [.int (k + (i : Int)), u']), Go.new e2 hT, .tup (st_of upd_same) ?_⟩
  have ex := Ex.new (o := .tup [.int (k + (i : Int)), u']) (none_of_ex e2 hT)
  exact .cons (.int _) (.cons ((u2.mono e1).mono ex) .nil)
theorem do_enum (h : Does G E (relA G) as ρ rs) : Does G E (relI G) (iEnumA G.K as) ρ (rs.bind fun
    | [.lst xs] => .ok (true, enD 0 xs)
    | [.tup xs] => .ok (true, enD 0 xs)
    | _ => .bad) := fun pn H0 B H σ S Q P => h pn H0 B H σ S _ (P.bind fun ds eds P vs B1 H1 g1 r1 => by
  split at P <;> first | exact P.elim | skip
  · cases r1 with
    | cons r1 r2 =>
      cases r1 with
      | lst ha ra =>
        cases r2
        exact ⟨_, _, rfl, .inl ⟨sq_of (g1.bh _ _ ha), P _ B1 H1 g1 (steady_enum (fun B H e1 e2 => sq_of (e2 _ _ (e1 _ _ ha))) ra)⟩⟩
  · cases r1 with
    | cons r1 r2 =>
      cases r1 with
      | tup ha ra =>
        cases r2
        exact ⟨_, _, rfl, .inr ⟨ex_t g1.bh ha, P _ B1 H1 g1 (steady_enum (fun B H e1 e2 => ex_t e2 (ex_t e1 ha)) ra)⟩⟩)
theorem do_enumK {ks : TA} {rk : R (List D)} (h : Does G E (relA G) as ρ rs) (h2 : Does G E (relA G) ks ρ rk) : Does G E (relI G) (iEnumK G.K as ks) ρ (rs.bind fun xs => rk.bind fun ks => enumKF xs ks) := fun pn H0 B H σ S Q P => h pn H0 B H σ S _ (P.bind fun ds eds P vs B1 H1 g1 r1 =>
  h2 pn H0 B1 H1 σ (S.go g1) _ ((P.go early_I g1).bind fun es ees P ws B2 H2 g2 r2 => by
  replace P := P.go (early_I (H0 := H0)) g2
  obtain ⟨xs, k, rfl, rfl⟩ : ∃ xs k, ds = [.lst xs] ∧ es = [.int k] := by
    rcases ds with _ | ⟨d, _ | ⟨d2, l⟩⟩
    · exact P.elim
    · cases d with
      | lst xs =>
        rcases es with _ | ⟨d, l⟩
        · exact P.elim
        · cases d with
          | int k =>
            cases l with
            | nil => exact ⟨xs, k, rfl, rfl⟩
            | cons _ _ => exact P.elim
          | _ => exact P.elim
      | _ => exact P.elim
    · cases d <;> exact P.elim
  have P : Post G (E σ) (relI G H0) B2 H2 (if -(2 ^ 62) ≤ k ∧ k < 2 ^ 62 then .ok (true, enD k xs) else .bad) Q := P
  split at P <;> first | exact P.elim | skip
  rename_i c
  cases r1 with
  | cons r1 q1 =>
    cases r1 with
    | lst ha ra =>
      cases q1
      cases r2 with
      | cons r2 q2 =>
        cases r2
        cases q2
        exact ⟨_, _, k, rfl, rfl, by omega, by omega, sq_of (g2.bh _ _ (g2.bb _ _ ha)), P _ B2 H2 (Go.refl g2.bh) (steady_enum (fun B H e1 e2 => sq_of (e2 _ _ (e1 _ _ (g2.bb _ _ ha)))) (ra.mono g2.bb))⟩))
theorem do_rngv {te : TE} {r : R RV} (h : Does G E (relV G) te ρ r) : Does G E (relI G) (iRngV te) ρ (r.bind fun x => x.rd.bind fun
    | .rng lo hi => if -(2 ^ 62) ≤ lo ∧ lo < 2 ^ 62 ∧ -(2 ^ 62) ≤ hi ∧ hi < 2 ^ 62 then .ok (true, rng lo (hi - lo).toNat) else .bad
    | _ => .bad) := fun pn H0 B H σ S Q P => h pn H0 B H σ S _ (P.bind fun x ex P v B1 H1 g1 r1 => by
  cases e : x.rd with
  | err a b => exact (rd_noerr e).elim
  | bad => rw [e] at P; exact P.elim
  | ok d =>
    rw [e, R.bind_ok] at P
    split at P <;> first | exact P.elim | skip
    rename_i lo hi
    split at P <;> first | exact P.elim | skip
    rename_i c
    obtain ⟨a, rfl, e1⟩ := (r1.rd e).rng g1.bh
    exact ⟨a, lo, hi, rfl, e1, c, P _ B1 H1 g1 steady_rng⟩)
/-! ### targets -/
def TgS (G : Gm) (g : TG) (js : List Nat) (x : D) (ρ : En) (r : R En) : Prop := ∀ ρ', r = .ok ρ' → ∀ pn H0 B H σ v, Slots G pn H0 B H σ ρ → Rep G B v x → ∀ Q : L2.St → Hp → Prop, (∀ σ', Slots G pn H0 B H σ' ρ' → σ'.length = σ.length → (∀ i, i ∉ js → σ'[i]? = σ[i]?) → (∀ B2 H2, Ex B B2 → Slots G pn H0 B2 H2 σ ρ → Slots G pn H0 B2 H2 σ' ρ') → Q σ' H) → g v σ H Q
def TgsS (G : Gm) (g : TGs) (js : List Nat) (xs : List D) (ρ : En) (r : R En) : Prop := ∀ ρ', r = .ok ρ' → ∀ pn H0 B H σ vs, Slots G pn H0 B H σ ρ → Reps G B vs xs → ∀ Q : L2.St → Hp → Prop, (∀ σ', Slots G pn H0 B H σ' ρ' → σ'.length = σ.length → (∀ i, i ∉ js → σ'[i]? = σ[i]?) → (∀ B2 H2, Ex B B2 → Slots G pn H0 B2 H2 σ ρ → Slots G pn H0 B2 H2 σ' ρ') → Q σ' H) → g vs σ H Q
theorem tg_name {x : D} : TgS G (gName i) [i] x ρ (.ok (ρ.set i (some (.d x)))) := fun ρ' e pn H0 B H σ v S r Q q => by
  cases e
  exact q _ (S.setD r) (List.length_set ..) (fun j hj => List.getElem?_set_ne (fun e => hj (by rw [e]; exact List.mem_singleton.mpr rfl))) fun B2 H2 ex S2 => S2.setD (r.mono ex)
theorem tgs_nil {xs : List D} : TgsS G gNil [] xs ρ (match xs with | [] => .ok ρ | _ => .bad) := fun ρ' e pn H0 B H σ vs S r Q q => by
  split at e <;> cases e
  cases r
  exact ⟨rfl, q σ S rfl (fun _ _ => rfl) fun _ _ _ s => s⟩
theorem tgs_cons {g : TG} {gs : TGs} {js ks : List Nat} {xs : List D} {fg : D → En → R En} {fgs : List D → En → R En} (h1 : ∀ x ρ, TgS G g js x ρ (fg x ρ)) (h2 : ∀ xs ρ, TgsS G gs ks xs ρ (fgs xs ρ)) :
    TgsS G (gCons g gs) (js ++ ks) xs ρ (match xs with | x :: r => (fg x ρ).bind fun ρ' => fgs r ρ' | [] => .bad) := fun ρ' e pn H0 B H σ vs S r Q q => by
  cases r with
  | nil => cases e
  | cons r1 r2 =>
    rename_i v vs x xs
    cases e1 : fg x ρ with
    | ok ρ1 =>
      simp only [e1, R.bind_ok] at e
      refine ⟨_, _, rfl, ?_⟩
      refine h1 x ρ ρ1 e1 pn H0 B H σ _ S r1 _ fun σ1 S1 l1 k1 m1 => ?_
      exact h2 xs ρ1 ρ' e pn H0 B H σ1 _ S1 r2 _ fun σ2 S2 l2 k2 m2 => q σ2 S2 (l2.trans l1) (fun i hi => (k2 i fun z => hi (List.mem_append_right _ z)).trans (k1 i fun z => hi (List.mem_append_left _ z))) fun B2 H2 ex s => m2 B2 H2 ex (m1 B2 H2 ex s)
    | err a b => simp only [e1, R.bind_err] at e; cases e
    | bad => simp only [e1, R.bind_bad] at e; cases e
theorem tg_tup {gs : TGs} {n : Nat} {js : List Nat} {x : D} {fgs : List D → En → R En} (h : ∀ xs ρ, TgsS G gs js xs ρ (fgs xs ρ)) : TgS G (gTup G.K n gs) js x ρ (match x with | .tup ds => if ds.length = n then fgs ds ρ else .bad | _ => .bad) := fun ρ' e pn H0 B H σ v S r Q q => by
  split at e <;> first | (cases e; done) | skip
  split at e <;> first | (cases e; done) | skip
  rename_i hn
  cases r with
  | tup s r => exact ⟨_, _, rfl, ex_t S.ex s, r.len.trans hn, h _ ρ ρ' e pn H0 B H σ _ S r Q q⟩
theorem tg_lst {gs : TGs} {n : Nat} {js : List Nat} {x : D} {fgs : List D → En → R En} (h : ∀ xs ρ, TgsS G gs js xs ρ (fgs xs ρ)) : TgS G (gLst G.K n gs) js x ρ (match x with | .lst ds => if ds.length = n then fgs ds ρ else .bad | _ => .bad) := fun ρ' e pn H0 B H σ v S r Q q => by
  split at e <;> first | (cases e; done) | skip
  split at e <;> first | (cases e; done) | skip
  rename_i hn
  cases r with
  | lst s r => exact ⟨_, _, rfl, sq_of (S.ex _ _ s), r.len.trans hn, h _ ρ ρ' e pn H0 B H σ _ S r Q q⟩
/-! ### comprehensions -/
theorem wipeE_length (ρ : En) : ∀ vs : List Nat, (wipeE ρ vs).length = ρ.length
  | [] => rfl
  | v :: vs => by unfold wipeE; rw [List.length_set, wipeE_length ρ vs]
theorem wipe_get {σ : L2.St} {i : Nat} : ∀ {vs : List Nat}, i ∉ vs → (wipe σ vs)[i]? = σ[i]?
  | [], _ => rfl
  | v :: vs, h => by
    unfold wipe
    rw [List.getElem?_set_ne (fun e => h (by rw [e]; exact List.mem_cons_self)), wipe_get fun z => h (List.mem_cons_of_mem _ z)]
theorem wipe_in {σ : L2.St} {i : Nat} : ∀ {vs : List Nat}, i ∈ vs → i < σ.length → (wipe σ vs)[i]? = some none
  | [], h, _ => by cases h
  | v :: vs, h, hl => by
    unfold wipe
    by_cases e : v = i
    · subst e
      rw [List.getElem?_set_self (by rw [wipe_length]; exact hl)]
    · rw [List.getElem?_set_ne e]
      exact wipe_in ((List.mem_cons.mp h).resolve_left fun z => e z.symm) hl
theorem wipe_same {σ σ' : L2.St} {vs : List Nat} (hl : σ'.length = σ.length) (h : ∀ i, i ∉ vs → σ'[i]? = σ[i]?) : wipe σ' vs = wipe σ vs := by
  apply List.ext_getElem?
  intro i
  by_cases c : i ∈ vs
  · by_cases hi : i < σ.length
    · rw [wipe_in c hi, wipe_in c (by rw [hl]; exact hi)]
    · rw [List.getElem?_eq_none (by rw [wipe_length]; omega), List.getElem?_eq_none (by rw [wipe_length]; omega)]
  · rw [wipe_get c, wipe_get c, h i c]
theorem wipeE_some {s : SV} {i : Nat} : ∀ {vs : List Nat}, (wipeE ρ vs)[i]? = some (some s) → ρ[i]? = some (some s) ∧ i ∉ vs
  | [], h => ⟨h, by simp⟩
  | v :: vs, h => by
    unfold wipeE at h
    by_cases hi : v = i
    · subst hi
      by_cases hv : v < (wipeE ρ vs).length
      · rw [List.getElem?_set_self hv] at h
        cases h
      · rw [List.getElem?_eq_none (by rw [List.length_set]; omega)] at h
        cases h
    · rw [List.getElem?_set_ne hi] at h
      obtain ⟨h1, h2⟩ := wipeE_some h
      exact ⟨h1, fun z => (List.mem_cons.mp z).elim (fun e => hi e.symm) h2⟩
theorem Slots.wipe {H0 B H : Hp} {σ : L2.St} (S : Slots G pn H0 B H σ ρ) (vs : List Nat) : Slots G pn H0 B H (L2.wipe σ vs) (wipeE ρ vs) := by
  obtain ⟨ow, S⟩ := S
  refine ⟨ow, by rw [wipe_length, wipeE_length]; exact S.len, S.ex0, S.ex, fun i s h => ?_, fun i j si sj a h1 h2 => ?_⟩
  · obtain ⟨h1, h2⟩ := wipeE_some h
    obtain ⟨v, h3, h4⟩ := S.ok i s h1
    exact ⟨v, by rw [wipe_get h2]; exact h3, h4⟩
  · obtain ⟨k1, n1⟩ := wipeE_some h1
    obtain ⟨k2, n2⟩ := wipeE_some h2
    exact S.ap i j si sj a k1 k2
/-- only the slots' names for what is forgotten -/
theorem Slots.kill {H0 B H : Hp} {σ : L2.St} (S : Slots G pn H0 B H σ ρ) : ∀ vs : List Nat, Slots G pn H0 B H σ (wipeE ρ vs)
  | [] => S
  | v :: vs => (Slots.kill S vs).drop v
theorem lcF_ok {step : D → R (Option D)} : ∀ {xs ds : List D}, lcF step xs = .ok ds → ∃ os : List (Option D), os.length = xs.length ∧ (∀ (i : Nat) (x : D), xs[i]? = some x → ∃ o, os[i]? = some o ∧ step x = .ok o) ∧ ds = os.filterMap id
  | [], ds, h => by
    cases h
    exact ⟨[], rfl, fun i x h => by simp at h, rfl⟩
  | x :: r, ds, h => by
    unfold lcF at h
    cases e : step x with
    | ok o =>
      rw [e, R.bind_ok] at h
      cases e2 : lcF step r with
      | ok es =>
        rw [e2, R.bind_ok] at h
        cases h
        obtain ⟨os, h1, h2, h3⟩ := lcF_ok e2
        refine ⟨o :: os, by rw [List.length_cons, List.length_cons, h1], fun i y hy => ?_, ?_⟩
        · cases i with
          | zero =>
            cases (Option.some.inj hy)
            exact ⟨o, rfl, e⟩
          | succ i => exact h2 i y hy
        · rw [h3]
          cases o <;> rfl
      | err a b => rw [e2] at h; cases h
      | bad => rw [e2] at h; cases h
    | err a b => rw [e] at h; cases h
    | bad => rw [e] at h; cases h
theorem quiet_ok {α : Type} {r : R α} {a : α} (h : r.quiet = .ok a) : r = .ok a := by
  cases r <;> first | exact h | cases h
theorem lcF_noerr {step : D → R (Option D)} (hq : ∀ x a b, step x ≠ .err a b) : ∀ {xs : List D} {a : Nat} {b : Option (Str × D)}, lcF step xs ≠ .err a b
  | [], a, b => fun h => by cases h
  | x :: r, a, b => fun h => by
    unfold lcF at h
    cases e : step x with
    | ok o =>
      rw [e, R.bind_ok] at h
      cases e2 : lcF step r with
      | ok es => rw [e2] at h; cases h
      | err a b => exact lcF_noerr hq e2
      | bad => rw [e2] at h; cases h
    | err a b => exact hq _ _ _ e
    | bad => rw [e] at h; cases h
theorem do_lc {wi : TI} {ri : R (Bool × List D)} {g : TG} {js vs : List Nat} {tt : TT} {te : TE} {fg : D → En → R En} {ft : En → R Bool} {fe : En → R RV} (hi : Does G E (relI G) wi ρ ri) (hg : ∀ x ρ, TgS G g js x ρ (fg x ρ)) (hjs : ∀ j, j ∈ js → j ∈ vs)
    (ht : ∀ ρ, Does G E0 relT tt ρ (ft ρ)) (he : ∀ ρ, Does G E0 (relV G) te ρ (fe ρ)) :
    Does G E (relV G) (tLc wi g tt te vs) ρ (ri.bind fun xs => if xs.2.length ≤ 1000000 then (lcF (fun x => ((fg x (wipeE ρ vs)).bind fun ρ2 => (ft ρ2).bind fun k => if k then (fe ρ2).bind fun y => y.toD.bind fun d => .ok (some d) else .ok none).quiet) xs.2).bind fun ds => .ok (ov (.lst ds)) else .bad) := fun pn H0 B H σ S Q P =>
  hi pn H0 B H σ S _ (P.bind fun xs exs P J B1 H1 g1 st => by
    by_cases hz : xs.2.length ≤ 1000000
    rotate_left
    · rw [if_neg hz] at P
      exact P.elim
    rw [if_pos hz] at P
    cases hl : lcF (fun x => ((fg x (wipeE ρ vs)).bind fun ρ2 => (ft ρ2).bind fun k => if k then (fe ρ2).bind fun y => y.toD.bind fun d => .ok (some d) else .ok none).quiet) xs.2 with
    | bad => rw [hl] at P; exact P.elim
    | err a b =>
      exfalso
      refine lcF_noerr (fun x a b h => ?_) hl
      generalize ((fg x (wipeE ρ vs)).bind fun ρ2 => (ft ρ2).bind fun k => if k then (fe ρ2).bind fun y => y.toD.bind fun d => R.ok (some d) else R.ok none) = z at h
      cases z <;> cases h
    | ok ds =>
      rw [hl, R.bind_ok] at P
      obtain ⟨os, l1, l2, l3⟩ := lcF_ok hl
      obtain ⟨fl, xs⟩ := xs
      simp only at hz l1 l2 st
      intro Dl hD
      have S1 := (S.go g1).wipe vs
      have hB : B1 Dl = none := none_of_ex g1.bh hD
      have hH : H Dl = none := none_of_ex g1.hh hD
      refine ⟨fun i m H' => m = xs.length - i ∧ i ≤ xs.length ∧ ∃ B' us, Go B H B' H' ∧ Ex B1 B' ∧ Go B1 H1 B' H' ∧ B' Dl = none ∧ H' Dl = some (.lst us) ∧ Reps G B' us ((os.take i).filterMap id),
        ⟨_, rfl, Nat.zero_le _, B1, [], g1.trans (Go.newO g1.bh hD), Ex.refl _, Go.newO g1.bh hD, hB, upd_same, .nil⟩, ?_⟩
      rintro i m H' ⟨rfl, hi, B', us, g2, e1, g1', hn, hl, rs⟩
      have exs : Ex (if fl then H0 else H1) H' := by
        cases fl with
        | true => exact S.ex0.trans g2.hh
        | false => exact g1'.hh
      by_cases hlt : i < xs.length
      · obtain ⟨hgo, hy⟩ := (st i B' H' e1 g2.bh exs).2 xs[i] (List.getElem?_eq_getElem hlt)
        obtain ⟨o, ho, hst⟩ := l2 i _ (List.getElem?_eq_getElem hlt)
        have hst := quiet_ok hst
        have htake : (os.take (i + 1)).filterMap id = (os.take i).filterMap id ++ o.toList := by
          rw [List.take_add_one, ho, List.filterMap_append]
          clear hst ho
          cases o <;> rfl
        cases e2 : fg xs[i] (wipeE ρ vs) with
        | err a b => rw [e2] at hst; cases hst
        | bad => rw [e2] at hst; cases hst
        | ok ρ2 =>
        rw [e2, R.bind_ok] at hst
        cases e3 : ft ρ2 with
        | err a b => rw [e3] at hst; cases hst
        | bad => rw [e3] at hst; cases hst
        | ok k =>
        rw [e3, R.bind_ok] at hst
        refine .inr ⟨hgo, fun H2 => ∃ B' us, Go B H B' H2 ∧ Ex B1 B' ∧ Go B1 H1 B' H2 ∧ B' Dl = none ∧ H2 Dl = some (.lst us) ∧ Reps G B' us ((os.take (i + 1)).filterMap id), fun H2 h => ⟨_, by omega, rfl, hlt, h⟩, fun v H2 hv => ?_⟩
        obtain ⟨B2, g3, rv⟩ := hy v H2 hv
        refine hg _ _ ρ2 e2 pn H0 B2 H2 _ v (S1.go (g1'.trans g3)) rv _ fun σ3 S3 l3 e4 _ => ?_
        refine ⟨wipe_same (l3.trans (wipe_length _ _)) fun j hj => (e4 j fun z => hj (hjs j z)).trans (wipe_get hj), ?_⟩
        refine ht ρ2 pn H0 B2 H2 σ3 S3 _ ?_
        rw [e3]
        intro b B3 H3 g4 hb
        cases hb
        have g5 := g3.trans g4
        cases k with
        | true =>
          refine iteT ?_
          simp only [if_true] at hst
          cases e5 : fe ρ2 with
          | err a b => rw [e5] at hst; cases hst
          | bad => rw [e5] at hst; cases hst
          | ok y =>
          rw [e5, R.bind_ok] at hst
          cases e6 : y.toD with
          | err a b => exact (toD_noerr e6).elim
          | bad => rw [e6] at hst; cases hst
          | ok d =>
          rw [e6, R.bind_ok] at hst
          cases hst
          refine he ρ2 pn H0 B3 H3 σ3 (S3.go g4) _ ?_
          rw [e5]
          intro w B4 H4 g6 ry
          cases y with
          | vw q => cases e6
          | sv s =>
          cases e6
          obtain ⟨B5, a1, a2, a3, a4⟩ := ry.toD g6.bh
          have g6 : Go B3 H3 B5 H4 := ⟨g6.bb.trans a2, a3, g6.hh, fun a o q1 q2 => a4 a o q1 (g6.fr a o q1 q2)⟩
          have g7 := g5.trans g6
          have hl4 := g7.hh _ _ hl
          have hz4 : us.length < sizeLine := by
            rw [rs.len]
            have h1 := List.length_filterMap_le id (os.take i)
            rw [List.length_take] at h1
            refine Nat.lt_of_le_of_lt h1 (Nat.lt_of_le_of_lt (Nat.min_le_left _ _) ?_)
            exact Nat.lt_of_lt_of_le (Nat.lt_of_lt_of_le hlt hz) (by decide)
          have hn4 : B5 Dl = none := g7.fr _ _ hl hn
          have exU : Ex B5 (upd H4 Dl (.lst (us ++ [w]))) := fun a u q => by rw [upd_ne (ne_of_none q hn4)]; exact g7.bh a u q
          have hhU : ∀ {Hx : Hp}, Ex Hx H4 → Hx Dl = none → Ex Hx (upd H4 Dl (.lst (us ++ [w]))) := fun ex hx a u q => by rw [upd_ne (ne_of_none q hx)]; exact ex a u q
          refine ⟨us, hl4, hz4, B5, us ++ [w], ?_, e1.trans g7.bb, ?_, hn4, upd_same, ?_⟩
          · have gg := g2.trans g7
            exact ⟨gg.bb, exU, hhU gg.hh hH, gg.fr⟩
          · have gg := g1'.trans g7
            exact ⟨gg.bb, exU, hhU gg.hh hD, gg.fr⟩
          · rw [htake]
            exact (rs.mono g7.bb).app (.cons a1 .nil)
        | false =>
          refine iteF ?_
          simp only [Bool.false_eq_true, if_false] at hst
          cases hst
          refine ⟨B3, us, g2.trans g5, e1.trans g5.bb, g1'.trans g5, g5.fr _ _ hl hn, g5.hh _ _ hl, ?_⟩
          rw [htake]
          show Reps G B3 us (_ ++ [])
          rw [List.append_nil]
          exact rs.mono g5.bb
      · refine .inl ⟨(st i B' H' e1 g2.bh exs).1 (by show xs.length = i; omega), ?_⟩
        have hil : i = xs.length := by omega
        subst hil
        rw [← l1, List.take_length, ← l3] at rs
        exact P _ B' H' g2 (.new hH hn hl (.lst rs)))
/-! two fors -/
theorem lcA_ok {step : D → R (List D)} : ∀ {xs ds : List D}, lcA step xs = .ok ds → ∃ os : List (List D), os.length = xs.length ∧ (∀ (i : Nat) (x : D), xs[i]? = some x → ∃ o, os[i]? = some o ∧ step x = .ok o) ∧ ds = os.flatten
  | [], ds, h => by
    cases h
    exact ⟨[], rfl, fun i x h => by simp at h, rfl⟩
  | x :: r, ds, h => by
    unfold lcA at h
    cases e : step x with
    | err a b => rw [e] at h; cases h
    | bad => rw [e] at h; cases h
    | ok o =>
      cases e2 : lcA step r with
      | err a b => rw [e, R.bind_ok, e2] at h; cases h
      | bad => rw [e, R.bind_ok, e2] at h; cases h
      | ok es =>
        rw [e, R.bind_ok, e2, R.bind_ok] at h
        cases h
        obtain ⟨os, h1, h2, h3⟩ := lcA_ok e2
        refine ⟨o :: os, congrArg Nat.succ h1, fun i y hy => ?_, by rw [h3, List.flatten_cons]⟩
        cases i with
        | zero => cases hy; exact ⟨o, rfl, e⟩
        | succ i => exact h2 i y hy
theorem lcA_noerr {step : D → R (List D)} (hq : ∀ x a b, step x ≠ .err a b) : ∀ {xs : List D} {a : Nat} {b : Option (Str × D)}, lcA step xs ≠ .err a b
  | [], a, b => fun h => by cases h
  | x :: r, a, b => fun h => by
    unfold lcA at h
    cases e : step x with
    | err a b => exact hq _ _ _ e
    | bad => rw [e] at h; cases h
    | ok o =>
      cases e2 : lcA step r with
      | ok es => rw [e, R.bind_ok, e2] at h; cases h
      | err a b => exact lcA_noerr hq e2
      | bad => rw [e, R.bind_ok, e2] at h; cases h
theorem quiet_noerr {α : Type} {r : R α} {a : Nat} {b : Option (Str × D)} : r.quiet ≠ .err a b := by cases r <;> intro h <;> cases h
theorem take_flat {os : List (List D)} {i : Nat} {o : List D} (h : os[i]? = some o) : (os.take (i + 1)).flatten = (os.take i).flatten ++ o := by
  rw [List.take_add_one, h, List.flatten_append]
  show _ ++ (o ++ []) = _
  rw [List.append_nil]
theorem take_all {os : List (List D)} {i : Nat} (h : os.length = i) : (os.take i).flatten = os.flatten := by rw [← h, List.take_length]
theorem flat_pre {os : List (List D)} {i : Nat} {o : List D} (h : os[i]? = some o) : (os.take i).flatten.length + o.length ≤ os.flatten.length := by
  have e : os.flatten = (os.take i).flatten ++ (os.drop i).flatten := by rw [← List.flatten_append, List.take_append_drop]
  have e2 : os.drop i = o :: os.drop (i + 1) := by
    obtain ⟨hl, hx⟩ := List.getElem?_eq_some_iff.mp h
    rw [List.drop_eq_getElem_cons hl, hx]
  rw [e, e2, List.flatten_cons, List.length_append, List.length_append]
  omega
theorem do_lc2 {wi wi1 : TI} {ri : R (Bool × List D)} {fi1 : En → R (Bool × List D)} {g g1 : TG} {js js1 vs vs1 : List Nat} {te : TE} {fg fg1 : D → En → R En} {fe : En → R RV} (hi : Does G E (relI G) wi ρ ri) (hg : ∀ x ρ, TgS G g js x ρ (fg x ρ)) (hjs : ∀ j, j ∈ js → j ∈ vs) (hi1 : ∀ ρ, Does G E0 (relI G) wi1 ρ (fi1 ρ)) (hg1 : ∀ x ρ, TgS G g1 js1 x ρ (fg1 x ρ)) (hjs1 : ∀ j, j ∈ js1 → j ∈ vs1) (he : ∀ ρ, Does G E0 (relV G) te ρ (fe ρ)) :
    Does G E (relV G) (tLc2 wi g tYes wi1 g1 tYes te vs vs1) ρ (ri.bind fun xs => if xs.2.length ≤ 1000000 then (lcA (fun x => ((fg x (wipeE ρ vs)).bind fun ρ2 => (fi1 ρ2).bind fun ys => if ys.1 = true ∧ ys.2.length ≤ 1000000 then lcA (fun y => ((fg1 y (wipeE ρ2 vs1)).bind fun ρ3 => (fe ρ3).bind fun v => v.toD.bind fun d => .ok [d]).quiet) ys.2 else .bad).quiet) xs.2).bind fun ds => if ds.length ≤ 1000000 then .ok (ov (.lst ds)) else .bad else .bad) := fun pn H0 B H σ S Q P =>
  hi pn H0 B H σ S _ (P.bind fun xs exs P J B1 H1 ga st => by
    by_cases hz : xs.2.length ≤ 1000000
    rotate_left
    · rw [if_neg hz] at P
      exact P.elim
    rw [if_pos hz] at P
    cases hl : lcA (fun x => ((fg x (wipeE ρ vs)).bind fun ρ2 => (fi1 ρ2).bind fun ys => if ys.1 = true ∧ ys.2.length ≤ 1000000 then lcA (fun y => ((fg1 y (wipeE ρ2 vs1)).bind fun ρ3 => (fe ρ3).bind fun v => v.toD.bind fun d => .ok [d]).quiet) ys.2 else .bad).quiet) xs.2 with
    | bad => rw [hl] at P; exact P.elim
    | err a b => exact (lcA_noerr (fun _ _ _ => quiet_noerr) hl).elim
    | ok ds =>
      rw [hl, R.bind_ok] at P
      by_cases hdz : ds.length ≤ 1000000
      rotate_left
      · rw [if_neg hdz] at P
        exact P.elim
      rw [if_pos hdz] at P
      obtain ⟨os, l1, l2, l3⟩ := lcA_ok hl
      obtain ⟨fl, xs⟩ := xs
      simp only at hz l1 l2 st
      intro Dl hD
      have S1 := (S.go ga).wipe vs
      have hB : B1 Dl = none := none_of_ex ga.bh hD
      have hH : H Dl = none := none_of_ex ga.hh hD
      refine ⟨fun i m H' => m = xs.length - i ∧ i ≤ xs.length ∧ ∃ B' us, Go B H B' H' ∧ Ex B1 B' ∧ Go B1 H1 B' H' ∧ B' Dl = none ∧ H' Dl = some (.lst us) ∧ Reps G B' us (os.take i).flatten,
        ⟨_, rfl, Nat.zero_le _, B1, [], ga.trans (Go.newO ga.bh hD), Ex.refl _, Go.newO ga.bh hD, hB, upd_same, .nil⟩, ?_⟩
      rintro i m H' ⟨rfl, hi, B', us, g2, e1, g1', hn, hl, rs⟩
      have exs : Ex (if fl then H0 else H1) H' := by
        cases fl with
        | true => exact S.ex0.trans g2.hh
        | false => exact g1'.hh
      by_cases hlt : i < xs.length
      · obtain ⟨hgo, hy⟩ := (st i B' H' e1 g2.bh exs).2 xs[i] (List.getElem?_eq_getElem hlt)
        obtain ⟨o, ho, hst⟩ := l2 i _ (List.getElem?_eq_getElem hlt)
        have hst := quiet_ok hst
        cases e2 : fg xs[i] (wipeE ρ vs) with
        | err a b => rw [e2] at hst; cases hst
        | bad => rw [e2] at hst; cases hst
        | ok ρ2 =>
        rw [e2, R.bind_ok] at hst
        cases e3 : fi1 ρ2 with
        | err a b => rw [e3] at hst; cases hst
        | bad => rw [e3] at hst; cases hst
        | ok ys =>
        rw [e3, R.bind_ok] at hst
        by_cases hyz : ys.1 = true ∧ ys.2.length ≤ 1000000
        rotate_left
        · rw [if_neg hyz] at hst
          cases hst
        rw [if_pos hyz] at hst
        obtain ⟨ps, p1, p2, p3⟩ := lcA_ok hst
        refine .inr ⟨hgo, fun H2 => ∃ B' us, Go B H B' H2 ∧ Ex B1 B' ∧ Go B1 H1 B' H2 ∧ B' Dl = none ∧ H2 Dl = some (.lst us) ∧ Reps G B' us (os.take (i + 1)).flatten, fun H2 h => ⟨_, by omega, rfl, hlt, h⟩, fun v H2 hv => ?_⟩
        obtain ⟨B2, g3, rv⟩ := hy v H2 hv
        refine hg _ _ ρ2 e2 pn H0 B2 H2 _ v (S1.go (g1'.trans g3)) rv _ fun σ3 S3 l3' e4 m3 => ?_
        refine ⟨wipe_same (l3'.trans (wipe_length _ _)) fun j hj => (e4 j fun z => hj (hjs j z)).trans (wipe_get hj), ?_⟩
        simp only [tYes, if_true]
        refine hi1 ρ2 pn H0 B2 H2 σ3 S3 _ ?_
        rw [e3]
        intro J1 B4 H4 g4 st4
        obtain ⟨fl1, ys⟩ := ys
        simp only at hyz p1 p2 st4
        obtain ⟨rfl, hyz⟩ := hyz
        have st4 : Steady G J1 B4 H0 ys := st4
        have g34 := g3.trans g4
        refine ⟨fun j k H5 => k = ys.length - j ∧ j ≤ ys.length ∧ ∃ B5 us5, Go B H B5 H5 ∧ Ex B1 B5 ∧ Go B1 H1 B5 H5 ∧ Ex B4 B5 ∧ B5 Dl = none ∧ H5 Dl = some (.lst us5) ∧ Reps G B5 us5 ((os.take i).flatten ++ (ps.take j).flatten),
          ⟨_, rfl, Nat.zero_le _, B4, us, g2.trans g34, e1.trans g34.bb, g1'.trans g34, Ex.refl _, g34.fr _ _ hl hn, g34.hh _ _ hl, by rw [List.take_zero, List.flatten_nil, List.append_nil]; exact rs.mono g34.bb⟩, ?_⟩
        rintro j k H5 ⟨rfl, hj, B5, us5, q2, q1, q1', q4, qn, ql, qs⟩
        have exs1 : Ex H0 H5 := S.ex0.trans q2.hh
        by_cases hjt : j < ys.length
        · obtain ⟨hgo1, hy1⟩ := (st4 j B5 H5 q4 q2.bh exs1).2 ys[j] (List.getElem?_eq_getElem hjt)
          obtain ⟨o1, ho1, hst1⟩ := p2 j _ (List.getElem?_eq_getElem hjt)
          have hst1 := quiet_ok hst1
          cases d2 : fg1 ys[j] (wipeE ρ2 vs1) with
          | err a b => rw [d2] at hst1; cases hst1
          | bad => rw [d2] at hst1; cases hst1
          | ok ρ3 =>
          rw [d2, R.bind_ok] at hst1
          refine .inr ⟨hgo1, fun H6 => ∃ B6 us6, Go B H B6 H6 ∧ Ex B1 B6 ∧ Go B1 H1 B6 H6 ∧ Ex B4 B6 ∧ B6 Dl = none ∧ H6 Dl = some (.lst us6) ∧ Reps G B6 us6 ((os.take i).flatten ++ (ps.take (j + 1)).flatten), fun H6 h => ⟨_, by omega, rfl, hjt, h⟩, fun v1 H6 hv1 => ?_⟩
          obtain ⟨B6, g6, rv1⟩ := hy1 v1 H6 hv1
          refine hg1 _ _ ρ3 d2 pn H0 B6 H6 _ v1 ((m3 B6 H6 ((g4.bb.trans q4).trans g6.bb) (S1.go (q1'.trans g6))).wipe vs1) rv1 _ fun σ5 S5 l5 e5 _ => ?_
          refine ⟨wipe_same (l5.trans (wipe_length _ _)) fun j' hj' => (e5 j' fun z => hj' (hjs1 j' z)).trans (wipe_get hj'), ?_⟩
          cases d3 : fe ρ3 with
          | err a b => rw [d3] at hst1; cases hst1
          | bad => rw [d3] at hst1; cases hst1
          | ok y =>
          rw [d3, R.bind_ok] at hst1
          cases d4 : y.toD with
          | err a b => exact (toD_noerr d4).elim
          | bad => rw [d4] at hst1; cases hst1
          | ok d =>
          rw [d4, R.bind_ok] at hst1
          cases hst1
          refine he ρ3 pn H0 B6 H6 σ5 S5 _ ?_
          rw [d3]
          intro w B7 H7 g7 ry
          cases y with
          | vw z => cases d4
          | sv z =>
          cases d4
          obtain ⟨B8, a1, a2, a3, a4⟩ := ry.toD g7.bh
          have g7 : Go B6 H6 B8 H7 := ⟨g7.bb.trans a2, a3, g7.hh, fun a o z1 z2 => a4 a o z1 (g7.fr a o z1 z2)⟩
          have g8 := g6.trans g7
          have hl4 := g8.hh _ _ ql
          have hz4 : us5.length < sizeLine := by
            rw [qs.len, List.length_append]
            have f1 := flat_pre ho
            have f2 := flat_pre ho1
            rw [p3] at f1
            rw [List.length_singleton] at f2
            rw [l3] at hdz
            have sz : (1000000 : Nat) ≤ sizeLine := by decide
            omega
          have hn4 : B8 Dl = none := g8.fr _ _ ql qn
          have exU : Ex B8 (upd H7 Dl (.lst (us5 ++ [w]))) := fun a u z => by rw [upd_ne (ne_of_none z hn4)]; exact g8.bh a u z
          have hhU : ∀ {Hx : Hp}, Ex Hx H7 → Hx Dl = none → Ex Hx (upd H7 Dl (.lst (us5 ++ [w]))) := fun ex hx a u z => by rw [upd_ne (ne_of_none z hx)]; exact ex a u z
          refine ⟨us5, hl4, hz4, B8, us5 ++ [w], ?_, q1.trans g8.bb, ?_, q4.trans g8.bb, hn4, upd_same, ?_⟩
          · have gg := q2.trans g8
            exact ⟨gg.bb, exU, hhU gg.hh hH, gg.fr⟩
          · have gg := q1'.trans g8
            exact ⟨gg.bb, exU, hhU gg.hh hD, gg.fr⟩
          · rw [take_flat ho1, ← List.append_assoc]
            exact (qs.mono g8.bb).app (.cons a1 .nil)
        · refine .inl ⟨(st4 j B5 H5 q4 q2.bh exs1).1 (by show ys.length = j; omega), B5, us5, q2, q1, q1', qn, ql, ?_⟩
          have ej : j = ys.length := by omega
          rw [take_all (os := ps) (by rw [p1, ej]), ← p3] at qs
          rw [take_flat ho]
          exact qs
      · refine .inl ⟨(st i B' H' e1 g2.bh exs).1 (by show xs.length = i; omega), ?_⟩
        have hil : i = xs.length := by omega
        rw [take_all (by rw [l1, hil]), ← l3] at rs
        exact P _ B' H' g2 (.new hH hn hl (.lst rs)))
/-! ### lent lists -/
def cutA (B : Hp) (l : Addr) : Hp := fun a => if a = l then none else B a
mutual
theorem Rep.cut {B : Hp} {l : Addr} {us : List V} (hl : B l = some (.lst us)) {v : V} : ∀ {d : D}, noL d = true → Rep G B v d → Rep G (cutA B l) v d
  | .non, _, .non => .non
  | .bl b, _, .bl _ => .bl b
  | .int i, _, .int _ => .int i
  | .str s, _, .str _ h => .str s h
  | .tup ds, n, .tup h r => .tup (by
      rcases h with (h | ⟨o, h⟩) | h
      · refine .inl (.inl ?_)
        unfold cutA
        rw [if_neg]
        · exact h
        · intro z
          rw [z, hl] at h
          cases h
      · refine .inl (.inr ⟨o, ?_⟩)
        unfold cutA
        rw [if_neg]
        · exact h
        · intro z
          rw [z, hl] at h
          cases h
      · exact .inr h) (Reps.cut hl n r)
  | .lst ds, n, _ => by cases n
  | .ins C fs, n, _ => by cases n
  | .scr ns, n, _ => by cases n
  | .dk ns, n, _ => by cases n
  | .dt ns, n, _ => by cases n
theorem Reps.cut {B : Hp} {l : Addr} {us : List V} (hl : B l = some (.lst us)) {vs : List V} : ∀ {ds : List D}, noL.noLs ds = true → Reps G B vs ds → Reps G (cutA B l) vs ds
  | [], _, .nil => .nil
  | d :: ds, n, .cons h r => by
    have n' : (noL d && noL.noLs ds) = true := n
    rw [Bool.and_eq_true] at n'
    exact .cons (Rep.cut hl n'.1 h) (Reps.cut hl n'.2 r)
end
theorem do_lend {fa : En → R RV} (ha : ∀ ρ, Does G E (relV G) ta ρ (fa ρ)) : Does G E (relV G) ta ρ (match ρ[i]? with
    | some (some (.fv (.lst ds))) => lentR (fa (ρ.set i (some (.d (.lst ds)))))
    | _ => .bad) := fun pn H0 B H σ S Q P => by
  split at P <;> first | exact P.elim | skip
  rename_i ds e
  obtain ⟨a, o, h1, h2, h3, h4⟩ := S.own e (fun y z => nomatch z)
  cases h4 with
  | @lst us _ r =>
  obtain ⟨ow, S'⟩ := S
  have eB : Ex B (upd B a (.lst us)) := Ex.new h2
  obtain ⟨v, k1, k2⟩ := S'.ok i _ e
  rw [h1] at k1
  have ke := Option.some.inj (Option.some.inj k1)
  subst ke
  have S2 : Slots G pn H0 (upd B a (.lst us)) H σ (ρ.set i (some (.d (.lst ds)))) := by
    refine ⟨_, S'.others (as' := []) e ⟨eB, fun b o _ nb hb => ?_, fun b o h _ => h⟩ S'.ex0 (upd_ex2 S'.ex h3) (fun t q => ?_) fun a m => nomatch m⟩
    · rw [upd_ne]
      · exact hb
      · intro z
        apply nb
        rw [z]
        generalize ow i = cs at k2
        cases k2 with
        | fv k2 =>
          cases k2 with
          | own _ _ _ _ => exact List.mem_singleton.mpr rfl
    · cases q
      exact ⟨_, h1, .fv (.d (.lst upd_same (r.mono eB)))⟩
  have go : ∀ B' H', Go (upd B a (.lst us)) H B' H' → B' a = some (.lst us) ∧ Go B H (cutA B' a) H' := fun B' H' g => by
    have hb := g.bb _ _ upd_same
    refine ⟨hb, fun b u q => ?_, fun b u q => ?_, g.hh, fun b u q1 q2 => ?_⟩
    · unfold cutA
      have ne : b ≠ a := ne_of_none q h2
      rw [if_neg ne]
      exact g.bb b u (by rw [upd_ne ne]; exact q)
    · unfold cutA at q
      by_cases c : b = a
      · rw [if_pos c] at q; cases q
      · rw [if_neg c] at q
        exact g.bh b u q
    · unfold cutA
      by_cases c : b = a
      · rw [if_pos c]
      · rw [if_neg c]
        exact g.fr b u q1 (by rw [upd_ne c]; exact q2)
  refine ha _ pn H0 _ H σ S2 _ ?_
  cases hr : fa (ρ.set i (some (.d (.lst ds)))) with
  | bad => rw [hr] at P; exact P.elim
  | err x f =>
    rw [hr] at P
    cases f with
    | none => exact fun B' H' g => P _ H' (go B' H' g).2
    | some p =>
      unfold lentR at P
      by_cases c : noL p.2 = true
      · simp only [if_pos c] at P
        exact fun B' H' dd v g a1 a2 => P _ H' dd v (go B' H' g).2 a1 (a2.cut (go B' H' g).1 c)
      · simp only [if_neg c] at P
        exact P.elim
  | ok x =>
    rw [hr] at P
    unfold lentR at P
    intro v B' H' g rr
    obtain ⟨hb, g'⟩ := go B' H' g
    by_cases c : x.noL = true
    · simp only [if_pos c] at P
      refine P v _ H' g' ?_
      unfold RV.noL at c
      split at c <;> first | (cases c; done) | skip
      · exact .d (rr.dat.cut hb c)
      · cases rr with
        | sv nb q =>
          cases q with
          | fv q =>
            cases q with
            | own z1 z2 z3 q =>
              cases q with
              | lst q =>
                refine .new z1 ?_ z3 (.lst (q.cut hb c))
                unfold cutA
                split
                · rfl
                · exact z2
    · simp only [if_neg c] at P
      exact P.elim
end
section
variable {G : Gm} {E : XE2} {ρ : En} {ta tb : TE} {ra rb : R RV} {as : TA} {rs : R (List D)} {ms : List Bool}
theorem do_tm {o : Tm} (ha : Does G E (relV G) ta ρ ra) (hb : Does G E (relV G) tb ρ rb) : Does G E (relV G) (tM1 (o.den G.K) ta tb) ρ (ra.bind fun x => x.rd.bind fun d => (asStr d).bind fun s => rb.bind fun y => y.rd.bind fun b => o.fn s b) := fun pn H0 B H σ S Q P =>
  ha pn H0 B H σ S _ (P.bind fun x ex P v B1 H1 g1 r1 => by
    cases e1 : x.rd with
    | ok d =>
      rw [e1, R.bind_ok] at P
      cases d with
      | str s =>
        obtain ⟨rfl, hs⟩ := (r1.rd e1).str
        have P : Post G (E σ) (relV G H0) B H (rb.bind fun y => y.rd.bind fun b => o.fn s b) Q := P
        refine ⟨⟨s, rfl⟩, hb pn H0 B1 H1 σ (S.go g1) _ ((P.go (early_V (H0 := H0)) g1).bind fun y ey P u B2 H2 g2 r2 => ?_)⟩
        cases e2 : y.rd with
        | ok b =>
          rw [e2, R.bind_ok] at P
          exact o.ok (E := E σ) g2.bh hs (r2.rd e2) (P.go RvOk.early g2)
        | err a b => exact (rd_noerr e2).elim
        | bad => rw [e2] at P; exact P.elim
      | _ => exact P.elim
    | err a b => exact (rd_noerr e1).elim
    | bad => rw [e1] at P; exact P.elim)
theorem do_fn {j : Nat} : Does G E (relV G) (tC (.ref (G.ft j))) ρ (.ok (dv (.fnc j))) := fun pn H0 B H σ S Q P => P _ B H (Go.refl S.ex) (.d .fnc)
theorem do_callv {i j : Nat} {f : List D → R RV} (h : Does G E (relM G ms) as ρ rs) : Does G E (relV G) (cCallL i (G.ft j) (Pr G ms f) E as) ρ (if isFn j ρ[i]? = true then rs.bind f else .bad) := fun pn H0 B H σ S Q P => by
  cases c : isFn j ρ[i]? with
  | false => rw [c] at P; exact P.elim
  | true =>
    rw [c, if_pos rfl] at P
    have e : ρ[i]? = some (some (.d (.fnc j))) := by
      unfold isFn at c
      split at c
      · next k e => rw [eq_of_beq c] at e; exact e
      · cases c
    have hv : getV ρ i = .ok (dv (.fnc j)) := by unfold getV; rw [e]
    obtain ⟨v, h1, h2⟩ := getV_ok S hv
    have h3 := (RvOk.rd h2 (d := .fnc j) rfl).plain rfl
    refine ⟨?_, do_call h pn H0 B H σ S Q P⟩
    cases h3
    exact h1
theorem do_fmt (ha : Does G E (relV G) ta ρ ra) : Does G E (relV G) (tFmt ta) ρ (ra.bind fun x => x.rd.bind fmtF) := fun pn H0 B H σ S Q P =>
  ha pn H0 B H σ S _ (P.bind fun x ex P v B1 H1 g1 r1 => by
    cases e1 : x.rd with
    | ok d =>
      rw [e1, R.bind_ok] at P
      have P := P.go (early_V (H0 := H0)) g1
      unfold fmtF at P
      split at P <;> first | exact P.elim | skip
      · obtain ⟨rfl, hs⟩ := (r1.rd e1).str
        split at P
        · next c => exact .inl ⟨_, rfl, c, Post.dat P g1.bh (.str _ hs)⟩
        · exact P.elim
      · rw [(r1.rd e1).int]
        split at P
        · next c => exact .inr ⟨_, rfl, c, Post.dat P g1.bh (.str _ (sok_lit _))⟩
        · exact P.elim
    | err a b => exact (rd_noerr e1).elim
    | bad => rw [e1] at P; exact P.elim)
def relF : Hp → Hp → Hp → Str → Str → Prop := fun _ _ _ b a => b = a ∧ SOk a
theorem early_F : Early relF := fun _ _ _ _ _ _ _ h => h
def DoesF (G : Gm) (E : XE2) (ts : List TE) (ρ : En) (r : Str → R Str) : Prop := ∀ pn H0 B H σ acc, SOk acc → Slots G pn H0 B H σ ρ → ∀ Q : Str → Hp → Prop, Post G (E σ) relF B H (r acc) Q → tJs ts acc σ H Q
theorem do_fnil : DoesF G E [] ρ fun acc => .ok acc := fun pn H0 B H σ acc ha S Q P => P _ B H (Go.refl S.ex) ⟨rfl, ha⟩
theorem do_fcons {ts : List TE} {r : Str → R Str} (ha : Does G E (relV G) ta ρ ra) (hs : DoesF G E ts ρ r) : DoesF G E (ta :: ts) ρ fun acc => ra.bind fun x => x.rd.bind fun d => (asStr d).bind fun s => if (acc ++ s).length ≤ sizeLine then r (acc ++ s) else .bad := fun pn H0 B H σ acc hc S Q P =>
  ha pn H0 B H σ S _ (P.bind fun x ex P v B1 H1 g1 r1 => by
    cases e1 : x.rd with
    | ok d =>
      rw [e1, R.bind_ok] at P
      cases d with
      | str s =>
        obtain ⟨rfl, hs'⟩ := (r1.rd e1).str
        have P : Post G (E σ) relF B H (if (acc ++ s).length ≤ sizeLine then r (acc ++ s) else .bad) Q := P
        split at P
        · next c => exact ⟨s, rfl, c, hs pn H0 B1 H1 σ _ (hc.app hs') (S.go g1) Q (P.go early_F g1)⟩
        · exact P.elim
      | _ => exact P.elim
    | err a b => exact (rd_noerr e1).elim
    | bad => rw [e1] at P; exact P.elim)
theorem do_fstr {ts : List TE} {r : Str → R Str} (hs : DoesF G E ts ρ r) : Does G E (relV G) (fun σ H Q => tJs ts Str.empty σ H fun out H1 => Q (.str out) H1) ρ ((r Str.empty).bind fun s => .ok (dv (.str s))) := fun pn H0 B H σ S Q P =>
  hs pn H0 B H σ _ (sok_iff.mpr fun c m => by simp [Str.empty] at m) S _ (P.bind fun x ex P v B1 H1 g1 r1 => by
    obtain ⟨rfl, h⟩ := r1
    exact Post.dat (P.go (early_V (H0 := H0)) g1) g1.bh (.str _ h))
theorem do_noE : Does G E (relV G) tNo ρ .bad := fun pn H0 B H σ S Q P => P.elim
end
end Ci
end

section
set_option Elab.async false
set_option linter.all false
set_option maxRecDepth 100000
set_option maxHeartbeats 2000000
/-! ## statements do what they compute -/
namespace Ci
open PySem PySem.Spec PyProof.Rows L2 Evl

def XEnd (G : Gm) (pn : Addr) (E : XE2) (B0 H0 : Hp) (x : Nat) (ρ : En) : Option (Str × D) → Prop
  | none => ∀ B H σ, Go B0 H0 B H → Slots G pn H0 B H σ ρ → E σ (.ref (G.ca x)) none H
  | some (g, d) => ∀ B H σ dd v, Go B0 H0 B H → Slots G pn H0 B H σ ρ → H dd = some (.xd [(g, v)]) → Rep G B v d → E σ (.ref (G.ca x)) (some dd) H
/-- what is wanted behind a block -/
def Sat (G : Gm) (pn : Addr) (E : XE2) (B0 H0 : Hp) (D' : Ends) : SR → Prop
  | .nx ρ => ∀ B H σ, Go B0 H0 B H → Slots G pn H0 B H σ ρ → D'.nx σ H
  | .bk ρ => ∀ B H σ, Go B0 H0 B H → Slots G pn H0 B H σ ρ → D'.bk σ H
  | .ct ρ => ∀ B H σ, Go B0 H0 B H → Slots G pn H0 B H σ ρ → D'.ct σ H
  | .rt v ρ => ∀ B H σ w s, v = .sv s → s.isBrw = false → Go B0 H0 B H → SlotsV G pn H0 B H σ ρ w s → D'.rt w H
  | .err x f ρ => XEnd G pn E B0 H0 x ρ f
  | .bad => False
def Runs (G : Gm) (E : XE2) (ts : TS) (ρ : En) (r : SR) : Prop := ∀ pn B0 H0 B H σ, Go B0 H0 B H → Slots G pn H0 B H σ ρ → ∀ D' : Ends, Sat G pn E B0 H0 D' r → ts D' σ H
section
variable {G : Gm} {E : XE2} {ρ : En} {ta : TE} {ra : R RV} {i : Nat} {as : TA} {rs : R (List D)} {pn : Addr} {ts tu : TS} {fs fu : En → SR}
theorem XEnd.x {B0 H0 B H : Hp} {σ : L2.St} {x : Nat} {f : Option (Str × D)} (g : Go B0 H0 B H) (S : Slots G pn H0 B H σ ρ) (h : XEnd G pn E B0 H0 x ρ f) : XOk G (E σ) B H x f := by
  cases f with
  | none => exact fun B' H' g' => h B' H' σ (g.trans g') (S.go g')
  | some p => exact fun B' H' dd v g' a r => h B' H' σ dd v (g.trans g') (S.go g') a r
/-- an expression within a statement -/
theorem Sat.sr {α β : Type} {rel : Hp → Hp → Hp → β → α → Prop} {B0 H0 B H : Hp} {σ : L2.St} {D' : Ends} {r : R α} {k : α → SR} {Q : β → Hp → Prop} (s : Sat G pn E B0 H0 D' (r.sr ρ k)) (g : Go B0 H0 B H) (S : Slots G pn H0 B H σ ρ)
    (hk : ∀ a, r = .ok a → Sat G pn E B0 H0 D' (k a) → ∀ b B' H', Go B H B' H' → rel H B' H' b a → Q b H') : Post G (E σ) rel B H r Q := by
  cases r with
  | ok a => exact fun b B' H' g' q => hk a rfl s b B' H' g' q
  | err x f => exact XEnd.x g S s
  | bad => exact s
theorem Sat.gr {α : Type} {B0 H0 : Hp} {D' : Ends} {r : R α} {k : α → SR} (s : Sat G pn E B0 H0 D' (r.gr k)) : ∃ a, r = .ok a ∧ Sat G pn E B0 H0 D' (k a) := by
  cases r with
  | ok a => exact ⟨a, rfl, s⟩
  | err x f => exact s.elim
  | bad => exact s.elim
theorem Sat.imp {B0 H0 : Hp} {D' D2 : Ends} {r : SR} (s : Sat G pn E B0 H0 D' r) (hn : ∀ σ H, D'.nx σ H → D2.nx σ H) (hb : ∀ σ H, D'.bk σ H → D2.bk σ H) (hc : ∀ σ H, D'.ct σ H → D2.ct σ H) (hr : ∀ v H, D'.rt v H → D2.rt v H) : Sat G pn E B0 H0 D2 r := by
  cases r with
  | nx ρ => exact fun B H σ g S => hn _ _ (s B H σ g S)
  | bk ρ => exact fun B H σ g S => hb _ _ (s B H σ g S)
  | ct ρ => exact fun B H σ g S => hc _ _ (s B H σ g S)
  | rt v ρ => exact fun B H σ w t e nb g S => hr _ _ (s B H σ w t e nb g S)
  | err x f ρ => exact s
  | bad => exact s
theorem do_skip : Runs G E tNext ρ (.nx ρ) := fun pn B0 H0 B H σ g S D' s => s B H σ g S
theorem do_sq (ha : Runs G E ts ρ (fs ρ)) (hb : ∀ ρ, Runs G E tu ρ (fu ρ)) : Runs G E (tSeq ts tu) ρ (match fs ρ with | .nx ρ' => fu ρ' | o => o) := fun pn B0 H0 B H σ g S D' s => by
  refine ha pn B0 H0 B H σ g S _ ?_
  cases h : fs ρ with
  | nx ρ' =>
    rw [h] at s
    exact fun B1 H1 σ1 g1 S1 => hb ρ' pn B0 H0 B1 H1 σ1 g1 S1 D' s
  | bk ρ' => rw [h] at s; exact s
  | ct ρ' => rw [h] at s; exact s
  | rt v ρ' => rw [h] at s; exact s
  | err x f ρ' => rw [h] at s; exact s
  | bad => rw [h] at s; exact s
theorem do_asgN (ha : Does G E (relV G) ta ρ ra) : Runs G E (tAsg ta (gName i)) ρ (ra.sr ρ fun | .sv s => .nx (ρ.set i (some s)) | .vw _ => .bad) := fun pn B0 H0 B H σ g S D' s =>
  ha pn H0 B H σ S _ (s.sr g S fun x ex s v B1 H1 g1 r1 => by
    cases x with
    | vw y => exact s.elim
    | sv t =>
      cases r1 with
      | sv nb h => exact s B1 H1 _ (g.trans g1) ((SlotsV.mk S g1 nb (h.pin nb)).set i))
/-- an own value of an expression becomes data -/
theorem toData {B0 H0 B H B1 H1 : Hp} {σ : L2.St} {x : RV} {d : D} {v : V} (g : Go B0 H0 B H) (S : Slots G pn H0 B H σ ρ) (g1 : Go B H B1 H1) (r : RvOk G H B1 H1 v x) (e : x.toD = .ok d) : ∃ B2, Go B H B2 H1 ∧ Rep G B2 v d := by
  cases x with
  | vw y => cases e
  | sv t =>
    cases e
    obtain ⟨B2, a1, a2, a3, a4⟩ := r.toD g1.bh
    exact ⟨B2, ⟨g1.bb.trans a2, a3, g1.hh, fun a o q1 q2 => a4 a o q1 (g1.fr a o q1 q2)⟩, a1⟩
theorem do_asgG {tg : TG} {js : List Nat} {fg : D → En → R En} (ha : Does G E (relV G) ta ρ ra) (hg : ∀ x ρ, TgS G tg js x ρ (fg x ρ)) : Runs G E (tAsg ta tg) ρ (ra.sr ρ fun x => x.toD.gr fun d => (fg d ρ).gr .nx) := fun pn B0 H0 B H σ g S D' s =>
  ha pn H0 B H σ S _ (s.sr g S fun x ex s v B1 H1 g1 r1 => by
    obtain ⟨d, e1, s⟩ := s.gr
    obtain ⟨ρ', e2, s⟩ := s.gr
    obtain ⟨B2, g2, r2⟩ := toData g S g1 r1 e1
    exact hg d ρ ρ' e2 pn H0 B2 H1 σ v (S.go g2) r2 _ fun σ' S' _ _ _ => s B2 H1 σ' (g.trans g2) S')
theorem do_asgF {c' : Nat} {f : Str} (ha : Does G E (relV G) ta ρ ra) (hc : Cls G.K (G.cm c')) (hn : NoAttr G.K (G.cm c') f) : Runs G E (sFld G.K (tVar i) ta f) ρ (ra.sr ρ fun
    | .sv (.fv x) => match ρ[i]? with
      | some (some (.obj sf c fs)) => if c = c' ∧ fs.length < 900 then .nx (ρ.set i (some (.obj sf c (putX f x fs)))) else .bad
      | _ => .bad
    | _ => .bad) := fun pn B0 H0 B H σ g S D' s0 =>
  ha pn H0 B H σ S _ (s0.sr g S fun x ex s v B1 H1 g1 r1 => by
    rcases x with (x | _ | _) | x <;> first | exact s.elim | skip
    cases ho : ρ[i]? with
    | none => rw [ho] at s; exact s.elim
    | some t =>
    rw [ho] at s
    rcases t with _ | (_ | ⟨sf, c, fs⟩ | _) <;> first | exact s.elim | skip
    by_cases cond : c = c' ∧ fs.length < 900
    · simp only [if_pos cond] at s
      obtain ⟨rfl, hl⟩ := cond
      cases r1 with
      | sv nb h =>
      obtain ⟨l, dx, fv, e1, e2, e3, S2⟩ := (SlotsV.mk S g1 nb (h.pin nb)).fld f ho
      refine ⟨.ref l, e1, l, _, dx, fv, rfl, e2, hc, hn, by rw [e3]; omega, ?_⟩
      have g2 := g.trans g1
      exact s B1 _ _ ⟨g2.bb, S2.ex, S2.ex0, g2.fr⟩ S2
    · simp only [if_neg cond] at s
      exact s.elim)
/-! places -/
theorem getP_var {i : Nat} {x : FV} (h : getP ρ (.pvar i) = .ok x) : ρ[i]? = some (some (.fv x)) ∧ ∀ y, x ≠ .d y := by
  simp only [getP] at h
  cases e : ρ[i]? with
  | none => rw [e] at h; cases h
  | some t =>
    rw [e] at h
    rcases t with _ | (y | _ | _ | _) <;> first | (cases h; done) | skip
    cases y <;> cases h <;> exact ⟨rfl, fun y z => nomatch z⟩
theorem getP_fld {c i : Nat} {f : Str} {x : FV} (h : getP ρ (.pfld c i f) = .ok x) : ∃ sf fs, ρ[i]? = some (some (.obj sf c fs)) ∧ fs.lookup f = some x ∧ ∀ y, x ≠ .d y := by
  simp only [getP] at h
  cases e : ρ[i]? with
  | none => rw [e] at h; cases h
  | some t =>
    rw [e] at h
    rcases t with _ | (_ | ⟨sf, c', fs⟩ | _ | _) <;> first | (cases h; done) | skip
    simp only at h
    by_cases ec : c' = c
    · rw [if_pos ec] at h
      subst ec
      refine ⟨sf, fs, rfl, ?_⟩
      cases el : fs.lookup f with
      | none => rw [el] at h; cases h
      | some y =>
        rw [el] at h
        cases y <;> cases h <;> exact ⟨rfl, fun y z => nomatch z⟩
    · rw [if_neg ec] at h
      cases h
theorem getN_ok {k : Bool} {o : Option (Option SV)} {ds : List D} (h : getN k o = .ok ds) : ∃ xs ys, o = some (some (.nst xs ys)) ∧ ds = if k then ys else xs := by
  unfold getN at h
  split at h
  · cases h
    exact ⟨_, _, rfl, rfl⟩
  · cases h
theorem toL_ok {Hi : Hp} {x : RV} {v : V} {ds : List D} (r : RvOk G Hi B H v x) (h : x.toL = .ok ds) : ∃ a vs, v = .ref a ∧ Hi a = none ∧ B a = none ∧ H a = some (.lst vs) ∧ Reps G B vs ds := by
  unfold RV.toL at h
  split at h
  · cases h
    cases r with
    | sv nb r =>
      cases r with
      | fv r =>
        cases r with
        | own h0 hb hl r =>
          cases r with
          | lst r => exact ⟨_, _, rfl, h0, hb, hl, r⟩
  · cases h
theorem nix_at {H : Hp} {σ : L2.St} {i : Nat} {l p q : Addr} {k : Bool} {Q : VK} (h1 : σ[i]? = some (some (.ref l))) (h2 : H l = some (.lst [.ref p, .ref q])) (h : Q (.ref (if k then q else p)) H) : tOp (rIx G.K) (tVar i) (tC (.int (if k then 1 else 0))) σ H Q := by
  refine ⟨_, h1, .inl ⟨l, _, _, .ref (if k then q else p), rfl, rfl, sq_of h2, ?_, h⟩⟩
  cases k <;> rfl
theorem do_nix {i : Nat} {k : Bool} : Does G E (relV G) (tOp (rIx G.K) (tVar i) (tC (.int (if k then 1 else 0)))) ρ ((getN k ρ[i]?).bind fun ds => .ok (.vw (.lst ds))) := fun pn H0 B H σ S Q P => by
  cases e : getN k ρ[i]? with
  | bad => rw [e] at P; exact P.elim
  | err x f => unfold getN at e; split at e <;> cases e
  | ok ds =>
    rw [e, R.bind_ok] at P
    obtain ⟨xs, ys, eo, rfl⟩ := getN_ok e
    obtain ⟨l, p, q, us, ws, ow, S', e1, e2, h0, hl, hp, rp, hq, rq, nd⟩ := S.nst eo
    refine nix_at e2 hl (P _ B H (Go.refl S.ex) ?_)
    cases k with
    | false => exact .vw hp (.lst rp)
    | true => exact .vw hq (.lst rq)
theorem do_lrg (ha : Does G E (relV G) ta ρ ra) : Does G E (relV G) (tLstRg (tRg1 ta)) ρ (ra.bind fun x => x.toI.bind lrgF) := fun pn H0 B H σ S Q P =>
  ha pn H0 B H σ S _ (P.bind fun x ex P v B1 H1 g1 r1 => by
    cases e : x.toI with
    | ok n =>
      rw [e, R.bind_ok] at P
      unfold lrgF at P
      by_cases c : -(2 ^ 62) ≤ n ∧ n ≤ 1000000
      · rw [if_pos c] at P
        refine ⟨n, toI_ok r1 e, ⟨by omega, by omega, c.1, by omega, by omega⟩, fun p hp => ?_⟩
        have er : rng 0 n.toNat = ((List.range n.toNat).map fun (k : Nat) => (0 + (k : Int))).map D.int := by unfold rng; rw [List.map_map]; rfl
        have ev' : rgV 0 n = ((List.range n.toNat).map fun (k : Nat) => (0 + (k : Int))).map V.int := by unfold rgV; rw [List.map_map, Int.sub_zero]; rfl
        rw [er] at P
        rw [ev']
        exact Post.new (P.go (early_V (H0 := H0)) g1) g1.bh hp (.lst (Reps.of_ints _))
      · rw [if_neg c] at P
        exact P.elim
    | err a b => exact (toI_noerr e).elim
    | bad => rw [e] at P; exact P.elim)
theorem do_nset {i : Nat} {tb : TE} {rb : R RV} (ha : Does G E (relV G) ta ρ ra) (hb : Does G E (relV G) tb ρ rb) : Runs G E (tAsg (tLst (tCons ta (tCons tb tNil))) (gName i)) ρ
    (ra.sr ρ fun x => x.toL.gr fun xs => rb.sr ρ fun y => y.toL.gr fun ys => .nx (ρ.set i (some (.nst xs ys)))) := fun pn B0 H0 B H σ g S D' s0 =>
  ha pn H0 B H σ S _ (s0.sr g S fun x ex s v B1 H1 g1 r1 => by
    obtain ⟨xs, e1, s1⟩ := s.gr
    obtain ⟨a1, us, rfl, p1, p2, p3, p4⟩ := toL_ok r1 e1
    refine hb pn H0 B1 H1 σ (S.go g1) _ (s1.sr (g.trans g1) (S.go g1) fun y ey s2 u B3 H3 g3 r3 => ?_)
    obtain ⟨ys, e2, s3⟩ := s2.gr
    obtain ⟨a2, ws, rfl, q1, q2, q3, q4⟩ := toL_ok r3 e2
    refine ⟨Nat.le_of_ble_eq_true rfl, fun l hl => ?_⟩
    have g4 := g1.trans g3
    have gl : Go B3 H3 B3 (upd H3 l (.lst [.ref a1, .ref a2])) := Go.newO g3.bh hl
    have p5 := g3.hh _ _ p3
    have n1 : a1 ≠ l := ne_of_none p5 hl
    have n2 : a2 ≠ l := ne_of_none q3 hl
    have n3 : a1 ≠ a2 := ne_of_none p3 q1
    have ok : SlotOk G pn H B3 (upd H3 l (.lst [.ref a1, .ref a2])) (.ref l) (.nst xs ys) [l, a1, a2] :=
      .nst (nst_mem.mpr ⟨⟨none_of_ex g4.hh hl, none_of_ex g3.bh hl⟩, ⟨p1, g3.fr _ _ p3 p2⟩, none_of_ex g1.hh q1, q2⟩) upd_same (by rw [upd_ne n1]; exact p5) (p4.mono g3.bb) (by rw [upd_ne n2]; exact q3) q4
        (List.nodup_cons.mpr ⟨fun m => (List.mem_cons.mp m).elim (fun z => n1 z.symm) fun m => n2 (List.mem_singleton.mp m).symm, List.nodup_cons.mpr ⟨fun m => n3 (List.mem_singleton.mp m), List.nodup_cons.mpr ⟨List.not_mem_nil, List.nodup_nil⟩⟩⟩)
    exact s3 B3 _ _ (g.trans (g4.trans gl)) ((SlotsV.mk S (g4.trans gl) rfl ok).set i))
theorem _root_.Ci.Slots.noN {H0 B H B' H' : Hp} {σ : L2.St} {i : Nat} {xs ys : List D} {l p q : Addr} {k : Bool} {o : HO} (S : Slots G pn H0 B' H' σ ρ) (hi : ρ[i]? = some (some (.nst xs ys))) (hs : σ[i]? = some (some (.ref l))) (hl : H l = some (.lst [.ref p, .ref q])) (g : Go B H B' H') :
    Slots G pn H0 B' (upd H' (if k then q else p) o) σ (ρ.set i none) := by
  obtain ⟨l', p', q', us, ws, ow, S', e1, e2, h0, hl', hp, rp, hq, rq, nd⟩ := S.nst hi
  rw [hs] at e2
  cases e2
  rw [g.hh _ _ hl] at hl'
  cases hl'
  have m : (if k then q else p) ∈ [l, p, q] := by
    cases k with
    | false => exact nst_p
    | true => exact nst_q
  exact ⟨_, S'.others (as' := []) hi (e1 ▸ Off.up m) (upd_ex S'.ex0 (h0 _ m).1) (upd_ex S'.ex (h0 _ m).2) (fun t e => nomatch e) fun a m => nomatch m⟩
theorem place_ok {H0 B H : Hp} {σ : L2.St} {p : P .p} {x : FV} (wf : Wf G p) (S : Slots G pn H0 B H σ ρ) (h : getP ρ p = .ok x) : ∃ a o, (∀ (H' : Hp) (Q : VK), Ex H H' → Q (.ref a) H' → den G E p σ H' Q) ∧ B a = none ∧ H a = some o ∧ Ho G B o x ∧
    ∀ B' H' o' x', Go B H B' H' → Ho G B' o' x' → Slots G pn H0 B' (upd H' a o') σ (putP ρ x' p) := by
  cases p with
  | pvar i =>
    obtain ⟨e, nd⟩ := getP_var h
    obtain ⟨a, o, h1, h2, h3, h4⟩ := S.own e nd
    refine ⟨a, o, fun H' Q e q => ⟨_, h1, q⟩, h2, h3, h4, fun B' H' o' x' g r => ?_⟩
    exact (S.go g).up e h1 (h4.mono g.bb) r
  | pfld c i f =>
    obtain ⟨sf, fs, e, el, nd'⟩ := getP_fld h
    obtain ⟨l, dx, fv, ow, as, zs, S', e1, e2, e3, e4, e5, e6, e7⟩ := S.obj e
    obtain ⟨v, bs, k1, k2, k3⟩ := e6.look el
    cases k2 with
    | d r => exact absurd rfl (nd' _)
    | @own a o _ h0 hb hl ho =>
      refine ⟨a, o, fun H' Q eh q => ⟨.ref l, e2, l, _, dx, fv, _, rfl, eh _ _ e5, wf.1, wf.2, k1, q⟩, hb, hl, ho, fun B' H' o' x' g r => ?_⟩
      obtain ⟨l', dx', fv', a', o2, q1, q2, q3, q4, q5, q6, q7⟩ := (S.go g).upF (x' := x') (o' := o') e el nd' r
      rw [e2] at q1
      cases q1
      rw [g.hh _ _ e5] at q2
      cases q2
      rw [k1] at q3
      cases q3
      simp only [putP, e]
      exact q7
  | pnst i k =>
    cases e : getN k ρ[i]? with
    | bad => simp only [getP, e] at h; cases h
    | err z f => unfold getN at e; split at e <;> cases e
    | ok ds =>
      simp only [getP, e, R.bind_ok] at h
      cases h
      obtain ⟨xs, ys, eo, rfl⟩ := getN_ok e
      obtain ⟨l, p, q, us, ws, ow, S', e1, e2, h0, hl, hp, rp, hq, rq, nd⟩ := S.nst eo
      refine ⟨if k then q else p, .lst (if k then ws else us), fun H' Q eh z => nix_at e2 (eh _ _ hl) z, ?_, ?_, ?_, fun B' H' o' x' g r => ?_⟩
      · cases k with
        | false => exact (h0 _ nst_p).2
        | true => exact (h0 _ nst_q).2
      · cases k with
        | false => exact hp
        | true => exact hq
      · cases k with
        | false => exact .lst rp
        | true => exact .lst rq
      · cases r with
        | lst r =>
          obtain ⟨l', p', q', us', ws', z1, z2, z3, z4, z5⟩ := (S.go g).upN (k := k) eo r
          rw [e2] at z1
          cases z1
          rw [g.hh _ _ hl] at z2
          cases z2
          simp only [putP, putN, eo]
          exact z5
        | dk r => exact (S.go g).noN eo e2 hl g
        | dt r => exact (S.go g).noN eo e2 hl g
theorem putNext {B0 H0 B H B1 H1 : Hp} {σ : L2.St} {ρ' : En} {a : Addr} {o : HO} (g : Go B0 H0 B H) (g1 : Go B H B1 H1) (S1 : Slots G pn H0 B1 (upd H1 a o) σ ρ') : Go B0 H0 B1 (upd H1 a o) := by
  have g2 := g.trans g1
  exact ⟨g2.bb, S1.ex, S1.ex0, g2.fr⟩
theorem getL_ok {p : P .p} {ds : List D} (h : getL ρ p = .ok ds) : getP ρ p = .ok (.lst ds) := by
  unfold getL at h
  split at h <;> cases h
  assumption
/-- a list at a place -/
theorem placeL {H0 B H : Hp} {σ : L2.St} {p : P .p} {ds : List D} (wf : Wf G p) (S : Slots G pn H0 B H σ ρ) (h : getL ρ p = .ok ds) : ∃ a vs, (∀ (H' : Hp) (Q : VK), Ex H H' → Q (.ref a) H' → den G E p σ H' Q) ∧ H a = some (.lst vs) ∧ Reps G B vs ds ∧
    ∀ B' H' vs' ds', Go B H B' H' → Reps G B' vs' ds' → Slots G pn H0 B' (upd H' a (.lst vs')) σ (putP ρ (.lst ds') p) := by
  obtain ⟨a, o, k1, k2, k3, k4, k5⟩ := place_ok (E := E) wf S (getL_ok h)
  cases k4 with
  | lst r => exact ⟨a, _, k1, k3, r, fun B' H' vs' ds' g r' => k5 B' H' _ _ g (.lst r')⟩
theorem ofO_ok {α : Type} {o : Option α} {a : α} (h : R.ofO o = .ok a) : o = some a := by
  cases o <;> cases h
  rfl
theorem do_asgI {p : P .p} {ti : TE} {ri : R RV} (wf : Wf G p) (ha : Does G E (relV G) ta ρ ra) (hi : Does G E (relV G) ti ρ ri) : Runs G E (tAsg ta (gSub (den G E p) ti rSetL)) ρ
    (ra.sr ρ fun x => x.toD.gr fun d => (getL ρ p).gr fun ds => ri.sr ρ fun y => y.toI.gr fun n => (R.ofO (ixN ds.length n)).gr fun j => .nx (putP ρ (.lst (ds.set j d)) p)) := fun pn B0 H0 B H σ g S D' s0 =>
  ha pn H0 B H σ S _ (s0.sr g S fun x ex s v B1 H1 g1 r1 => by
    obtain ⟨d, e1, s1⟩ := s.gr
    obtain ⟨B2, g2, r2⟩ := toData g S g1 r1 e1
    obtain ⟨ds, hp, s2⟩ := s1.gr
    obtain ⟨a, vs, k1, k3, r, k5⟩ := placeL (E := E) wf S hp
    refine k1 H1 _ g1.hh ?_
    refine hi pn H0 B2 H1 σ (S.go g2) _ (s2.sr (g.trans g2) (S.go g2) fun y ey s3 u B3 H3 g3 r3 => ?_)
    obtain ⟨n, e2, s4⟩ := s3.gr
    obtain ⟨j, hj, s5⟩ := s4.gr
    cases toI_ok r3 e2
    have g4 := g2.trans g3
    refine ⟨a, vs, n, j, rfl, rfl, g4.hh _ _ k3, by rw [r.len]; exact ofO_ok hj, ?_⟩
    have S2 := k5 B3 H3 (vs.set j v) (ds.set j d) g4 ((r.mono g4.bb).set (r2.mono g3.bb) j)
    exact s5 B3 _ _ (putNext g g4 S2) S2)
theorem getI_ok {ds : List D} {n v : Int} (h : getI ds n = .ok v) : 0 ≤ n ∧ n < 2 ^ 63 ∧ ds[n.toNat]? = some (.int v) := by
  unfold getI at h
  split at h
  · next c =>
    split at h <;> first | cases h | skip
    next e => exact ⟨c.1, c.2, e⟩
  · cases h
theorem do_augI {p : P .p} {ti : TE} {ri : R RV} {sub : Bool} (wf : Wf G p) (hi : Does G E (relV G) ti ρ ri) (ha : Does G E (relV G) ta ρ ra) : Runs G E (tAugS (den G E p) ti ta rGetL (ipI fun m n => if sub then m - n else m + n) rSetL) ρ
    ((getL ρ p).gr fun ds => ri.sr ρ fun y => y.toI.gr fun n => (getI ds n).gr fun v => ra.sr ρ fun z => z.toI.gr fun m => .nx (putP ρ (.lst (ds.set n.toNat (.int (if sub then v - m else v + m)))) p)) := fun pn B0 H0 B H σ g S D' s0 => by
  obtain ⟨ds, hp, s1⟩ := s0.gr
  obtain ⟨a, vs, k1, k3, r, k5⟩ := placeL (E := E) wf S hp
  refine k1 H _ (Ex.refl H) ?_
  refine hi pn H0 B H σ S _ (s1.sr g S fun y ey s2 u B1 H1 g1 r1 => ?_)
  obtain ⟨n, e2, s3⟩ := s2.gr
  cases toI_ok r1 e2
  obtain ⟨v, e3, s4⟩ := s3.gr
  obtain ⟨n0, n1, hv⟩ := getI_ok e3
  obtain ⟨w, w1, w2⟩ := r.get hv
  cases w2
  refine ⟨a, vs, n, _, rfl, rfl, g1.hh _ _ k3, n0, n1, w1, ?_⟩
  refine ha pn H0 B1 H1 σ (S.go g1) _ (s4.sr (g.trans g1) (S.go g1) fun z ez s5 u3 B3 H3 g3 r3 => ?_)
  obtain ⟨m, e5, s6⟩ := s5.gr
  cases toI_ok r3 e5
  refine ⟨v, m, rfl, rfl, ?_⟩
  have g4 := g1.trans g3
  have lt : n.toNat < vs.length := (List.getElem?_eq_some_iff.mp w1).1
  refine ⟨a, vs, n, n.toNat, rfl, rfl, g4.hh _ _ k3, ?_, ?_⟩
  · unfold ixN
    rw [if_pos n0, if_pos (by omega)]
  · have S2 := k5 B3 H3 (vs.set n.toNat _) (ds.set n.toNat _) g4 ((r.mono g4.bb).set (.int (if sub then v - m else v + m)) n.toNat)
    exact s6 B3 _ _ (putNext g g4 S2) S2
theorem do_mut {o : Mo} {p : P .p} (wf : Wf G p) (ha : Does G E (relA G) as ρ rs) : Runs G E (tDrop (tBM G.K "list" o.den (den G E p) as)) ρ ((getL ρ p).gr fun xs => rs.sr ρ fun ds => (o.fn xs ds).gr fun ys => .nx (putP ρ (.lst ys) p)) := fun pn B0 H0 B H σ g S D' s0 => by
  obtain ⟨es, hp, s1⟩ := s0.gr
  obtain ⟨a, us, k1, k3, r, k5⟩ := placeL (E := E) wf S hp
  refine k1 H _ (Ex.refl H) ⟨.inl ⟨rfl, _, sq_of k3⟩, ?_⟩
  refine ha pn H0 B H σ S _ (s1.sr g S fun ds eds s2 vs B1 H1 g1 r1 => ?_)
  obtain ⟨ys, e2, s3⟩ := s2.gr
  have hl := g1.hh _ _ k3
  cases o with
  | append =>
    rcases ds with _ | ⟨d, _ | ⟨_, _⟩⟩ <;> first | (cases e2; done) | skip
    simp only [Mo.fn] at e2
    by_cases c : es.length < sizeLine
    · rw [if_pos c] at e2
      cases e2
      cases r1 with
      | cons r1 r2 =>
      cases r2
      refine ⟨a, us, _, rfl, rfl, hl, by rw [r.len]; exact c, ?_⟩
      have S2 := k5 B1 H1 (us ++ [_]) (es ++ [d]) g1 ((r.mono g1.bb).app (.cons r1 .nil))
      exact s3 B1 _ _ (putNext g g1 S2) S2
    · rw [if_neg c] at e2
      cases e2
  | insert =>
    rcases ds with _ | ⟨d0, _ | ⟨d, _ | ⟨_, _⟩⟩⟩ <;> first | (cases e2; done) | (cases d0 <;> first | (cases e2; done) | skip)
    rename_i n
    simp only [Mo.fn] at e2
    by_cases c : es.length < sizeLine ∧ 0 ≤ n ∧ n < 2 ^ 63
    · rw [if_pos c] at e2
      cases e2
      cases r1 with
      | cons r1 r2 =>
      cases r2 with
      | cons r2 r3 =>
      cases r3
      cases r1
      refine ⟨a, us, n, _, rfl, rfl, hl, by rw [r.len]; exact c.1, c.2.1, c.2.2, ?_⟩
      have rr := r.mono g1.bb
      have S2 := k5 B1 H1 (us.take n.toNat ++ [_] ++ us.drop n.toNat) (es.take n.toNat ++ [d] ++ es.drop n.toNat) g1 (((rr.take n.toNat).app (.cons r2 .nil)).app (rr.drop n.toNat))
      exact s3 B1 _ _ (putNext g g1 S2) S2
    · rw [if_neg c] at e2
      cases e2
theorem do_ext {p : P .p} (wf : Wf G p) (ha : Does G E (relV G) ta ρ ra) : Runs G E (tDrop (tBM G.K "list" rExtend (den G E p) (tCons ta tNil))) ρ ((getL ρ p).gr fun ds => ra.sr ρ fun y => y.rd.gr fun d => match d with
    | .lst es => if ds.length + es.length ≤ sizeLine then .nx (putP ρ (.lst (ds ++ es)) p) else .bad
    | _ => .bad) := fun pn B0 H0 B H σ g S D' s0 => by
  obtain ⟨ds, hp, s1⟩ := s0.gr
  obtain ⟨a, us, k1, k3, r, k5⟩ := placeL (E := E) wf S hp
  refine k1 H _ (Ex.refl H) ⟨.inl ⟨rfl, _, sq_of k3⟩, ?_⟩
  refine ha pn H0 B H σ S _ (s1.sr g S fun y ey s2 v B1 H1 g1 r1 => ?_)
  obtain ⟨d, e2, s3⟩ := s2.gr
  cases d with
  | lst es =>
    by_cases c : ds.length + es.length ≤ sizeLine
    · simp only [if_pos c] at s3
      obtain ⟨b, ws, rfl, e3, r2⟩ := (r1.rd e2).lst g1.bh
      refine ⟨a, b, us, ws, rfl, rfl, g1.hh _ _ k3, e3, by rw [r.len, r2.len]; exact c, ?_⟩
      have S2 := k5 B1 H1 (us ++ ws) (ds ++ es) g1 ((r.mono g1.bb).app r2)
      exact s3 B1 _ _ (putNext g g1 S2) S2
    · simp only [if_neg c] at s3
      exact s3.elim
  | _ => exact s3.elim
theorem Reps.last {B : Hp} {vs : List V} {ds : List D} {d : D} (r : Reps G B vs ds) (h : ds.getLast? = some d) : ∃ v, vs[vs.length - 1]? = some v ∧ Rep G B v d := by
  rw [List.getLast?_eq_getElem?] at h
  rw [r.len]
  exact r.get h
theorem Reps.dropLast {B : Hp} {vs : List V} {ds : List D} (r : Reps G B vs ds) : Reps G B vs.dropLast ds.dropLast := by
  rw [List.dropLast_eq_take, List.dropLast_eq_take, r.len]
  exact r.take _
theorem do_popD {p : P .p} (wf : Wf G p) : Runs G E (tDrop (tBM0 G.K "list" rPop (den G E p))) ρ ((getL ρ p).gr fun ds => if ds.isEmpty then .bad else .nx (putP ρ (.lst ds.dropLast) p)) := fun pn B0 H0 B H σ g S D' s0 => by
  obtain ⟨ds, hp, s1⟩ := s0.gr
  obtain ⟨a, us, k1, k3, r, k5⟩ := placeL (E := E) wf S hp
  refine k1 H _ (Ex.refl H) ⟨.inl ⟨rfl, _, sq_of k3⟩, ?_⟩
  cases hl : ds.getLast? with
  | none =>
    rw [List.getLast?_eq_none_iff] at hl
    subst hl
    exact s1.elim
  | some d =>
    have ne : ds.isEmpty = false := by
      cases ds with
      | nil => cases hl
      | cons => rfl
    rw [ne] at s1
    obtain ⟨v, e1, r1⟩ := r.last hl
    refine ⟨a, us, v, rfl, rfl, k3, e1, ?_⟩
    have S2 := k5 B H _ _ (Go.refl S.ex) r.dropLast
    exact s1 B _ _ (putNext g (Go.refl S.ex) S2) S2
theorem do_popG {p : P .p} {tg : TG} {js : List Nat} {fg : D → En → R En} (wf : Wf G p) (hg : ∀ x ρ, TgS G tg js x ρ (fg x ρ)) : Runs G E (tAsg (tBM0 G.K "list" rPop (den G E p)) tg) ρ ((getL ρ p).gr fun ds => (R.ofO ds.getLast?).gr fun d => (fg d (putP ρ (.lst ds.dropLast) p)).gr .nx) := fun pn B0 H0 B H σ g S D' s0 => by
  obtain ⟨ds, hp, s1⟩ := s0.gr
  obtain ⟨a, us, k1, k3, r, k5⟩ := placeL (E := E) wf S hp
  refine k1 H _ (Ex.refl H) ⟨.inl ⟨rfl, _, sq_of k3⟩, ?_⟩
  obtain ⟨d, hl, s2⟩ := s1.gr
  obtain ⟨ρ', e2, s3⟩ := s2.gr
  obtain ⟨v, e1, r1⟩ := r.last (ofO_ok hl)
  refine ⟨a, us, v, rfl, rfl, k3, e1, ?_⟩
  have S2 := k5 B H _ _ (Go.refl S.ex) r.dropLast
  exact hg d _ ρ' e2 pn H0 B _ σ v S2 r1 _ fun σ' S' _ _ _ => s3 B _ σ' (putNext g (Go.refl S.ex) S2) S'
theorem do_aug {sub : Bool} (ha : Does G E (relV G) ta ρ ra) : Runs G E (tAug i ta (ipI fun m n => if sub then m - n else m + n)) ρ (match ρ[i]? with
    | some (some (.fv (.d (.int m)))) => ra.sr ρ fun x => x.toI.gr fun n => .nx (ρ.set i (some (.d (.int (if sub then m - n else m + n)))))
    | _ => .bad) := fun pn B0 H0 B H σ g S D' s0 => by
  cases ho : ρ[i]? with
  | none => rw [ho] at s0; exact s0.elim
  | some t =>
  rw [ho] at s0
  rcases t with _ | ((_ | _ | _ | _) | _ | _) <;> first | exact s0.elim | skip
  rename_i x
  cases x <;> first | exact s0.elim | skip
  rename_i m
  obtain ⟨v, h1, h2⟩ := S.data ho
  cases h2
  refine ⟨_, h1, ?_⟩
  refine ha pn H0 B H σ S _ (s0.sr g S fun x ex s1 v B1 H1 g1 r1 => ?_)
  obtain ⟨n, e2, s2⟩ := s1.gr
  cases toI_ok r1 e2
  exact ⟨m, n, rfl, rfl, s2 B1 H1 _ (g.trans g1) ((S.go g1).setD (.int _))⟩
theorem do_drop (ha : Does G E (relV G) ta ρ ra) : Runs G E (tDrop ta) ρ (ra.sr ρ fun _ => .nx ρ) := fun pn B0 H0 B H σ g S D' s0 =>
  ha pn H0 B H σ S _ (s0.sr g S fun x ex s v B1 H1 g1 r1 => s B1 H1 σ (g.trans g1) (S.go g1))
theorem do_ret (ha : Does G E (relV G) ta ρ ra) : Runs G E (tRet ta) ρ (ra.sr ρ fun | .sv s => .rt (.sv s) ρ | .vw _ => .bad) := fun pn B0 H0 B H σ g S D' s0 =>
  ha pn H0 B H σ S _ (s0.sr g S fun x ex s v B1 H1 g1 r1 => by
    cases x with
    | vw y => exact s.elim
    | sv t =>
      cases r1 with
      | sv nb h => exact s B1 H1 σ v t rfl nb (g.trans g1) (SlotsV.mk S g1 nb (h.pin nb)))
theorem do_retO : Runs G E (tRet (tVar i)) ρ (match ρ[i]? with
    | some (some s) => if s.isBrw then .bad else .rt (.sv s) (ρ.set i none)
    | _ => .bad) := fun pn B0 H0 B H σ g S D' s0 => by
  cases ho : ρ[i]? with
  | none => rw [ho] at s0; exact s0.elim
  | some t =>
  rw [ho] at s0
  cases t with
  | none => exact s0.elim
  | some t =>
    cases hb : t.isBrw with
    | true => simp only [hb, if_true] at s0; exact s0.elim
    | false =>
      simp only [hb, Bool.false_eq_true, if_false] at s0
      obtain ⟨v, h1, h2⟩ := S.move ho
      exact ⟨v, h1, s0 B H σ v t rfl hb g h2⟩
theorem do_retN : Runs G E tRetN ρ (.rt (dv .non) ρ) := fun pn B0 H0 B H σ g S D' s0 => s0 B H σ .non _ rfl rfl g (S.elim fun ow S => ⟨ow, [], S, .fv (.d .non), fun a m => nomatch m⟩)
theorem do_brk : Runs G E tBreak ρ (.bk ρ) := fun pn B0 H0 B H σ g S D' s => s B H σ g S
theorem do_cont : Runs G E tCont ρ (.ct ρ) := fun pn B0 H0 B H σ g S D' s => s B H σ g S
theorem do_raise {x : Nat} : Runs G E (fun _ σ H => E σ (.ref (G.ca x)) none H) ρ (.err x none ρ) := fun pn B0 H0 B H σ g S D' s => s B H σ g S
theorem do_ifS {tt : TT} {rt : R Bool} {r1 r2 : SR} (ht : Does G E relT tt ρ rt) (h1 : Runs G E ts ρ r1) (h2 : Runs G E tu ρ r2) : Runs G E (tIfS tt ts tu) ρ (rt.sr ρ fun k => if k then r1 else r2) := fun pn B0 H0 B H σ g S D' s0 =>
  ht pn H0 B H σ S _ (s0.sr g S fun k ek s b B1 H1 g1 hb => by
    cases hb
    cases k with
    | true => exact iteT (h1 pn B0 H0 B1 H1 σ (g.trans g1) (S.go g1) D' s)
    | false => exact iteF (h2 pn B0 H0 B1 H1 σ (g.trans g1) (S.go g1) D' s))
theorem do_frz : Runs G E tNext ρ (match ρ[i]? with
    | some (some s) => if s.isBrw then .bad else .nx (ρ.set i (some (.d s.dat)))
    | _ => .bad) := fun pn B0 H0 B H σ g S D' s0 => by
  cases ho : ρ[i]? with
  | none => rw [ho] at s0; exact s0.elim
  | some t =>
  rw [ho] at s0
  cases t with
  | none => exact s0.elim
  | some t =>
    cases hb : t.isBrw with
    | true => simp only [hb, if_true] at s0; exact s0.elim
    | false =>
      simp only [hb, Bool.false_eq_true, if_false] at s0
      obtain ⟨B1, e1, f1, S1⟩ := S.freeze ho hb
      exact s0 B1 H σ ⟨g.bb.trans e1, S1.ex, g.hh, fun a o q1 q2 => f1 a o q1 (g.fr a o q1 q2)⟩ S1
theorem do_kill {is : List Nat} : Runs G E tNext ρ (.nx (wipeE ρ is)) := fun pn B0 H0 B H σ g S D' s0 => s0 B H σ g (S.kill is)
/-! loops -/
theorem do_for {wi : TI} {ri : R (Bool × List D)} {tg : TG} {js kill : List Nat} {fg : D → En → R En} (hi : Does G E (relI G) wi ρ ri) (hg : ∀ x ρ, TgS G tg js x ρ (fg x ρ)) (hb : ∀ ρ, Runs G E ts ρ (fs ρ)) :
    Runs G E (tFor wi tg ts) ρ (ri.sr ρ fun xs => if xs.1 then forF (fun x ρ => (fg x ρ).gr fun ρ' => fs ρ') kill xs.2 ρ else .bad) := fun pn B0 H0 B H σ g0 S D' s0 =>
  hi pn H0 B H σ S _ (s0.sr g0 S fun xs exs s J B1 H1 g1 st => by
    obtain ⟨fl, xs⟩ := xs
    cases fl with
    | false => exact s.elim
    | true =>
    simp only [if_true] at s
    have st : Steady G J B1 H0 xs := st
    refine ⟨fun i m σ' H' => m = xs.length - i ∧ i ≤ xs.length ∧ ∃ r B', Sat G pn E B0 H0 D' (forF (fun x ρ => (fg x ρ).gr fun ρ' => fs ρ') kill (xs.drop i) r) ∧ Go B0 H0 B' H' ∧ Ex B1 B' ∧ Slots G pn H0 B' H' σ' r, ⟨_, rfl, Nat.zero_le _, ρ, B1, s, g0.trans g1, Ex.refl B1, S.go g1⟩, ?_⟩
    rintro i m σ' H' ⟨rfl, hi, r, B', hI, g2, e1, S2⟩
    by_cases hlt : i < xs.length
    · obtain ⟨hgo, hy⟩ := (st i B' H' e1 g2.bh S2.ex0).2 xs[i] (List.getElem?_eq_getElem hlt)
      rw [List.drop_eq_getElem_cons hlt] at hI
      unfold forF at hI
      refine .inr ⟨hgo, fun σ2 H2 => ∃ r B', Sat G pn E B0 H0 D' (forF (fun x ρ => (fg x ρ).gr fun ρ' => fs ρ') kill (xs.drop (i + 1)) r) ∧ Go B0 H0 B' H2 ∧ Ex B1 B' ∧ Slots G pn H0 B' H2 σ2 r, fun σ2 H2 ⟨r', B2, h1, h2, h3, h4⟩ => ⟨_, by omega, rfl, hlt, r', B2, h1, h2, h3, h4⟩, fun v H2 hv => ?_⟩
      obtain ⟨B2, g3, rv⟩ := hy v H2 hv
      cases e2 : fg xs[i] r with
      | err a b => simp only [e2, R.gr_err] at hI; exact hI.elim
      | bad => simp only [e2, R.gr_bad] at hI; exact hI.elim
      | ok r2 =>
      simp only [e2, R.gr_ok] at hI
      refine hg _ r r2 e2 pn H0 B2 H2 σ' v (S2.go g3) rv _ fun σ3 S3 _ _ _ => ?_
      have g4 := g2.trans g3
      have e4 : Ex B1 B2 := e1.trans g3.bb
      -- the turn, from B2 on
      refine hb r2 pn B2 H0 B2 H2 σ3 ⟨Ex.refl _, g4.bh, g4.hh, fun _ _ _ q => q⟩ S3 _ ?_
      have g6 : ∀ {B3 H3}, Go B2 H0 B3 H3 → Go B0 H0 B3 H3 := fun g5 => ⟨g4.bb.trans g5.bb, g5.bh, g5.hh, fun a o q1 q2 => g5.fr a o q1 (g4.fr a o q1 q2)⟩
      cases hr : fs r2 with
      | nx r3 =>
        simp only [hr] at hI
        exact fun B3 H3 σ4 g5 S4 => ⟨_, B3, hI, g6 g5, e4.trans g5.bb, S4.kill kill⟩
      | ct r3 =>
        simp only [hr] at hI
        exact fun B3 H3 σ4 g5 S4 => ⟨_, B3, hI, g6 g5, e4.trans g5.bb, S4.kill kill⟩
      | bk r3 =>
        simp only [hr] at hI
        exact fun B3 H3 σ4 g5 S4 => hI B3 H3 σ4 (g6 g5) (S4.kill kill)
      | rt v r3 =>
        simp only [hr] at hI
        exact fun B3 H3 σ4 w t et nb g5 S4 => hI B3 H3 σ4 w t et nb (g6 g5) S4
      | err x f r3 =>
        simp only [hr] at hI
        cases f with
        | none => exact fun B3 H3 σ4 g5 S4 => hI B3 H3 σ4 (g6 g5) S4
        | some p => exact fun B3 H3 σ4 dd v g5 S4 a1 a2 => hI B3 H3 σ4 dd v (g6 g5) S4 a1 a2
      | bad => simp only [hr] at hI; exact hI.elim
    · refine .inl ⟨(st i B' H' e1 g2.bh S2.ex0).1 (by omega), ?_⟩
      rw [List.drop_eq_nil_of_le (by omega)] at hI
      exact hI B' H' σ' g2 S2)
theorem do_while {tt : TT} {ft : En → R Bool} {kill : List Nat} {n : Nat} (ht : ∀ ρ, Does G E relT tt ρ (ft ρ)) (hb : ∀ ρ, Runs G E ts ρ (fs ρ)) : Runs G E (tWhile tt ts) ρ (whF ft fs kill n ρ) := fun pn B0 H0 B H σ g0 S D' s0 => by
  refine ⟨fun m σ' H' => ∃ r B', Sat G pn E B0 H0 D' (whF ft fs kill m r) ∧ Go B0 H0 B' H' ∧ Slots G pn H0 B' H' σ' r, ⟨n, ρ, B, s0, g0, S⟩, ?_⟩
  rintro m σ' H' ⟨r, B', hI, g2, S2⟩
  cases m with
  | zero => exact hI.elim
  | succ m =>
  unfold whF at hI
  have hsr : ∀ {k : Bool → SR}, Sat G pn E B0 H0 D' ((ft r).sr r k) → _ := fun {k} h => Sat.sr (rel := relT H0) (Q := fun b H1 => if b = true then ∃ N : L2.St → Hp → Prop, (∀ σ' H', N σ' H' → ∃ m', m' < m + 1 ∧ ∃ r B', Sat G pn E B0 H0 D' (whF ft fs kill m' r) ∧ Go B0 H0 B' H' ∧ Slots G pn H0 B' H' σ' r) ∧ ts { D' with nx := N, ct := N, bk := D'.nx } σ' H1 else D'.nx σ' H1) h g2 S2
  refine ht r pn H0 B' H' σ' S2 _ (hsr hI fun k ek s b B2 H2 g3 hb' => ?_)
  cases hb'
  have g4 := g2.trans g3
  cases k with
  | true =>
    simp only [if_true] at s
    refine iteT ⟨fun σ2 H2 => ∃ m', m' < m + 1 ∧ ∃ r B', Sat G pn E B0 H0 D' (whF ft fs kill m' r) ∧ Go B0 H0 B' H2 ∧ Slots G pn H0 B' H2 σ2 r, fun σ2 H2 h => h, ?_⟩
    refine hb r pn B0 H0 B2 H2 σ' g4 (S2.go g3) _ ?_
    cases hr : fs r with
    | nx r3 =>
      simp only [hr] at s
      exact fun B3 H3 σ4 g5 S4 => ⟨m, Nat.lt_succ_self m, _, B3, s, g5, S4.kill kill⟩
    | ct r3 =>
      simp only [hr] at s
      exact fun B3 H3 σ4 g5 S4 => ⟨m, Nat.lt_succ_self m, _, B3, s, g5, S4.kill kill⟩
    | bk r3 =>
      simp only [hr] at s
      exact fun B3 H3 σ4 g5 S4 => s B3 H3 σ4 g5 (S4.kill kill)
    | rt v r3 => simp only [hr] at s; exact s
    | err x f r3 => simp only [hr] at s; exact s
    | bad => simp only [hr] at s; exact s.elim
  | false => exact iteF (s B2 H2 σ' g4 (S2.go g3))
/-! try, a method that changes self -/
theorem do_raiseF {x : Nat} {f : Str} (ha : Does G E (relV G) ta ρ ra) : Runs G E (fun _ σ H => tMkO (G.ca x) (PrE G x f) [] (tCons ta tNil) σ H fun cl d H' => E σ cl d H') ρ (ra.sr ρ fun v => v.toD.gr fun d => .err x (some (f, d)) ρ) := fun pn B0 H0 B H σ g S D' s0 =>
  ha pn H0 B H σ S _ (s0.sr g S fun v ex s w B1 H1 g1 r1 => by
    obtain ⟨d, e1, s⟩ := s.gr
    obtain ⟨B2, g2, r2⟩ := toData g S g1 r1 e1
    refine ⟨by show 1 ≤ 1000; decide, fun a hn => ⟨a, w, rfl, upd_same, fun dx h1 h2 => ?_⟩⟩
    have hd : H1 dx = none := by
      rw [upd_ne h2] at h1
      exact h1
    have e2 : (upd (L2.del (upd (upd (upd H1 a (exo a (G.ca x) none)) dx (exd dx [(f, w)])) a (exo a (G.ca x) (some dx))) a) dx (.xd [(f, w)])) = upd H1 dx (.xd [(f, w)]) := by
      funext b
      by_cases c1 : b = dx
      · rw [c1, upd_same, upd_same]
      · rw [upd_ne c1, upd_ne c1]
        by_cases c2 : b = a
        · rw [c2, L2.del_same, hn]
        · rw [L2.del_ne c2, upd_ne c2, upd_ne c1, upd_ne c2]
    refine ⟨rfl, dx, [(f, w)], upd_same, by rw [upd_ne h2, upd_same], hd, ?_⟩
    rw [e2]
    have g3 := g2.trans (Go.newO (o := .xd [(f, w)]) g2.bh hd)
    exact s B2 _ σ dx w (g.trans g3) (S.go g3) upd_same r2)
/-- what is known of the exception that a suite names -/
def XIs (G : Gm) (B H : Hp) (cls : Value) (d : Option Addr) (x : Nat) : Option (Str × D) → Prop
  | none => cls = .ref (G.ca x)
  | some (f, y) => cls = .ref (G.ca x) ∧ ∃ dd v, d = some dd ∧ H dd = some (.xd [(f, v)]) ∧ Rep G B v y
theorem XIs.go {B H B1 H1 : Hp} {cls : Value} {d : Option Addr} {x : Nat} {fo : Option (Str × D)} (g : Go B H B1 H1) (h : XIs G B H cls d x fo) : XIs G B1 H1 cls d x fo := by
  cases fo with
  | none => exact h
  | some p =>
    obtain ⟨h1, dd, v, h2, h3, h4⟩ := h
    exact ⟨h1, dd, v, h2, g.hh _ _ h3, h4.mono g.bb⟩
theorem XIs.cls {B H : Hp} {cls : Value} {d : Option Addr} {x : Nat} {fo : Option (Str × D)} (h : XIs G B H cls d x fo) : cls = .ref (G.ca x) := by
  cases fo with
  | none => exact h
  | some p => exact h.1
def DoesX (G : Gm) (E : XE2) {α β : Type} (rel : Hp → Hp → Hp → Hp → β → α → Prop) (t : Nat → Addr → Value → Option Addr → L2.St → Hp → (β → Hp → Prop) → Prop) (r : Nat → Option (Str × D) → En → R α) : Prop :=
  ∀ pn H0 B H σ ρ i a cls d x fo, Slots G pn H0 B H σ ρ → σ[i]? = some (some (.ref a)) → XIs G B H cls d x fo → ∀ Q, Post G (E σ) (rel H0) B H (r x fo ρ) Q → t i a cls d σ H Q
def RunsX (G : Gm) (E : XE2) (t : Nat → Addr → Value → Option Addr → TS) (r : Nat → Option (Str × D) → En → SR) : Prop :=
  ∀ pn B0 H0 B H σ ρ i a cls d x fo, Go B0 H0 B H → Slots G pn H0 B H σ ρ → σ[i]? = some (some (.ref a)) → XIs G B H cls d x fo → ∀ D' : Ends, Sat G pn E B0 H0 D' (r x fo ρ) → t i a cls d D' σ H
theorem dx_e {r : En → R RV} (h : ∀ ρ, Does G E (relV G) ta ρ (r ρ)) : DoesX G E (relV G) (fun _ _ _ _ => ta) (fun _ _ => r) := fun pn H0 B H σ ρ i a cls d x fo S hi hx Q P => h ρ pn H0 B H σ S Q P
theorem dx_f {x : Nat} {f : Str} : DoesX G E (relV G) (fun i a cls d => tXf a cls d (G.ca x) f (tVar i)) (fun x' fo _ => xfF x f x' fo) := fun pn H0 B H σ ρ i a cls d x' fo S hi hx Q P => by
  cases fo with
  | none => exact P.elim
  | some q =>
  obtain ⟨g, y⟩ := q
  replace P : Post G (E σ) (relV G H0) B H (if x' = x ∧ g = f then .ok (dv y) else .bad) Q := P
  split at P <;> first | exact P.elim | skip
  rename_i c
  obtain ⟨rfl, rfl⟩ := c
  obtain ⟨h1, dd, v, h2, h3, h4⟩ := hx
  exact ⟨.ref a, hi, rfl, h1, dd, _, v, h2, h3, by simp [List.lookup], Post.dat P S.ex h4⟩
theorem isX_noerr {ys : List (Nat × Bool)} {x a : Nat} {f : Option (Str × D)} (h : isX ys x = .err a f) : False := by
  unfold isX at h
  cases e : ys.lookup x <;> rw [e] at h <;> cases h
theorem isX_ok {ys : List (Nat × Bool)} {x : Nat} {b : Bool} (h : isX ys x = .ok b) : ys.lookup x = some b := by
  unfold isX at h
  cases e : ys.lookup x with
  | none => rw [e] at h; cases h
  | some c => rw [e] at h; cases h; rfl
theorem dx_i {ys : List (Nat × Bool)} : DoesX G E (relV G) (fun i a cls d => tIsX i a cls G.ca ys) (fun x _ _ => (isX ys x).bind fun b => .ok (dv (.bl b))) := fun pn H0 B H σ ρ i a cls d x fo S hi hx Q P => by
  replace P : Post G (E σ) (relV G H0) B H ((isX ys x).bind fun b => .ok (dv (.bl b))) Q := P
  cases e : isX ys x with
  | err p q => exact (isX_noerr e).elim
  | bad => rw [e] at P; exact P.elim
  | ok b =>
    rw [e] at P
    exact ⟨x, b, isX_ok e, hx.cls, hi, Post.dat P S.ex (.bl b)⟩
section
variable {ta' tb' : Nat → Addr → Value → Option Addr → TE} {ts' : Nat → Addr → Value → Option Addr → TA} {ra' rb' : Nat → Option (Str × D) → En → R RV} {rs' : Nat → Option (Str × D) → En → R (List D)}
theorem dx_tup (h : DoesX G E (relA G) ts' rs') : DoesX G E (relV G) (fun i a cls d => tTup (ts' i a cls d)) (fun x fo ρ => (rs' x fo ρ).bind fun ds => if ds.length ≤ sizeLine then .ok (dv (.tup ds)) else .bad) := fun pn H0 B H σ ρ i a cls d x fo S hi hx Q P =>
  h pn H0 B H σ ρ i a cls d x fo S hi hx _ (P.bind fun ds eds P vs B1 H1 g1 r1 => by
    by_cases c : ds.length ≤ sizeLine
    · rw [if_pos c] at P
      exact ⟨by rw [Reps.len r1]; exact c, fun p hp => Post.tup (P.go (early_V (H0 := H0)) g1) g1.bh hp r1⟩
    · rw [if_neg c] at P
      exact P.elim)
theorem dx_and (ha : DoesX G E (relV G) ta' ra') (hb : DoesX G E (relV G) tb' rb') : DoesX G E (relV G) (fun i a cls d => tAndV (ta' i a cls d) (tb' i a cls d)) (fun x fo ρ => (ra' x fo ρ).bind fun v => v.toB.bind fun k => if k then rb' x fo ρ else .ok (dv (.bl false))) := fun pn H0 B H σ ρ i a cls d x fo S hi hx Q P =>
  ha pn H0 B H σ ρ i a cls d x fo S hi hx _ (P.bind fun v ex P w B1 H1 g1 r1 => by
    cases e : v.toB with
    | ok k =>
      rw [e] at P
      refine ⟨k, toB_ok r1 e, ?_⟩
      cases k with
      | true => exact iteT (hb pn H0 B1 H1 σ ρ i a cls d x fo (S.go g1) hi (hx.go g1) Q (P.go early_V g1))
      | false => exact iteF (P _ B1 H1 g1 (.d (.bl _)))
    | err a b => exact (toB_noerr e).elim
    | bad => rw [e] at P; exact P.elim)
theorem dx_nil : DoesX G E (relA G) (fun _ _ _ _ => tNil) (fun _ _ _ => .ok []) := fun pn H0 B H σ ρ i a cls d x fo S hi hx Q P => P [] B H (Go.refl S.ex) Reps.nil
theorem dx_cons (ha : DoesX G E (relV G) ta' ra') (hs : DoesX G E (relA G) ts' rs') : DoesX G E (relA G) (fun i a cls d => tCons (ta' i a cls d) (ts' i a cls d)) (fun x fo ρ => (ra' x fo ρ).bind fun v => v.toD.bind fun y => (rs' x fo ρ).bind fun ds => .ok (y :: ds)) := fun pn H0 B H σ ρ i a cls d x fo S hi hx Q P =>
  ha pn H0 B H σ ρ i a cls d x fo S hi hx _ (P.bind fun v ex P w B1 H1 g1 r1 => by
    cases e : v.toD with
    | ok y =>
      rw [e, R.bind_ok] at P
      cases v with
      | vw y => cases e
      | sv s =>
        cases e
        obtain ⟨B2, a1, a2, a3, a4⟩ := r1.toD g1.bh
        have g2 : Go B H B2 H1 := ⟨g1.bb.trans a2, a3, g1.hh, fun a o q1 q2 => a4 a o q1 (g1.fr a o q1 q2)⟩
        exact hs pn H0 B2 H1 σ ρ i a cls d x fo (S.go g2) hi (hx.go g2) _ ((P.go early_A g2).bind fun ds eds P vs B3 H3 g3 r3 => P _ B3 H3 g3 (Reps.cons (a1.mono g3.bb) r3))
    | err a b => exact (toD_noerr e).elim
    | bad => rw [e] at P; exact P.elim)
theorem rx_ret (ha : DoesX G E (relV G) ta' ra') : RunsX G E (fun i a cls d => tRet (ta' i a cls d)) (fun x fo ρ => (ra' x fo ρ).sr ρ fun | .sv s => .rt (.sv s) ρ | .vw _ => .bad) := fun pn B0 H0 B H σ ρ i a cls d x fo g S hi hx D' s0 =>
  ha pn H0 B H σ ρ i a cls d x fo S hi hx _ (s0.sr g S fun v ex s w B1 H1 g1 r1 => by
    cases v with
    | vw y => exact s.elim
    | sv t =>
      cases r1 with
      | sv nb h => exact s B1 H1 σ w t rfl nb (g.trans g1) (SlotsV.mk S g1 nb (h.pin nb)))
theorem rx_if {ys : List (Nat × Bool)} {t1 t2 : Nat → Addr → Value → Option Addr → TS} {r1 r2 : Nat → Option (Str × D) → En → SR} (h1 : RunsX G E t1 r1) (h2 : RunsX G E t2 r2) :
    RunsX G E (fun i a cls d => tIfS (tTest (tIsX i a cls G.ca ys)) (t1 i a cls d) (t2 i a cls d)) (fun x fo ρ => (isX ys x).sr ρ fun k => if k then r1 x fo ρ else r2 x fo ρ) := fun pn B0 H0 B H σ ρ i a cls d x fo g S hi hx D' s0 => by
  replace s0 : Sat G pn E B0 H0 D' ((isX ys x).sr ρ fun k => if k then r1 x fo ρ else r2 x fo ρ) := s0
  cases e : isX ys x with
  | err p q => exact (isX_noerr e).elim
  | bad => rw [e] at s0; exact s0.elim
  | ok b =>
    rw [e] at s0
    refine ⟨x, b, isX_ok e, hx.cls, hi, b, rfl, ?_⟩
    cases b with
    | true => exact iteT (h1 pn B0 H0 B H σ ρ i a cls d x fo g S hi hx D' s0)
    | false => exact iteF (h2 pn B0 H0 B H σ ρ i a cls d x fo g S hi hx D' s0)
end
theorem Slots.setN {H0 B H : Hp} {σ : L2.St} {i : Nat} {v : Option V} (S : Slots G pn H0 B H σ ρ) : Slots G pn H0 B H (σ.set i v) (ρ.set i none) := by
  obtain ⟨ow, S'⟩ := S.drop i
  refine ⟨ow, ⟨?_, S'.ex0, S'.ex, fun j s h => ?_, S'.ap⟩⟩
  · rw [List.length_set]
    exact S'.len
  · obtain ⟨w, h1, h2⟩ := S'.ok j s h
    refine ⟨w, ?_, h2⟩
    by_cases c : i = j
    · subst c
      by_cases l : i < ρ.length
      · rw [List.getElem?_set_self l] at h
        cases h
      · rw [List.getElem?_eq_none (by rw [List.length_set]; omega)] at h
        cases h
    · rw [List.getElem?_set_ne c]
      exact h1
theorem do_tryA {c i : Nat} {subs : List Nat} {tb : WX → TS} {th : Nat → Addr → Value → Option Addr → TS} {fb : En → SR} {fh : Nat → Option (Str × D) → En → SR} (hx : ∀ x, x ∈ subs → PySem.W.exmOne G.K (.ref (G.ca x)) (.ref (G.ca c)) = some true) (hb : ∀ W, Runs G (WE W) (tb W) ρ (fb ρ)) (hh : RunsX G E th fh) :
    Runs G E (tTryA G.K (.ref (G.ca c)) i E tb (th i)) ρ (match fb ρ with | .err x f ρ' => if x ∈ subs ∧ i < ρ'.length then onlyRt (fh x f (ρ'.set i none)) else .bad | o => o) := fun pn B0 H0 B H σ g S D' s0 => by
  refine hb _ pn B0 H0 B H σ g S D' ?_
  cases hr : fb ρ with
  | nx r3 => rw [hr] at s0; exact s0
  | ct r3 => rw [hr] at s0; exact s0
  | bk r3 => rw [hr] at s0; exact s0
  | rt v r3 => rw [hr] at s0; exact s0
  | bad => rw [hr] at s0; exact s0
  | err x f r3 =>
    rw [hr] at s0
    by_cases m : x ∈ subs ∧ i < r3.length
    · simp only [if_pos m] at s0
      have key : ∀ B1 H1 σ1 d, Go B0 H0 B1 H1 → Slots G pn H0 B1 H1 σ1 r3 → XIs G B1 H1 (.ref (G.ca x)) d x f → ∀ a, H1 a = none → th i a (.ref (G.ca x)) d { nx := fun σ' H' => D'.nx (σ'.set i none) H', rt := D'.rt, bk := fun σ' H' => D'.bk (σ'.set i none) H', ct := fun σ' H' => D'.ct (σ'.set i none) H' } (σ1.set i (some (.ref a))) H1 := fun B1 H1 σ1 d g1 S1 z a ha => by
        refine hh pn B0 H0 B1 H1 _ _ i a _ d x f g1 S1.setN (List.getElem?_set_self (by rw [S1.choose_spec.len]; exact m.2)) z _ ?_
        cases hq : fh x f (r3.set i none) with
        | rt v ρ' => rw [hq] at s0; exact s0
        | _ => rw [hq] at s0; exact s0.elim
      cases f with
      | none => exact fun B1 H1 σ1 g1 S1 => ⟨true, hx x m.1, fun _ a ha => key B1 H1 σ1 none g1 S1 rfl a ha, fun z => nomatch z⟩
      | some p => exact fun B1 H1 σ1 dd v g1 S1 h1 h2 => ⟨true, hx x m.1, fun _ a ha => key B1 H1 σ1 (some dd) g1 S1 ⟨rfl, dd, v, rfl, h1, h2⟩ a ha, fun z => nomatch z⟩
    · simp only [if_neg m] at s0
      exact s0.elim
theorem do_try {c : Nat} {subs : List Nat} {tb : WX → TS} {th : TS} {fb fh : En → SR} (hx : ∀ x, x ∈ subs → PySem.W.exmOne G.K (.ref (G.ca x)) (.ref (G.ca c)) = some true) (hb : ∀ W, Runs G (WE W) (tb W) ρ (fb ρ)) (hh : ∀ ρ, Runs G E th ρ (fh ρ)) :
    Runs G E (tTry G.K (.ref (G.ca c)) E tb fun _ _ _ => th) ρ (match fb ρ with | .err x f ρ' => if x ∈ subs then fh ρ' else .bad | o => o) := fun pn B0 H0 B H σ g S D' s0 => by
  refine hb _ pn B0 H0 B H σ g S D' ?_
  cases hr : fb ρ with
  | nx r3 => rw [hr] at s0; exact s0
  | ct r3 => rw [hr] at s0; exact s0
  | bk r3 => rw [hr] at s0; exact s0
  | rt v r3 => rw [hr] at s0; exact s0
  | bad => rw [hr] at s0; exact s0
  | err x f r3 =>
    rw [hr] at s0
    by_cases m : x ∈ subs
    · simp only [if_pos m] at s0
      cases f with
      | none => exact fun B1 H1 σ1 g1 S1 => ⟨true, hx x m, fun _ a ha => hh r3 pn B0 H0 B1 H1 σ1 g1 S1 D' s0, fun z => nomatch z⟩
      | some p => exact fun B1 H1 σ1 dd v g1 S1 _ _ => ⟨true, hx x m, fun _ a ha => hh r3 pn B0 H0 B1 H1 σ1 g1 S1 D' s0, fun z => nomatch z⟩
    · simp only [if_neg m] at s0
      exact s0.elim
theorem do_try2 {c c2 : Nat} {tb : WX → TS} {th th2 : TS} {fb fh fh2 : En → SR} (h1 : PySem.W.exmOne G.K (.ref (G.ca c)) (.ref (G.ca c)) = some true) (h2 : PySem.W.exmOne G.K (.ref (G.ca c2)) (.ref (G.ca c)) = some false) (h3 : PySem.W.exmOne G.K (.ref (G.ca c2)) (.ref (G.ca c2)) = some true) (hb : ∀ W, Runs G (WE W) (tb W) ρ (fb ρ)) (hh : ∀ ρ, Runs G E th ρ (fh ρ)) (hh2 : ∀ ρ, Runs G E th2 ρ (fh2 ρ)) :
    Runs G E (tTry2 G.K (.ref (G.ca c)) (.ref (G.ca c2)) E tb (fun _ _ _ => th) fun _ _ _ => th2) ρ (match fb ρ with | .err x f ρ' => if x = c then fh ρ' else if x = c2 then fh2 ρ' else .bad | o => o) := fun pn B0 H0 B H σ g S D' s0 => by
  refine hb _ pn B0 H0 B H σ g S D' ?_
  cases hr : fb ρ with
  | nx r3 => rw [hr] at s0; exact s0
  | ct r3 => rw [hr] at s0; exact s0
  | bk r3 => rw [hr] at s0; exact s0
  | rt v r3 => rw [hr] at s0; exact s0
  | bad => rw [hr] at s0; exact s0
  | err x f r3 =>
    rw [hr] at s0
    by_cases m : x = c
    · simp only [if_pos m] at s0
      cases f with
      | none => exact fun B1 H1 σ1 g1 S1 => ⟨true, by rw [m]; exact h1, fun _ a ha => hh r3 pn B0 H0 B1 H1 σ1 g1 S1 D' s0, fun z => nomatch z⟩
      | some p => exact fun B1 H1 σ1 dd v g1 S1 _ _ => ⟨true, by rw [m]; exact h1, fun _ a ha => hh r3 pn B0 H0 B1 H1 σ1 g1 S1 D' s0, fun z => nomatch z⟩
    · simp only [if_neg m] at s0
      by_cases m2 : x = c2
      · simp only [if_pos m2] at s0
        cases f with
        | none => exact fun B1 H1 σ1 g1 S1 => ⟨false, by rw [m2]; exact h2, (fun z => nomatch z), fun _ => ⟨true, by rw [m2]; exact h3, fun _ a ha => hh2 r3 pn B0 H0 B1 H1 σ1 g1 S1 D' s0, fun z => nomatch z⟩⟩
        | some p => exact fun B1 H1 σ1 dd v g1 S1 _ _ => ⟨false, by rw [m2]; exact h2, (fun z => nomatch z), fun _ => ⟨true, by rw [m2]; exact h3, fun _ a ha => hh2 r3 pn B0 H0 B1 H1 σ1 g1 S1 D' s0, fun z => nomatch z⟩⟩
      · simp only [if_neg m2] at s0
        exact s0.elim
theorem do_try3 {c c2 c3 : Nat} {tb : WX → TS} {th th2 th3 : TS} {fb fh fh2 fh3 : En → SR} (h1 : PySem.W.exmOne G.K (.ref (G.ca c)) (.ref (G.ca c)) = some true) (h2 : PySem.W.exmOne G.K (.ref (G.ca c2)) (.ref (G.ca c)) = some false) (h3 : PySem.W.exmOne G.K (.ref (G.ca c2)) (.ref (G.ca c2)) = some true) (h4 : PySem.W.exmOne G.K (.ref (G.ca c3)) (.ref (G.ca c)) = some false) (h5 : PySem.W.exmOne G.K (.ref (G.ca c3)) (.ref (G.ca c2)) = some false) (h6 : PySem.W.exmOne G.K (.ref (G.ca c3)) (.ref (G.ca c3)) = some true) (hb : ∀ W, Runs G (WE W) (tb W) ρ (fb ρ)) (hh : ∀ ρ, Runs G E th ρ (fh ρ)) (hh2 : ∀ ρ, Runs G E th2 ρ (fh2 ρ)) (hh3 : ∀ ρ, Runs G E th3 ρ (fh3 ρ)) :
    Runs G E (tTry3 G.K (.ref (G.ca c)) (.ref (G.ca c2)) (.ref (G.ca c3)) E tb (fun _ _ _ => th) (fun _ _ _ => th2) fun _ _ _ => th3) ρ (match fb ρ with | .err x f ρ' => if x = c then fh ρ' else if x = c2 then fh2 ρ' else if x = c3 then fh3 ρ' else .bad | o => o) := fun pn B0 H0 B H σ g S D' s0 => by
  refine hb _ pn B0 H0 B H σ g S D' ?_
  cases hr : fb ρ with
  | nx r3 => rw [hr] at s0; exact s0
  | ct r3 => rw [hr] at s0; exact s0
  | bk r3 => rw [hr] at s0; exact s0
  | rt v r3 => rw [hr] at s0; exact s0
  | bad => rw [hr] at s0; exact s0
  | err x f r3 =>
    rw [hr] at s0
    by_cases m : x = c
    · simp only [if_pos m] at s0
      cases f with
      | none => exact fun B1 H1 σ1 g1 S1 => ⟨true, by rw [m]; exact h1, fun _ a ha => hh r3 pn B0 H0 B1 H1 σ1 g1 S1 D' s0, fun z => nomatch z⟩
      | some p => exact fun B1 H1 σ1 dd v g1 S1 _ _ => ⟨true, by rw [m]; exact h1, fun _ a ha => hh r3 pn B0 H0 B1 H1 σ1 g1 S1 D' s0, fun z => nomatch z⟩
    · simp only [if_neg m] at s0
      by_cases m2 : x = c2
      · simp only [if_pos m2] at s0
        cases f with
        | none => exact fun B1 H1 σ1 g1 S1 => ⟨false, by rw [m2]; exact h2, (fun z => nomatch z), fun _ => ⟨true, by rw [m2]; exact h3, fun _ a ha => hh2 r3 pn B0 H0 B1 H1 σ1 g1 S1 D' s0, fun z => nomatch z⟩⟩
        | some p => exact fun B1 H1 σ1 dd v g1 S1 _ _ => ⟨false, by rw [m2]; exact h2, (fun z => nomatch z), fun _ => ⟨true, by rw [m2]; exact h3, fun _ a ha => hh2 r3 pn B0 H0 B1 H1 σ1 g1 S1 D' s0, fun z => nomatch z⟩⟩
      · simp only [if_neg m2] at s0
        by_cases m3 : x = c3
        · simp only [if_pos m3] at s0
          cases f with
          | none => exact fun B1 H1 σ1 g1 S1 => ⟨false, by rw [m3]; exact h4, (fun z => nomatch z), fun _ => ⟨false, by rw [m3]; exact h5, (fun z => nomatch z), fun _ => ⟨true, by rw [m3]; exact h6, fun _ a ha => hh3 r3 pn B0 H0 B1 H1 σ1 g1 S1 D' s0, fun z => nomatch z⟩⟩⟩
          | some p => exact fun B1 H1 σ1 dd v g1 S1 _ _ => ⟨false, by rw [m3]; exact h4, (fun z => nomatch z), fun _ => ⟨false, by rw [m3]; exact h5, (fun z => nomatch z), fun _ => ⟨true, by rw [m3]; exact h6, fun _ a ha => hh3 r3 pn B0 H0 B1 H1 σ1 g1 S1 D' s0, fun z => nomatch z⟩⟩⟩
        · simp only [if_neg m3] at s0
          exact s0.elim
end
end Ci
end

section
set_option Elab.async false
set_option linter.all false
set_option maxRecDepth 100000
set_option maxHeartbeats 4000000
/-! ## all of it is sound -/
namespace Ci
open PySem PySem.Spec PyProof.Rows L2 Evl
section
variable {G : Gm} {E : XE2} {ρ : En} {i : Nat} {as : TA} {rs : R (List D)}
theorem ArgsOk.go {B H B1 H1 : Hp} (g : Go B H B1 H1) : ∀ {ms : List Bool} {vs : List V} {ds : List D}, ArgsOk G B H ms vs ds → ArgsOk G B1 H1 ms vs ds
  | _, _, _, .nil => .nil
  | _, _, _, .d h r => .d (h.mono g.bb) (ArgsOk.go g r)
  | _, _, _, .b h q r => .b (g.hh _ _ h) (q.mono g.bb) (ArgsOk.go g r)
theorem do_selfS {c : Nat} {m : Str} {ms : List Bool} {f : SelfF} (h : Does G E (relM G ms) as ρ rs) : Runs G E (tDrop (cMeth (G.cm c) m (PrS G c ms f) E (tVar i) as)) ρ (match ρ[i]? with
    | some (some (.obj sf c' fs)) => if c' = c then (match fs.lookup m with | none => rs.sr ρ fun ds => (f fs ds).sr (ρ.set i none) fun r => .nx (ρ.set i (some (.obj sf c r.2))) | some _ => .bad) else .bad
    | _ => .bad) := fun pn B0 H0 B H σ g S D' s0 => by
  cases ho : ρ[i]? with
  | none => rw [ho] at s0; exact s0.elim
  | some t =>
  rw [ho] at s0
  rcases t with _ | (_ | ⟨sf, c', fs⟩ | _) <;> first | exact s0.elim | skip
  by_cases ec : c' = c
  rotate_left
  · simp only [if_neg ec] at s0
    exact s0.elim
  subst ec
  simp only [if_true] at s0
  cases hm : fs.lookup m with
  | some q => simp only [hm] at s0; exact s0.elim
  | none =>
  simp only [hm] at s0
  obtain ⟨l, dx, fv, ow, bs, zs, S', e1, e2, e3, e4, e5, e6, e7⟩ := S.obj ho
  refine ⟨.ref l, e2, l, dx, fv, rfl, e5, e6.lookN hm, ?_⟩
  refine h pn H0 B H σ S _ (s0.sr g S fun ds eds s1 vs B1 H1 g1 r1 => ?_)
  have S1 := S'.go g1
  have e6' := e6.go g1
  have e5' := g1.hh _ _ e5
  have own0 : ∀ a, a ∈ l :: bs → H0 a = none := fun a m => by
    rcases List.mem_cons.mp m with z | z
    · rw [z]; exact e3
    · exact (e6.addr z).1
  refine ⟨B1, fs, ds, l, dx, vs, fv, bs, rfl, e5', g1.fr _ _ e5 e4, g1.bh, e6'.base fun _ _ => rfl, e7, r1, ?_⟩
  have go : ∀ B2 H2, Off (l :: bs) B1 H1 B2 H2 → Ex B2 H2 → Go B0 H0 B2 H2 := fun B2 H2 z a2 => by
    have g2 := g.trans g1
    refine ⟨g2.bb.trans z.bb, a2, fun a o q => z.kh a o (g2.hh a o q) (fun m => ?_), fun a o q1 q2 => z.kb a o (g2.hh a o q1) (fun m => ?_) (g2.fr a o q1 q2)⟩
    · rw [own0 a m] at q; cases q
    · rw [own0 a m] at q1; cases q1
  cases hf : f fs ds with
  | bad => rw [hf] at s1; exact s1.elim
  | err x g0 =>
    rw [hf] at s1
    have sl : ∀ B2 H2, Off (l :: bs) B1 H1 B2 H2 → Ex B2 H2 → Slots G pn H0 B2 H2 σ (ρ.set i none) := fun B2 H2 z a2 =>
      ⟨_, S1.others (as' := []) ho (e1 ▸ z) (go B2 H2 z a2).hh a2 (fun t q => nomatch q) fun a m => nomatch m⟩
    cases g0 with
    | none => exact fun B2 H2 z a2 => s1 B2 H2 σ (go B2 H2 z a2) (sl B2 H2 z a2)
    | some p => exact fun B2 H2 dd v z a2 a3 a4 => s1 B2 H2 σ dd v (go B2 H2 z a2) (sl B2 H2 z a2) a3 a4
  | ok r =>
    rw [hf] at s1
    obtain ⟨d, fs'⟩ := r
    intro v B2 H2 dy fv' as' z a2 a3 a4 a5 a6 a7 a8
    refine s1 B2 H2 σ (go B2 H2 z a2) ⟨_, S1.others (as' := l :: as') ho (e1 ▸ z) (go B2 H2 z a2).hh a2 (fun t q => ?_) fun a m => ?_⟩
    · cases q
      refine ⟨_, e2, .obj zs e3 a3 a4 (a5.base fun a m => ?_) a6⟩
      rcases a7 a m with w | w
      · exact own0 a (List.mem_cons_of_mem _ w)
      · exact none_of_ex S1.ex0 w
    · rw [e1]
      rcases List.mem_cons.mp m with w | w
      · exact .inl (List.mem_cons.mpr (.inl w))
      · exact (a7 a w).imp (List.mem_cons_of_mem _) id
end
def Sound (G : Gm) : {s : Sr} → P s → Prop
  | .e, p => ∀ E ρ, Does G E (relV G) (den G E p) ρ (ev p ρ)
  | .a, p => ∀ E ρ, Does G E (relA G) (den G E p) ρ (ev p ρ)
  | .r, p => ∀ E ρ, Does G E (relR G) (den G E p) ρ (ev p ρ)
  | .m, p => ∀ E ρ, Does G E (relM G (Wf.modes p)) (den G E p) ρ (ev p ρ)
  | .t, p => ∀ E ρ, Does G E relT (den G E p) ρ (ev p ρ)
  | .o, p => ∀ E ρ, Does G E relO (den G E p) ρ (ev p ρ)
  | .i, p => ∀ E ρ, Does G E (relI G) (den G E p) ρ (ev p ρ)
  | .g, p => ∀ E x ρ, TgS G (den G E p) (Wf.names p) x ρ (ev p x ρ)
  | .gs, p => ∀ E xs ρ, TgsS G (den G E p) (Wf.names p) xs ρ (ev p xs ρ)
  | .p, _ => True
  | .s, p => ∀ E ρ, Runs G E (den G E p) ρ (ev p ρ)
  | .f, p => ∀ E ρ, DoesF G E (den G E p) ρ (fun acc => ev p acc ρ)
  | .x, p => ∀ E, DoesX G E (relV G) (den G E p) (ev p)
  | .xs, p => ∀ E, DoesX G E (relA G) (den G E p) (ev p)
  | .h, p => ∀ E, RunsX G E (den G E p) (ev p)
def SoundT (G : Gm) : {s : Sr} → P s → Prop
  | .g, p => ∀ E x ρ, TgS G (den G E p) (Wf.names p) x ρ (ev p x ρ)
  | .gs, p => ∀ E xs ρ, TgsS G (den G E p) (Wf.names p) xs ρ (ev p xs ρ)
  | _, _ => True
theorem soundT (G : Gm) : ∀ {s : Sr} (p : P s), SoundT G p
  | _, .gname i => fun E x ρ => tg_name
  | _, .gtup n gs => fun E x ρ => tg_tup (fun xs ρ => soundT G gs E xs ρ)
  | _, .gtl n gs => fun E x ρ => tg_lst (fun xs ρ => soundT G gs E xs ρ)
  | _, .gnil => fun E xs ρ => tgs_nil
  | _, .gcons g gs => fun E xs ρ => tgs_cons (fun x ρ => soundT G g E x ρ) (fun xs ρ => soundT G gs E xs ρ)
  | .e, _ => trivial
  | .a, _ => trivial
  | .r, _ => trivial
  | .m, _ => trivial
  | .t, _ => trivial
  | .o, _ => trivial
  | .i, _ => trivial
  | .p, _ => trivial
  | .s, _ => trivial
  | .f, _ => trivial
  | .x, _ => trivial
  | .xs, _ => trivial
  | .h, _ => trivial
theorem sound (G : Gm) : ∀ {s : Sr} (p : P s), Wf G p → Sound G p
  | _, .var i, _ => fun E ρ => do_var
  | _, .c k, _ => fun E ρ => do_c
  | _, .kt j ds, w => fun E ρ pn H0 B H σ S Q P => by
    obtain ⟨vs, h1, h2⟩ := w B
    exact P _ B H (Go.refl S.ex) (.d (.tup h1 h2))
  | _, .bin o a b, w => fun E ρ => do_bin (sound G a w.1 E ρ) (sound G b w.2 E ρ)
  | _, .neg a, w => fun E ρ => do_neg (sound G a w E ρ)
  | _, .andV a b, w => fun E ρ => do_andV (sound G a w.1 E ρ) (sound G b w.2 E ρ)
  | _, .orV a b, w => fun E ρ => do_orV (sound G a w.1 E ρ) (sound G b w.2 E ρ)
  | _, .notV a, w => fun E ρ => do_notV (sound G a w E ρ)
  | _, .chain o o' a b c, w => fun E ρ => do_chain (sound G a w.1 E ρ) (sound G b w.2.1 E ρ) (sound G c w.2.2 E ρ)
  | _, .chain3 o o' o2 a b c d, w => fun E ρ => do_chain3 (sound G a w.1 E ρ) (sound G b w.2.1 E ρ) (sound G c w.2.2.1 E ρ) (sound G d w.2.2.2 E ρ)
  | _, .ife t a b, w => fun E ρ => do_ife (sound G t w.1 E ρ) (sound G a w.2.1 E ρ) (sound G b w.2.2 E ρ)
  | _, .tup as, w => fun E ρ => do_tup (sound G as w E ρ)
  | _, .lst as, w => fun E ρ => do_lst (sound G as w E ρ)
  | _, .fld cs a f, w => fun E ρ => do_fld (sound G a w.1 E ρ) w.2
  | _, .fldv cs i f, w => fun E ρ => do_fldv w
  | _, .sl a lo hi, w => fun E ρ => do_sl (sound G a w.1 E ρ) (sound G lo w.2.1 E ρ) (sound G hi w.2.2 E ρ)
  | _, .cb o as, w => fun E ρ => do_cb (sound G as w E ρ)
  | _, .isi a T, w => fun E ρ => do_isi (sound G a w E ρ)
  | _, .call ms f as, w => fun E ρ => do_call (w.1 ▸ sound G as w.2 E ρ)
  | _, .tm o a e, w => fun E ρ => do_tm (sound G a w.1 E ρ) (sound G e w.2 E ρ)
  | _, .fn j, _ => fun E ρ => do_fn
  | _, .callv i j ms f as, w => fun E ρ => do_callv (w.1 ▸ sound G as w.2 E ρ)
  | _, .fmt a, w => fun E ρ => do_fmt (sound G a w E ρ)
  | _, .fstr as, w => fun E ρ => do_fstr (sound G as w E ρ)
  | _, .fnil, _ => fun E ρ => do_fnil
  | _, .fcons a as, w => fun E ρ => do_fcons (sound G a w.1 E ρ) (sound G as w.2 E ρ)
  | _, .noE, _ => fun E ρ => do_noE
  | _, .noS, _ => fun E ρ => fun pn B0 H0 B H σ g S D' s0 => s0.elim
  | _, .meth c m ms f o as, w => fun E ρ => do_meth (sound G o w.2.1 E ρ) (w.1 ▸ sound G as w.2.2 E ρ)
  | _, .make c ms f as, w => fun E ρ => do_make (w.1 ▸ sound G as w.2 E ρ)
  | _, .lc it g t e vs, w => fun E ρ => do_lc (sound G it w.1 E ρ) (fun x ρ => soundT G g E0 x ρ) w.2.1 (fun ρ => sound G t w.2.2.1 E0 ρ) (fun ρ => sound G e w.2.2.2 E0 ρ)
  | _, .lc2 it g it2 g2 e vs vs1, w => fun E ρ => do_lc2 (sound G it w.1 E ρ) (fun x ρ => soundT G g E0 x ρ) w.2.1 (fun ρ => sound G it2 w.2.2.1 E0 ρ) (fun x ρ => soundT G g2 E0 x ρ) w.2.2.2.1 (fun ρ => sound G e w.2.2.2.2 E0 ρ)
  | _, .lend i a, w => fun E ρ => do_lend (fun ρ => sound G a w E ρ)
  | _, .rev a, w => fun E ρ => do_rev (sound G a w E ρ)
  | _, .anil, _ => fun E ρ => do_anil
  | _, .acons a as, w => fun E ρ => do_acons (sound G a w.1 E ρ) (sound G as w.2 E ρ)
  | _, .rnil, _ => fun E ρ => do_rnil
  | _, .rcons a as, w => fun E ρ => do_rcons (sound G a w.1 E ρ) (sound G as w.2 E ρ)
  | _, .mnil, _ => fun E ρ => do_mnil
  | _, .mcons b a as, w => fun E ρ => do_mcons (b := b) (sound G a w.1 E ρ) (sound G as w.2 E ρ)
  | _, .tst a, w => fun E ρ => do_tst (sound G a w E ρ)
  | _, .tru a, w => fun E ρ => do_tru (sound G a w E ρ)
  | _, .andT a b, w => fun E ρ => do_andT (sound G a w.1 E ρ) (sound G b w.2 E ρ)
  | _, .orT a b, w => fun E ρ => do_orT (sound G a w.1 E ρ) (sound G b w.2 E ρ)
  | _, .notT a, w => fun E ρ => do_notT (sound G a w E ρ)
  | _, .yes, _ => fun E ρ => do_yes
  | _, .noP, _ => fun E ρ => do_noP
  | _, .someP a, w => fun E ρ => do_someP (sound G a w E ρ)
  | _, .rngv a, w => fun E ρ => do_rngv (sound G a w E ρ)
  | _, .seq a, w => fun E ρ => do_seq (sound G a w E ρ)
  | _, .seqb i, _ => fun E ρ => do_seqb
  | _, .rng1 as, w => fun E ρ => do_rng1 (sound G as w E ρ)
  | _, .rng2 as, w => fun E ρ => do_rng2 (sound G as w E ρ)
  | _, .rng3 as, w => fun E ρ => do_rng3 (sound G as w E ρ)
  | _, .zip as, w => fun E ρ => do_zip (sound G as w E ρ)
  | _, .enum as, w => fun E ρ => do_enum (sound G as w E ρ)
  | _, .enumK as ks, w => fun E ρ => do_enumK (sound G as w.1 E ρ) (sound G ks w.2 E ρ)
  | _, .gname i, _ => soundT G (.gname i)
  | _, .gtup n gs, _ => soundT G (.gtup n gs)
  | _, .gtl n gs, _ => soundT G (.gtl n gs)
  | _, .gnil, _ => soundT G .gnil
  | _, .gcons g gs, _ => soundT G (.gcons g gs)
  | _, .pvar i, _ => trivial
  | _, .pfld c i f, _ => trivial
  | _, .pnst i k, _ => trivial
  | _, .nix i k, _ => fun E ρ => do_nix
  | _, .lrg a, w => fun E ρ => do_lrg (sound G a w E ρ)
  | _, .nset i a b, w => fun E ρ => do_nset (sound G a w.1 E ρ) (sound G b w.2 E ρ)
  | _, .skip, _ => fun E ρ => do_skip
  | _, .sq a b, w => fun E ρ => do_sq (fs := ev a) (sound G a w.1 E ρ) (fun ρ => sound G b w.2 E ρ)
  | _, .asgN i a, w => fun E ρ => do_asgN (sound G a w E ρ)
  | _, .asgG g a, w => fun E ρ => do_asgG (sound G a w E ρ) (fun x ρ => soundT G g E x ρ)
  | _, .asgF i c f a, w => fun E ρ => do_asgF (sound G a w.1 E ρ) w.2.1 w.2.2
  | _, .asgI p ix a, w => fun E ρ => do_asgI w.1 (sound G a w.2.2 E ρ) (sound G ix w.2.1 E ρ)
  | _, .mut o p as, w => fun E ρ => do_mut w.1 (sound G as w.2 E ρ)
  | _, .ext p a, w => fun E ρ => do_ext w.1 (sound G a w.2 E ρ)
  | _, .popD p, w => fun E ρ => do_popD w
  | _, .popG g p, w => fun E ρ => do_popG w (fun x ρ => soundT G g E x ρ)
  | _, .aug i sub a, w => fun E ρ => do_aug (sound G a w E ρ)
  | _, .augI p ix sub a, w => fun E ρ => do_augI w.1 (sound G ix w.2.1 E ρ) (sound G a w.2.2 E ρ)
  | _, .drop a, w => fun E ρ => do_drop (sound G a w E ρ)
  | _, .ret a, w => fun E ρ => do_ret (sound G a w E ρ)
  | _, .retO i, _ => fun E ρ => do_retO
  | _, .retN, _ => fun E ρ => do_retN
  | _, .brk, _ => fun E ρ => do_brk
  | _, .cont, _ => fun E ρ => do_cont
  | _, .raise x, _ => fun E ρ => do_raise
  | _, .ifS t a b, w => fun E ρ => do_ifS (sound G t w.1 E ρ) (sound G a w.2.1 E ρ) (sound G b w.2.2 E ρ)
  | _, .for it g b kill, w => fun E ρ => do_for (sound G it w.1 E ρ) (fun x ρ => soundT G g E x ρ) (fun ρ => sound G b w.2 E ρ)
  | _, .while n t b kill, w => fun E ρ => do_while (fun ρ => sound G t w.1 E ρ) (fun ρ => sound G b w.2 E ρ)
  | _, .try c subs b h, w => fun E ρ => do_try w.1 (fun W => sound G b w.2.1 (WE W) ρ) (fun ρ => sound G h w.2.2 E ρ)
  | _, .try2 c c2 b h h2, w => fun E ρ => do_try2 w.1.1 w.1.2.1 w.1.2.2 (fun W => sound G b w.2.1 (WE W) ρ) (fun ρ => sound G h w.2.2.1 E ρ) (fun ρ => sound G h2 w.2.2.2 E ρ)
  | _, .try3 c c2 c3 b h h2 h3, w => fun E ρ => do_try3 w.1.1 w.1.2.1 w.1.2.2.1 w.1.2.2.2.1 w.1.2.2.2.2.1 w.1.2.2.2.2.2 (fun W => sound G b w.2.1 (WE W) ρ) (fun ρ => sound G h w.2.2.1 E ρ) (fun ρ => sound G h2 w.2.2.2.1 E ρ) (fun ρ => sound G h3 w.2.2.2.2 E ρ)
  | _, .frz i, _ => fun E ρ => do_frz
  | _, .kill is, _ => fun E ρ => do_kill
  | _, .selfS i c m ms f as, w => fun E ρ => do_selfS (w.1 ▸ sound G as w.2 E ρ)
  | _, .raiseF x f a, w => fun E ρ => do_raiseF (sound G a w E ρ)
  | _, .tryA c i subs b h, w => fun E ρ => do_tryA w.1 (fun W => sound G b w.2.1 (WE W) ρ) (sound G h w.2.2 E)
  | _, .xe a, w => fun E => dx_e fun ρ => sound G a w E ρ
  | _, .xf x f, _ => fun E => dx_f
  | _, .xi y ys, _ => fun E => dx_i
  | _, .xtup as, w => fun E => dx_tup (sound G as w E)
  | _, .xand a b, w => fun E => dx_and (sound G a w.1 E) (sound G b w.2 E)
  | _, .xnil, _ => fun E => dx_nil
  | _, .xcons a as, w => fun E => dx_cons (sound G a w.1 E) (sound G as w.2 E)
  | _, .hret a, w => fun E => rx_ret (sound G a w E)
  | _, .hif y ys a b, w => fun E => rx_if (sound G a w.1 E) (sound G b w.2 E)
end Ci
end

section
set_option Elab.async false
set_option linter.all false
set_option maxRecDepth 100000
set_option maxHeartbeats 4000000
/-! ## bodies of defs; calls; the law -/
namespace Ci
open PySem PySem.Spec PyProof.Rows L2 Evl

/-! ### what a def computes -/
def startE : List Bool → List D → En
  | false :: ms, d :: ds => some (.d d) :: startE ms ds
  | true :: ms, .lst es :: ds => some (.brw es) :: startE ms ds
  | true :: ms, _ :: ds => none :: startE ms ds
  | _, _ => []
def padE (n : Nat) (ρ : En) : En := ρ ++ List.replicate (n - ρ.length) none
def SR.toR : SR → R RV
  | .nx _ => .ok (dv .non)
  | .rt v _ => .ok v
  | .err x f _ => .err x f
  | _ => .bad
/-- n names, arguments' modes, the body -/
def runF (n : Nat) (ms : List Bool) (b : P .s) (ds : List D) : R RV := (ev b (padE n (startE ms ds))).toR
def getO (c : Nat) (ρ : En) : R (List (Str × FV)) := match ρ[(0 : Nat)]? with
  | some (some (.obj true c' fs)) => if c' = c then .ok fs else .bad
  | _ => .bad
def SR.toI (c : Nat) : SR → R (List (Str × FV))
  | .nx ρ => getO c ρ
  | .rt (.sv (.fv (.d .non))) ρ => getO c ρ
  | .err x f _ => .err x f
  | _ => .bad
def runI (c n : Nat) (ms : List Bool) (b : P .s) (ds : List D) : R (List (Str × FV)) := (ev b (padE n (some (.obj true c []) :: startE ms ds))).toI c
def SR.toS (c : Nat) : SR → R (D × List (Str × FV))
  | .nx ρ => (getO c ρ).bind fun fs => .ok (.non, fs)
  | .rt (.sv (.fv (.d x))) ρ => (getO c ρ).bind fun fs => .ok (x, fs)
  | .err x f _ => .err x f
  | _ => .bad
def runS (c n : Nat) (ms : List Bool) (b : P .s) : SelfF := fun fs ds => (ev b (padE n (some (.obj true c fs) :: startE ms ds))).toS c
section
variable {G : Gm} {B H H0 : Hp} {pn : Addr}
theorem ArgsOk.len : ∀ {ms : List Bool} {vs : List V} {ds : List D}, ArgsOk G B H ms vs ds → vs.length = ms.length ∧ (startE ms ds).length = vs.length
  | _, _, _, .nil => ⟨rfl, rfl⟩
  | _, _, _, .d _ r => ⟨congrArg Nat.succ r.len.1, congrArg Nat.succ r.len.2⟩
  | _, _, _, .b _ _ r => ⟨congrArg Nat.succ r.len.1, congrArg Nat.succ r.len.2⟩
theorem ArgsOk.slot : ∀ {ms : List Bool} {vs : List V} {ds : List D}, ArgsOk G B H ms vs ds → (∀ a us, H a = some (.lst us) → V.ref a ∈ vs → H0 a = some (.lst us)) → ∀ (i : Nat) (s : SV), (startE ms ds)[i]? = some (some s) → ∃ v, vs[i]? = some v ∧ SlotOk G pn H0 B H v s []
  | _, _, _, .nil, _, i, s, h => by simp [startE] at h
  | _, _, _, .d h r, k, i, s, q => by
    cases i with
    | zero =>
      cases q
      exact ⟨_, rfl, .fv (.d h)⟩
    | succ i => exact r.slot (fun a us h m => k a us h (List.mem_cons_of_mem _ m)) i s q
  | _, _, _, .b h hr r, k, i, s, q => by
    cases i with
    | zero =>
      cases q
      exact ⟨_, rfl, .brw (k _ _ h List.mem_cons_self) hr⟩
    | succ i => exact r.slot (fun a us h m => k a us h (List.mem_cons_of_mem _ m)) i s q
theorem padE_some {n : Nat} {ρ : En} {i : Nat} {s : SV} (h : (padE n ρ)[i]? = some (some s)) : ρ[i]? = some (some s) := by
  unfold padE at h
  by_cases c : i < ρ.length
  · rw [List.getElem?_append_left c] at h
    exact h
  · rw [List.getElem?_append_right (by omega), List.getElem?_replicate] at h
    split at h <;> cases h
theorem start_slots {N : List Str} {ms : List Bool} {vs : List V} {ds : List D} (e : Ex B H) (a : ArgsOk G B H ms vs ds) : Slots G pn H B H (L2.start N vs) (padE N.length (startE ms ds)) := by
  refine ⟨fun _ => [], ?_, Ex.refl H, e, fun i s h => ?_, fun i j si sj a _ _ m _ => nomatch m⟩
  · unfold L2.start padE
    rw [List.length_append, List.length_append, List.length_map, List.length_replicate, List.length_replicate, a.len.2]
  · obtain ⟨v, h1, h2⟩ := a.slot (pn := pn) (fun a us h _ => h) i s (padE_some h)
    refine ⟨v, ?_, h2⟩
    unfold L2.start
    have hi : i < vs.length := (List.getElem?_eq_some_iff.mp h1).1
    rw [List.getElem?_append_left (by rw [List.length_map]; exact hi), List.getElem?_map, h1]
    rfl
theorem toR_sat {E : XK} {r : SR} {Q : VK} (P : Post G E (RvOk G) B H r.toR Q) : Sat G pn (fun _ => E) B H { nx := fun _ H' => Q .non H', rt := Q } r := by
  cases r with
  | nx ρ => exact fun B' H' σ g S => P .non B' H' g (.d .non)
  | rt v ρ =>
    intro B' H' σ w s e nb g S
    subst e
    obtain ⟨ow, as, S', ok, no⟩ := S
    exact P w B' H' g (.sv nb (ok.pin nb))
  | err x f ρ =>
    cases f with
    | none => exact fun B' H' σ g S => P B' H' g
    | some p => exact fun B' H' σ dd v g S a1 a2 => P B' H' dd v g a1 a2
  | bk ρ => exact P.elim
  | ct ρ => exact P.elim
  | bad => exact P.elim
/-- the body's reading from the promise -/
theorem body {N : List Str} {ms : List Bool} {b : P .s} {vs : List V} {Q : VK} {E : XK} (w : Wf G b) (h : Pr G ms (runF N.length ms b) vs H Q E) : den G (fun _ => E) b { nx := fun _ H' => Q .non H', rt := Q } (L2.start N vs) H := by
  obtain ⟨B, ds, e, a, P⟩ := h
  exact sound G b w (fun _ => E) _ 0 B H B H _ (Go.refl e) (start_slots e a) _ (toR_sat P)
theorem Pr.len {ms : List Bool} {f : List D → R RV} {n : Nat} (h : ms.length = n) : ∀ vs H Q E, Pr G ms f vs H Q E → vs.length = n := fun vs H Q E ⟨B, ds, e, a, _⟩ => a.len.1.trans h
/-! self first -/
def off (H : Hp) (as : List Addr) : Hp := fun b => if b ∈ as then none else H b
theorem off_in {as : List Addr} {b : Addr} (h : b ∈ as) : off H as b = none := if_pos h
theorem off_out {as : List Addr} {b : Addr} (h : ¬ b ∈ as) : off H as b = H b := if_neg h
theorem off_ex {as : List Addr} : Ex (off H as) H := fun b o q => by
  by_cases c : b ∈ as
  · rw [off_in c] at q
    cases q
  · rw [off_out c] at q
    exact q
theorem off_go {as : List Addr} {B' H' : Hp} (g : Go B (off H as) B' H') : Off as B H B' H' := ⟨g.bb, fun b o q n hb => g.fr b o (by rw [off_out n]; exact q) hb, fun b o q n => g.hh b o (by rw [off_out n]; exact q)⟩
theorem self_slots {N : List Str} {ms : List Bool} {p dx : Addr} {c : Nat} {fv : List (Str × V)} {fs : List (Str × FV)} {ws : List V} {ds : List D} {as : List Addr} (e : Ex B H) (a : ArgsOk G B H ms ws ds) (hb : B p = none) (hp : H p = some (.ins (G.cm c) dx fv)) (fo : FsOk G (fun _ => none) B H fv fs as) (nd : (p :: as).Nodup)
    (nl : ∀ b us, H b = some (.lst us) → V.ref b ∈ ws → ¬ b ∈ as) : Slots G p (off H (p :: as)) B H (L2.start N (.ref p :: ws)) (padE N.length (some (.obj true c fs) :: startE ms ds)) := by
  refine ⟨fun i => if i = 0 then p :: as else [], ?_, off_ex, e, fun i s h => ?_, fun i j si sj b _ _ m1 m2 => ?_⟩
  · unfold L2.start padE
    rw [List.length_append, List.length_append, List.length_map, List.length_replicate, List.length_replicate, List.length_cons, List.length_cons, a.len.2]
  · have h := padE_some h
    cases i with
    | zero =>
      cases h
      refine ⟨.ref p, rfl, ?_⟩
      exact .obj (fun _ => rfl) (off_in List.mem_cons_self) hb hp (fo.base fun b m => off_in (List.mem_cons_of_mem _ m)) nd
    | succ i =>
      obtain ⟨v, h1, h2⟩ := a.slot (pn := p) (H0 := off H (p :: as)) (fun b us hh m => by
        rw [off_out]
        · exact hh
        · intro z
          rcases List.mem_cons.mp z with z | z
          · rw [z, hp] at hh
            cases hh
          · exact nl b us hh m z) i s h
      refine ⟨v, ?_, h2⟩
      unfold L2.start
      have hi : i < ws.length := (List.getElem?_eq_some_iff.mp h1).1
      rw [List.map_cons, List.cons_append, List.getElem?_cons_succ, List.getElem?_append_left (by rw [List.length_map]; exact hi), List.getElem?_map, h1]
      rfl
  · have z1 : i = 0 := by
      cases i with
      | zero => rfl
      | succ i => cases m1
    have z2 : j = 0 := by
      cases j with
      | zero => rfl
      | succ i => cases m2
    rw [z1, z2]
theorem ArgsOk.slotD : ∀ {ms : List Bool} {vs : List V} {ds : List D}, (ms.all fun b => !b) = true → ArgsOk G B H ms vs ds → ∀ (i : Nat) (s : SV), (startE ms ds)[i]? = some (some s) → ∃ v, vs[i]? = some v ∧ SlotOk G pn H0 B H v s []
  | _, _, _, _, .nil, i, s, h => by simp [startE] at h
  | false :: ms, _, _, m, .d h r, i, s, q => by
    cases i with
    | zero =>
      cases q
      exact ⟨_, rfl, .fv (.d h)⟩
    | succ i => exact ArgsOk.slotD (ms := ms) (by simpa using m) r i s q
  | _, _, _, m, .b h hr r, i, s, q => by cases m
theorem self_slotsD {N : List Str} {ms : List Bool} {p dx : Addr} {c : Nat} {fv : List (Str × V)} {fs : List (Str × FV)} {ws : List V} {ds : List D} {as : List Addr} (hms : (ms.all fun b => !b) = true) (e : Ex B H) (a : ArgsOk G B H ms ws ds) (hb : B p = none) (hp : H p = some (.ins (G.cm c) dx fv)) (fo : FsOk G (fun _ => none) B H fv fs as) (nd : (p :: as).Nodup) :
    Slots G p (off H (p :: as)) B H (L2.start N (.ref p :: ws)) (padE N.length (some (.obj true c fs) :: startE ms ds)) := by
  refine ⟨fun i => if i = 0 then p :: as else [], ?_, off_ex, e, fun i s h => ?_, fun i j si sj b _ _ m1 m2 => ?_⟩
  · unfold L2.start padE
    rw [List.length_append, List.length_append, List.length_map, List.length_replicate, List.length_replicate, List.length_cons, List.length_cons, a.len.2]
  · have h := padE_some h
    cases i with
    | zero =>
      cases h
      refine ⟨.ref p, rfl, ?_⟩
      exact .obj (fun _ => rfl) (off_in List.mem_cons_self) hb hp (fo.base fun b m => off_in (List.mem_cons_of_mem _ m)) nd
    | succ i =>
      obtain ⟨v, h1, h2⟩ := a.slotD (pn := p) (H0 := off H (p :: as)) hms i s h
      refine ⟨v, ?_, h2⟩
      unfold L2.start
      have hi : i < ws.length := (List.getElem?_eq_some_iff.mp h1).1
      rw [List.map_cons, List.cons_append, List.getElem?_cons_succ, List.getElem?_append_left (by rw [List.length_map]; exact hi), List.getElem?_map, h1]
      rfl
  · have z1 : i = 0 := by
      cases i with
      | zero => rfl
      | succ i => cases m1
    have z2 : j = 0 := by
      cases j with
      | zero => rfl
      | succ i => cases m2
    rw [z1, z2]
theorem getO_ok {c : Nat} {ρ : En} {fs : List (Str × FV)} (h : getO c ρ = .ok fs) : ρ[(0 : Nat)]? = some (some (.obj true c fs)) := by
  unfold getO at h
  cases e : ρ[(0 : Nat)]? with
  | none => rw [e] at h; cases h
  | some t =>
    rw [e] at h
    rcases t with _ | (_ | ⟨sf, c', gs⟩ | _) <;> first | (cases h; done) | skip
    cases sf <;> first | (cases h; done) | skip
    simp only at h
    by_cases ec : c' = c
    · rw [if_pos ec] at h
      subst ec
      cases h
      rfl
    · rw [if_neg ec] at h
      cases h
theorem getO_noerr {c : Nat} {ρ : En} {x : Nat} {f : Option (Str × D)} (h : getO c ρ = .err x f) : False := by
  unfold getO at h
  split at h <;> first | (cases h; done) | (split at h <;> cases h)
/-- an __init__'s body -/
theorem bodyI {N : List Str} {ms : List Bool} {b : P .s} {c : Nat} {vs : List V} {Q : VK} {E : XK} (w : Wf G b) (h : PrI G c ms (runI c N.length ms b) vs H Q E) : den G (fun _ => E) b { nx := fun _ H' => Q .non H', rt := Q } (L2.start N vs) H := by
  obtain ⟨B, ds, p, dx, ws, rfl, hp, hb, e, a, k⟩ := h
  have S := self_slots (N := N) (fs := []) e a hb hp .nil (List.nodup_cons.mpr ⟨List.not_mem_nil, List.nodup_nil⟩) (fun _ _ _ _ m => nomatch m)
  refine sound G b w (fun _ => E) _ p B (off H [p]) B H _ ⟨Ex.refl B, e, off_ex, fun _ _ _ q => q⟩ S _ ?_
  have fin : ∀ (ρ : En) (fs : List (Str × FV)), getO c ρ = .ok fs → runI c N.length ms b ds = .ok fs → ∀ B' H' σ, Go B (off H [p]) B' H' → Slots G p (off H [p]) B' H' σ ρ → Q .non H' := fun ρ fs h1 h2 B' H' σ g S => by
    rw [h2] at k
    obtain ⟨l, dy, fv, ow, as, zs, S', e1, e2, e3, e4, e5, e6, e7⟩ := S.obj (getO_ok h1)
    have z := zs rfl
    subst z
    exact k B' H' dy fv as (off_go g) g.bh e4 e5 (e6.base fun b m => by
      have h1 := (e6.addr m).1
      rw [off_out] at h1
      · exact h1
      · intro m2
        rw [List.mem_singleton.mp m2] at m
        exact (List.nodup_cons.mp e7).1 m) e7
  have er : ∀ x f, runI c N.length ms b ds = .err x f → ∀ ρ, XEnd G p (fun _ => E) B (off H [p]) x ρ f := fun x f h ρ => by
    rw [h] at k
    cases f with
    | none => exact fun B' H' σ g S => k B' H' (off_go g) g.bh
    | some q => exact fun B' H' σ dd v g S a1 a2 => k B' H' dd v (off_go g) g.bh a1 a2
  have nb : runI c N.length ms b ds ≠ .bad := fun z => by
    rw [z] at k
    exact k
  unfold runI at fin er nb
  generalize ev b (padE N.length (some (.obj true c []) :: startE ms ds)) = r at *
  cases r with
  | nx ρ =>
    cases hg : getO c ρ with
    | ok fs => exact fin ρ fs hg hg
    | err x f => exact (getO_noerr hg).elim
    | bad => exact absurd hg nb
  | rt v ρ =>
    rcases v with ((x | _ | _ | _) | _ | _) | _ <;> first | exact absurd rfl nb | skip
    cases x <;> first | exact absurd rfl nb | skip
    cases hg : getO c ρ with
    | ok fs =>
      intro B' H' σ v s es nbw g S
      cases es
      obtain ⟨ow, as, S', ok, _⟩ := S
      cases ok with
      | fv ok =>
        generalize hx : FV.d D.non = y at ok
        cases ok with
        | d r =>
          cases hx
          cases r
          exact fin ρ fs hg hg B' H' σ g ⟨ow, S'⟩
        | own _ _ _ r =>
          subst hx
          cases r
    | err x f => exact (getO_noerr hg).elim
    | bad => exact absurd hg nb
  | err x f ρ => exact er x f rfl ρ
  | bk ρ => exact absurd rfl nb
  | ct ρ => exact absurd rfl nb
  | bad => exact absurd rfl nb
theorem PrI.len {c : Nat} {ms : List Bool} {f : List D → R (List (Str × FV))} {n : Nat} (h : ms.length + 1 = n) : ∀ vs H Q E, PrI G c ms f vs H Q E → vs.length = n := fun vs H Q E ⟨B, ds, p, dx, ws, e, _, _, _, a, _⟩ => by
  rw [e, List.length_cons, a.len.1]
  exact h
/-- a body that changes self -/
theorem bodyS {N : List Str} {ms : List Bool} {b : P .s} {c : Nat} {vs : List V} {Q : VK} {E : XK} (w : Wf G b) (hms : (ms.all fun b => !b) = true) (h : PrS G c ms (runS c N.length ms b) vs H Q E) : den G (fun _ => E) b { nx := fun _ H' => Q .non H', rt := Q } (L2.start N vs) H := by
  obtain ⟨B, fs0, ds, p, dx, ws, fv0, as0, rfl, hp, hb, e, fo, nd, a, k⟩ := h
  have S := self_slotsD (N := N) hms e a hb hp fo nd
  refine sound G b w (fun _ => E) _ p B (off H (p :: as0)) B H _ ⟨Ex.refl B, e, off_ex, fun _ _ _ q => q⟩ S _ ?_
  have fin : ∀ (ρ : En) (fs : List (Str × FV)) (x : D), getO c ρ = .ok fs → runS c N.length ms b fs0 ds = .ok (x, fs) → ∀ B' H' σ v, Go B (off H (p :: as0)) B' H' → Slots G p (off H (p :: as0)) B' H' σ ρ → Rep G B' v x → Q v H' := fun ρ fs x h1 h2 B' H' σ v g S r => by
    rw [h2] at k
    obtain ⟨l, dy, fv, ow, as, zs, S', e1, e2, e3, e4, e5, e6, e7⟩ := S.obj (getO_ok h1)
    have z := zs rfl
    subst z
    exact k v B' H' dy fv as (off_go g) g.bh e4 e5 (e6.base fun _ _ => rfl) e7 (fun b m => by
      have h1 := (e6.addr m).1
      by_cases c : b ∈ l :: as0
      · rcases List.mem_cons.mp c with z | z
        · exact absurd (z ▸ m) (List.nodup_cons.mp e7).1
        · exact .inl z
      · rw [off_out c] at h1
        exact .inr h1) r
  have er : ∀ x f, runS c N.length ms b fs0 ds = .err x f → ∀ ρ, XEnd G p (fun _ => E) B (off H (p :: as0)) x ρ f := fun x f h ρ => by
    rw [h] at k
    cases f with
    | none => exact fun B' H' σ g S => k B' H' (off_go g) g.bh
    | some q => exact fun B' H' σ dd v g S a1 a2 => k B' H' dd v (off_go g) g.bh a1 a2
  have nb : runS c N.length ms b fs0 ds ≠ .bad := fun z => by
    rw [z] at k
    exact k
  unfold runS at fin er nb
  generalize ev b (padE N.length (some (.obj true c fs0) :: startE ms ds)) = r at *
  cases r with
  | nx ρ =>
    cases hg : getO c ρ with
    | ok fs => exact fun B' H' σ g S => fin ρ fs .non hg (by show (getO c ρ).bind _ = _; rw [hg]; rfl) B' H' σ .non g S .non
    | err x f => exact (getO_noerr hg).elim
    | bad => exact absurd (by show (getO c ρ).bind _ = _; rw [hg]; rfl) nb
  | rt v ρ =>
    rcases v with ((x | _ | _ | _) | _ | _) | _ <;> first | exact absurd rfl nb | skip
    cases hg : getO c ρ with
    | ok fs =>
      intro B' H' σ v s es nbw g S
      cases es
      obtain ⟨ow, as, S', ok, _⟩ := S
      cases ok with
      | fv ok =>
        generalize hx : FV.d x = y at ok
        cases ok with
        | d r =>
          cases hx
          exact fin ρ fs x hg (by show (getO c ρ).bind _ = _; rw [hg]; rfl) B' H' σ v g ⟨ow, S'⟩ r
        | own _ _ _ r =>
          subst hx
          cases r
    | err x f => exact (getO_noerr hg).elim
    | bad => exact absurd (by show (getO c ρ).bind _ = _; rw [hg]; rfl) nb
  | err x f ρ => exact er x f rfl ρ
  | bk ρ => exact absurd rfl nb
  | ct ρ => exact absurd rfl nb
  | bad => exact absurd rfl nb
theorem PrS.len {c : Nat} {ms : List Bool} {f : SelfF} {n : Nat} (h : ms.length + 1 = n) : ∀ vs H Q E, PrS G c ms f vs H Q E → vs.length = n := fun vs H Q E ⟨B, fs, ds, p, dx, ws, fv, as, e, _, _, _, _, _, a, _⟩ => by
  rw [e, List.length_cons, a.len.1]
  exact h
end
/-! ### rules with the written part named; calls by what is wished at the slots -/
section
variable {X : Cx} {K : PySem.W.Frag} {ta te : TE} {e a : Expr} {pos : Pos}
theorem pe_fldK {f : Str} (h : X.K = K) (he : PE X e ta) (hb : attributeBase e f X.env (eval e X.env) = eval e X.env) : PE X (.Attribute e f pos) (tFld K ta f) := h ▸ pe_fld he hb
theorem pg_tupK {es : List Expr} {k : Nat} {t : TGs} {n : Nat} (hK : X.K = K) (hc : X.calm = true) (h : PGs X es t)
    (hn : (assignEach es X.env).length = n := by rfl) (hst : (assignEach es X.env).findIdx? (·.1) = none := by rfl) : PG X (.Tuple es k pos) (gTup K n t) := hK ▸ pg_tup hc h hn hst
end
/-! calls, by what is wished at the slots -/
section
variable {X : Cx} {CX : CXT} {k : Nat} {f C : Addr} {fd : FuncData} {ps : List Str} {sp : Sp} {E : XE2} {x m : Str} {p pos apos : Pos} {e o : Expr} {es : List Expr} {ta : TE} {t : TA}
theorem pe_cCall (F : FnOk X.prog X.w X.K X.mg X.base CX k f fd ps sp) (hr : Room k X.A) (hg : Gl X x) (hm : X.mg x = some (.ref f)) (hk : PySem.W.keepIn X.K (.ref f) = true) (hb : Binds X.K fd ps []) (hx : ∀ σ, PassesAt CX X σ (E σ)) (ha : PA X (e :: es) t)
    (hdb : (x == ("__debug__" : Str)) = false := by decide) (he : starEach (e :: es) X.env = (false, eval e X.env) :: starEach es X.env := by rfl) (hpl : (backTo pos (starEach es X.env)).any (·.1) = false := by rfl) : PE X (.Call (.Name x p) (e :: es) [] pos) (cCall sp E t) :=
  pe_callS F hr hg hm hk hb hx ha hdb he hpl
theorem pe_cMeth0 {pl : Sem Bool} (he : PE X o ta) (c : Cls X.K C) (hm : Meth X.K C m f) (F : FnOk X.prog X.w X.K X.mg X.base CX k f fd ps sp) (hr : Room k X.A) (hb : Binds X.K fd ps []) (hx : ∀ σ, PassesAt CX X σ (E σ))
    (ht : eval (.Call (.Attribute o m apos) [] [] pos) X.env = (eval o X.env >>= fun ov => standAt apos.atName >>= fun _ => holding [ov] (getMethod ov m pl) >>= fun fm => callWith pos fm.1 fm.2 (backTo pos (starEach [] X.env)) (backToKw pos (keywordEach [] X.env))) := by rfl) :
    PE X (.Call (.Attribute o m apos) [] [] pos) (cMeth C m sp E ta tNil) := by
  refine ⟨fun pins s σ H Q I h => PySem.W.methodCall_KW (pl := pl) (thn (he.run pins s σ H _ I h) fun u s1 w => ?_) ht⟩
  obtain ⟨x, H1, I1, rx, a, dx, fs, rfl, ea, l, q⟩ := w
  cases (show u = Value.ref a from rx)
  exact getmeth_ok I1 ea c hm l (PySem.W.callWith_K0 (first := [.ref a]) I1.kIn hm.kp (run_fnS (us := [.ref a]) (vs := [.ref a]) F hr hb (hx σ) I1 (.cons rfl .nil) q))
theorem run_makeS {pins : List (Addr × Obj)} {σ : L2.St} {H : Hp} {s : Shared} {Q : VK} {us : List Value} {vs : List V} (M : Mk X.K C f) (F : FnOk X.prog X.w X.K X.mg X.base CX k f fd ps sp) (hr : Room (k + 1) X.A) (hb : Binds X.K fd ps []) (hx : PassesAt CX X σ (E σ)) (I : Inv X pins σ H s) (r : Vals vs us)
    (h : ∀ x dx, H x = none → H dx = none → dx ≠ x → sp (.ref x :: vs) (upd (upd H dx (.own x)) x (.ins C dx [])) (fun v H2 => v = .non ∧ Q (.ref x) H2) (E σ)) : wpAny (model X.prog X.w) X.A (call (.ref C) us) (EP X pins σ Q) X.xe s := by
  generalize hz : s.heap.objs.size = z at *
  have hq := h (z + 1) z (I.hok.fresh (by omega)) (I.hok.fresh (by omega)) (Nat.ne_of_lt (Nat.lt_succ_self z))
  have I2 := Inv.made (C := C) I
  rw [hz] at I2
  have r2 : Vals (V.ref (z + 1) :: vs) (Value.ref (z + 1) :: us) := .cons rfl r
  have hl : (Value.ref (z + 1) :: us).length = ps.length := r2.length.symm.trans (F.len _ _ _ _ hq)
  have bn := hb _ (Value.ref (z + 1) :: us) I2.kIn (by rw [List.append_nil]; exact hl)
  rw [List.append_nil] at bn
  refine wpAny_call (make_map (f := f) I.kIn M.makes M.init (beq_iff_eq.mp M.fn) ?_)
  rw [hz]
  refine codeAny_mono (F.run _ X.stack _ _ ⟨Value.ref (z + 1) :: us, []⟩ (Value.ref (z + 1) :: us) _ _ (E σ) (hr.make C us []) (I2.env0.make C us []) bn r2 hq) fun rr s' hq' => ?_
  cases rr with
  | error e => exact hx pins _ _ e s' I2 hq'
  | ok fl =>
    cases fl with
    | ret u =>
      obtain ⟨v, H', I3, rv, ev, q3⟩ := I2.after hq'
      subst ev
      exact ⟨rv, ⟨V.ref (z + 1), H', I3, rfl, q3⟩⟩
    | _ => exact False.elim hq'
theorem pe_cMake (M : Mk X.K C f) (F : FnOk X.prog X.w X.K X.mg X.base CX k f fd ps sp) (hr : Room (k + 1) X.A) (hg : Gl X x) (hm : X.mg x = some (.ref C)) (hb : Binds X.K fd ps []) (hx : ∀ σ, PassesAt CX X σ (E σ)) (ha : PA X (e :: es) t)
    (hdb : (x == ("__debug__" : Str)) = false := by decide) (he : starEach (e :: es) X.env = (false, eval e X.env) :: starEach es X.env := by rfl) (hpl : (backTo pos (starEach es X.env)).any (·.1) = false := by rfl) : PE X (.Call (.Name x p) (e :: es) [] pos) (cMake C sp E t) := by
  refine ⟨fun pins s σ H Q I h => wpAny_Call_Name_kw (ld_glob I hg hm (PySem.W.callWith_K (h₀ := X.base) I.ok.mod.kin M.kp (thn (ha.run pos pins s σ H _ I h) fun us s1 w => ?_) he hpl) hdb)⟩
  obtain ⟨vs, H1, I1, r, q⟩ := w
  exact ⟨I1.kIn, run_makeS (E := E) M F hr hb (hx σ) I1 r q⟩
theorem passLc (σ : L2.St) : PassesAt (L2.CX X.prog X.w) X σ (E0 σ) := fun pins H s e s' I c => passL pins σ H s e s' I c
end
/-! try: .. except: .. -/
section
variable {X : Cx} {K : PySem.W.Frag} {x : Str} {c : Value} {body suite : List Stmt} {b₀ : Stmt} {np pos pos' : Pos} {tb : WX → TS} {ts : Addr → Value → Option Addr → TS} {E : XE2}
end
/-! the law -/
theorem law_start (G : Gm) (f : List D → R RV) (H : Hp) (a : Addr) (ns : List Int) (hS : SqL G.K H a (ns.map V.int)) (h : f [.scr ns] = .ok (dv (.bl true))) : Pr G [false] f [.ref a] H (fun v _ => v = .bl true) fun _ _ _ => False := by
  refine ⟨H, [.scr ns], Ex.refl H, .d (.scr hS) .nil, ?_⟩
  rw [h]
  intro v B' H' _ r
  have r2 : Rdb G B' H' v (.bl true) := RvOk.rd r rfl
  exact r2.bl
theorem exm_self {K : PySem.W.Frag} {S : Addr} (h1 : PySem.W.subIn K (.ref S) (.type "BaseException") = some true) (h2 : PySem.W.isClsIn K S = true) (h3 : PySem.W.typeIn K (.ref S) = some (.type "type")) (h4 : PySem.W.subIn K (.ref S) (.ref S) = some true) :
    PySem.W.exmOne K (.ref S) (.ref S) = some true := by
  have e1 : (PySem.W.subIn K (.ref S) (.type "BaseException") == some true) = true := by rw [h1] <;> rfl
  have e2 : ((PySem.W.clsIn K S).isSome && PySem.W.typeIn K (.ref S) == some (.type "type")) = true := by
    have h2' : (PySem.W.clsIn K S).isSome = true := h2
    rw [h2', h3] <;> rfl
  show (if (PySem.W.subIn K (.ref S) (.type "BaseException") == some true) = true then (if ((PySem.W.clsIn K S).isSome && PySem.W.typeIn K (.ref S) == some (.type "type")) = true then PySem.W.subIn K (.ref S) (.ref S) else none) else none) = some true
  rw [if_pos e1, if_pos e2]
  exact h4
end Ci
namespace Ci
open PySem PySem.Spec PyProof.Rows L2
end Ci
end

section
set_option Elab.async false
set_option linter.all false
set_option maxRecDepth 100000
set_option maxHeartbeats 4000000
/-! ## exceptions with an attribute, suites that raise, suites that name the exception, defs in slots: the derivations -/
namespace Ci
open PySem PySem.Spec PyProof.Rows L2 Evl
def CXn : CXT := fun _ _ _ _ _ _ => False
theorem passn {X : Cx} {E : XK} : Passes CXn X E := fun _ _ _ _ _ _ _ h => h.elim
theorem PrE.len {G : Gm} {x : Nat} {f : Str} {n : Nat} (hn : 2 = n) : ∀ vs H Q E, PrE G x f vs H Q E → vs.length = n := fun vs H Q E ⟨a, y, e, _⟩ => by rw [e, ← hn]; rfl
/-- self.f = f -/
theorem bodyE {G : Gm} {x : Nat} {f : Str} {N : List Str} {vs : List V} {H : Hp} {Q : VK} {E : XK} (T : OexC G.K (G.ca x)) (hno : PySem.W.findIn G.K (.ref (G.ca x)) f = some none) (h : PrE G x f vs H Q E) : tOst G.K f (tVar 0) (tVar 1) { nx := fun _ H' => Q .non H', rt := Q } (L2.start N vs) H := by
  obtain ⟨a, y, rfl, ha, k⟩ := h
  exact ⟨y, rfl, .ref a, rfl, a, G.ca x, rfl, T, hno, .inl ⟨ha, fun dx h1 h2 => k dx h1 h2⟩⟩
section
variable {P : Program} {w : World} {K : PySem.W.Frag} {mg : Str → Option Value} {base : Heap} {x qual : Str} {st : Stmt} {f : Addr} {fd : FuncData} {N ps : List Str} {k : Nat} {sp : Sp}
theorem fun_okCX {CX : CXT} (F : Fun K x qual st f fd) (S : FnScope N ps (defScope st)) (len : ∀ vs H Q E, sp vs H Q E → vs.length = ps.length)
    (hbody : ∀ (cdv : Value) (A : Around) (outer : List Env) (s : Shared) (H : Hp) (vs : List V) (Q : VK) (E : XK), Room k (A.deeper (envOfC qual (defScope st) s.heap.objs.size f cdv)) → sp vs H Q E →
      ∃ t, PSs (cxOf CX P w K mg base N qual (defScope st) f cdv A outer s H E) (defBody st) t ∧ t { nx := fun _ H' => Q .non H', rt := Q } (L2.start N vs) H) : FnOk P w K mg base CX (k + 1) f fd ps sp := by
  obtain ⟨oc, od, kV, doc, pm, an, cdv, ct, osl, rfl, lk, hcd⟩ := F.ex
  exact fn_of lk hcd S len fun A outer s H vs Q E hr hsp => hbody cdv A outer s H vs Q E hr hsp
theorem fun_okH {CX : CXT} (F : Fun K x qual st f fd) (S : FnScope N ps (defScope st)) (len : ∀ vs H Q E, sp vs H Q E → vs.length = ps.length)
    (hbody : ∀ (cdv : Value) (A : Around) (outer : List Env) (s : Shared) (H : Hp) (vs : List V) (Q : VK) (E : XK) (p : Addr × Obj), L2H.Hot1 A p → L2H.RoomH k (A.deeper (envOfC qual (defScope st) s.heap.objs.size f cdv)) → sp vs H Q E →
      ∃ t, PSs (L2H.cxH CX P w K mg base N qual (defScope st) f cdv A outer s H E p) (defBody st) t ∧ t { nx := fun _ H' => Q .non H', rt := Q } (L2.start N vs) H) : L2H.FnH P w K mg base CX (k + 1) f fd ps sp := by
  obtain ⟨oc, od, kV, doc, pm, an, cdv, ct, osl, rfl, lk, hcd⟩ := F.ex
  exact L2H.fn_ofH lk hcd S len fun A outer s H vs Q E p hp hr hsp => hbody cdv A outer s H vs Q E p hp hr hsp
/-- exceptions whose context is told are exceptions -/
theorem okN_ok (F : FnOk P w K mg base (L2N.CX P w) k f fd ps sp) : FnOk P w K mg base (L2.CX P w) k f fd ps sp :=
  ⟨F.len, fun A outer s H args us vs Q E hr he hb hv hs => codeAny_mono (F.run A outer s H args us vs Q E hr he hb hv hs) fun r s' q => by
    cases r with
    | ok fl => cases fl <;> exact q
    | error e =>
      obtain ⟨a, B, H', cls, d, h1, fl, rest⟩ := q
      exact ⟨a, B, H', cls, d, h1, L2H.flyingZ_imp (fun o z => z.zc) fl, rest⟩⟩
end
section
variable {X : Cx} {CX : CXT} {x : Str} {C fI : Addr} {k : Nat} {fd : FuncData} {ps : List Str} {sp : Sp} {e : Expr} {es : List Expr} {ta : TA} {p pos : Pos}
variable {E : XE2} {pos2 : Pos}
/-- raise C(e) -/
theorem ps_raiseF (hc : X.calm = true) (tk : L2.Takes X (fun cl d σ H => E σ cl d H)) (T : OexC X.K C) (iC : PySem.W.findIn X.K (.ref C) "__init__" = some (some (.ref fI))) (tI : PySem.W.typeIn X.K (.ref fI) = some (.type "function"))
    (F1 : FnOk X.prog X.w X.K X.mg X.base CX k fI fd ps sp) (hr : Room (k + 1) X.A) (hb : Binds X.K fd ps []) (hx : Passes CX X (fun _ _ _ => False)) (hg : Gl X x) (hm : X.mg x = some (.ref C)) (ha : PA X (e :: es) ta)
    (hdb : (x == ("__debug__" : Str)) = false := by decide) (he : starEach (e :: es) X.env = (false, eval e X.env) :: starEach es X.env := by rfl) (hpl : (backTo pos (starEach es X.env)).any (·.1) = false := by rfl) :
    PS X (.Raise (some (.Call (.Name x p) (e :: es) [] pos)) none pos2) (fun _ σ H => tMkO C sp [] ta σ H fun cl d H' => E σ cl d H') :=
  L2.ps_raise (W := fun cl d σ H => E σ cl d H) hc tk (pmk_oex T iC tI F1 hr hb .nil hx hg hm ha hdb he hpl)
/-- raise C(e) from None, in a suite -/
theorem ps_raiseFH {j : Nat} {cpos : Pos} (hc : L2H.HotC X) (tk : L2.Takes X (fun cl d σ H => E σ cl d H)) (T : OexC X.K C) (iC : PySem.W.findIn X.K (.ref C) "__init__" = some (some (.ref fI))) (tI : PySem.W.typeIn X.K (.ref fI) = some (.type "function"))
    (F1 : L2H.FnH X.prog X.w X.K X.mg X.base CX k fI fd ps sp) (hr : L2H.RoomH (k + 1) X.A) (hb : Binds X.K fd ps []) (hx : Passes CX X (fun _ _ _ => False)) (hg : Gl X x) (hm : X.mg x = some (.ref C)) (ha : PA X (e :: es) ta)
    (hdb : (x == ("__debug__" : Str)) = false := by decide) (he : starEach (e :: es) X.env = (false, eval e X.env) :: starEach es X.env := by rfl) (hpl : (backTo pos (starEach es X.env)).any (·.1) = false := by rfl) :
    PS X (.Raise (some (.Call (.Name x p) (e :: es) [] pos)) (some (.Constant .none j cpos)) pos2) (fun _ σ H => tMkO C sp [] ta σ H fun cl d H' => E σ cl d H') :=
  L2H.ps_raiseHN (W := fun cl d σ H => E σ cl d H) hc tk (L2H.pmk5_oexH T iC tI F1 hr hc hb hx hg hm ha hdb he hpl)
end
section
variable {X : Cx} {K : PySem.W.Frag} {x n : Str} {c : Value} {i : Nat} {body suite : List Stmt} {b₀ : Stmt} {np pos pos' : Pos} {tb : WX → TS} {ts : Addr → Value → Option Addr → TS} {E : XE2}
/-- try: .. except x: a suite that may raise -/
theorem ps_tryX (hK : X.K = K) (hs : X.stack = X.env :: X.outer) (hf : X.env.frame = some X.env.locals) (hc : Names X x c) (hpa : ∀ hd : Option Value, PassesOwnAt (model X.prog X.w) (X.A.mark hd) X.A X.env X.xe) (tk : L2.Takes X (fun cl d σ H => E σ cl d H))
    (hb : ∀ (W : WX) (pn : List (Addr × Obj)) (xe : Value → Shared → Prop), L2N.Takes (X.tr pn xe) W → PassesOwn (model X.prog X.w) X.A X.env xe → PSs (X.tr pn xe) body (tb W))
    (hsu : ∀ (a : Addr) (oe : Obj) (cls : Value) (d : Option Addr) (pn : List (Addr × Obj)), L2.Takes (L2H.suiteX X a ((a, oe) :: pn)) (fun cl d σ H => E σ cl d H) → L2H.HotC (L2H.suiteX X a ((a, oe) :: pn)) → PSs (L2H.suiteX X a ((a, oe) :: pn)) (b₀ :: suite) (ts a cls d)) :
    PS X (.Try body [.ExceptHandler (some (.Name x np)) none (b₀ :: suite) pos'] [] [] pos) (tTry K c E tb ts) :=
  hK ▸ L2H.ps_try_onlyX hs hf hc hpa tk (fun W pn xe t _ po => hb W pn xe t po) fun a oe cls d pn _ _ t h => hsu a oe cls d pn t h
/-- try: .. except x as n: .. -/
theorem ps_tryAE (hK : X.K = K) (hs : X.stack = X.env :: X.outer) (hf : X.env.frame = some X.env.locals) (hN : X.N.Nodup) (hi : X.N[i]? = some n) (hln : X.env.kindOf n = some .local) (hc : Names X x c) (tk : L2.Takes X (fun cl d σ H => E σ cl d H))
    (hb : ∀ (W : WX) (pn : List (Addr × Obj)) (xe : Value → Shared → Prop), L2.Takes (X.tr pn xe) W → PassesOwn (model X.prog X.w) X.A X.env xe → PSs (X.tr pn xe) body (tb W))
    (hsu : ∀ (a : Addr) (oe : Obj) (cls : Value) (d : Option Addr) (pn : List (Addr × Obj)), Zc cls d oe → (∃ vs, oe.data = .fields vs) → PSs (X.suite a ((a, oe) :: pn)) (b₀ :: suite) (ts a cls d)) :
    PS X (.Try body [.ExceptHandler (some (.Name x np)) (some n) (b₀ :: suite) pos'] [] [] pos) (tTryA K c i E tb ts) := hK ▸ L2.ps_try_as hs hf hN hi hln hc tk hb hsu
end
/-! calls of what a slot holds -/
section
variable {X : Cx} {CX : CXT} {k i : Nat} {f : Addr} {fd : FuncData} {ps : List Str} {sp : Sp} {E : XE2} {x : Str} {p pos : Pos} {e : Expr} {es : List Expr} {t : TA}
theorem pe_cCallL (F : FnOk X.prog X.w X.K X.mg X.base CX k f fd ps sp) (hr : Room k X.A) (hN : X.N[i]? = some x) (hv : Vis X.env.scope x) (hk : PySem.W.keepIn X.K (.ref f) = true) (hb : Binds X.K fd ps []) (hx : ∀ σ, PassesAt CX X σ (E σ)) (ha : PA X (e :: es) t)
    (hdb : (x == ("__debug__" : Str)) = false := by decide) (hcd : (x == ("__classdict__" : Str)) = false := by decide)
    (he : starEach (e :: es) X.env = (false, eval e X.env) :: starEach es X.env := by rfl) (hpl : (backTo pos (starEach es X.env)).any (·.1) = false := by rfl) : PE X (.Call (.Name x p) (e :: es) [] pos) (cCallL i f sp E t) := by
  refine ⟨fun pins s σ H Q I h => ?_⟩
  obtain ⟨hs, ht⟩ := h
  refine wpAny_Call_Name_kw (thn ((pe_var (pos := p) hN hv hdb hcd).run pins s σ H (fun v H1 => v = .ref f ∧ H1 = H) I ⟨.ref f, hs, rfl, rfl⟩) fun u s1 w1 => ?_)
  obtain ⟨v, H1, I1, r1, rfl, rfl⟩ := w1
  obtain rfl : u = Value.ref f := r1
  exact PySem.W.callWith_K (h₀ := X.base) I.ok.mod.kin hk (thn (ha.run pos pins s1 σ _ _ I1 ht) fun us s2 ⟨vs, H2, I2, r, q⟩ => ⟨I2.kIn, run_fnS F hr hb (hx σ) I2 r q⟩) he hpl
end
end Ci
namespace Ci
open PySem PySem.Spec PyProof.Rows L2
end Ci
end

section
set_option Elab.async false
set_option linter.all false
set_option maxRecDepth 100000
set_option maxHeartbeats 4000000
/-! ## for mirrors: how the interpreter goes, as rewriting -/
namespace Ci
open PySem PySem.Spec PyProof.Rows L2 Evl
def spA (K : PySem.W.Frag) (f : List D → R RV) : Sp := fun vs H Q E => ∀ G : Gm, G.K = K → Pr G [false] f vs H Q E
theorem spA_start {K : PySem.W.Frag} {f : List D → R RV} {H : Hp} {a : Addr} {ns : List Int} (hS : SqL K H a (ns.map V.int)) (h : f [.scr ns] = .ok (dv (.bl true))) : spA K f [.ref a] H (fun v _ => v = .bl true) fun _ _ _ => False := fun G e => law_start G f H a ns (by rw [e]; exact hS) h
theorem fn_none {prog : Program} {w : World} {K : PySem.W.Frag} {mg : Str → Option Value} {base : Heap} {CX : CXT} {k : Nat} {f : Addr} {fd : FuncData} {ps : List Str} {sp : Sp} (h : ∀ vs H Q E, ¬ sp vs H Q E) : FnOk prog w K mg base CX k f fd ps sp :=
  ⟨fun vs H Q E q => (h vs H Q E q).elim, fun A outer s H args us vs Q E hr he hb hv hs => (h vs H Q E hs).elim⟩

/-! combinators -/
def sqF (r : SR) (k : En → SR) : SR := match r with
  | .nx ρ => k ρ
  | o => o
def lcS (g : P .g) (t : P .t) (e : P .e) (ρ : En) (x : D) : R (Option D) := ((ev g x ρ).bind fun ρ2 => (ev t ρ2).bind fun k => if k then (ev e ρ2).bind fun y => y.toD.bind fun d => .ok (some d) else .ok none).quiet
def forS (g : P .g) (b : P .s) (x : D) (ρ : En) : SR := (ev g x ρ).gr fun ρ' => ev b ρ'
def tryF (c : List Nat) (r : SR) (k : En → SR) : SR := match r with
  | .err x f ρ' => if x ∈ c then k ρ' else .bad
  | o => o
def tryF3 (c c2 c3 : Nat) (r : SR) (k k2 k3 : En → SR) : SR := match r with
  | .err x f ρ' => if x = c then k ρ' else if x = c2 then k2 ρ' else if x = c3 then k3 ρ' else .bad
  | o => o
def tryF2 (c c2 : Nat) (r : SR) (k k2 : En → SR) : SR := match r with
  | .err x f ρ' => if x = c then k ρ' else if x = c2 then k2 ρ' else .bad
  | o => o
def seqI : RV → R (Bool × List D)
  | .sv (.fv (.d (.lst ds))) => .ok (true, ds)
  | .sv (.fv (.d (.tup ds))) => .ok (true, ds)
  | .sv (.fv (.lst ds)) => .ok (true, ds)
  | .vw (.lst ds) => .ok (false, ds)
  | .sv (.fv (.d (.str s))) => .ok (true, chD s)
  | _ => .bad
def fldF (cs : List Nat) (f : Str) : RV → R RV
  | .sv (.fv (.d (.ins c fs))) => if c ∈ cs then (R.ofO (fs.lookup f)).bind fun d => .ok (dv d) else .bad
  | .sv (.obj false c fs) => if c ∈ cs then getFO (fs.lookup f) else .bad
  | _ => .bad
def rng1F : List D → R (Bool × List D)
  | [.int n] => if -(2 ^ 62) ≤ n ∧ n < 2 ^ 62 then .ok (true, rng 0 n.toNat) else .bad
  | _ => .bad
def rng2F : List D → R (Bool × List D)
  | [.int m, .int n] => if -(2 ^ 62) ≤ m ∧ m < 2 ^ 62 ∧ -(2 ^ 62) ≤ n ∧ n < 2 ^ 62 then .ok (true, rng m (n - m).toNat) else .bad
  | _ => .bad
def rng3F : List D → R (Bool × List D)
  | [.int m, .int n, .int c] => if c = -1 ∧ -(2 ^ 62) ≤ m ∧ m < 2 ^ 62 ∧ -(2 ^ 62) ≤ n ∧ n < 2 ^ 62 then .ok (true, rngD m (m - n).toNat) else .bad
  | _ => .bad
def enumF : List D → R (Bool × List D)
  | [.lst xs] => .ok (true, enD 0 xs)
  | [.tup xs] => .ok (true, enD 0 xs)
  | _ => .bad
theorem enumF_lst {xs : List D} : enumF [.lst xs] = .ok (true, enD 0 xs) := rfl
theorem enumF_tup {xs : List D} : enumF [.tup xs] = .ok (true, enD 0 xs) := rfl
def zipF : List D → R (Bool × List D)
  | [.lst xs, .lst ys] => .ok (true, zipD xs ys)
  | [.tup xs, .tup ys] => .ok (true, zipD xs ys)
  | _ => .bad
def revF : D → R RV
  | .lst ds => .ok (ov (.lst ds.reverse))
  | _ => .bad
theorem zipF_tup {xs ys : List D} : zipF [.tup xs, .tup ys] = .ok (true, zipD xs ys) := rfl
theorem zipF_lst {xs ys : List D} : zipF [.lst xs, .lst ys] = .ok (true, zipD xs ys) := rfl
theorem revF_lst {ds : List D} : revF (.lst ds) = .ok (ov (.lst ds.reverse)) := rfl
def asgNF (i : Nat) (ρ : En) : RV → SR
  | .sv s => .nx (ρ.set i (some s))
  | .vw _ => .bad
def retF (ρ : En) : RV → SR
  | .sv s => .rt (.sv s) ρ
  | .vw _ => .bad
def asgFF (i c' : Nat) (f : Str) (ρ : En) : RV → SR
  | .sv (.fv x) => match ρ[i]? with
    | some (some (.obj sf c fs)) => if c = c' ∧ fs.length < 900 then .nx (ρ.set i (some (.obj sf c (putX f x fs)))) else .bad
    | _ => .bad
  | _ => .bad
def methF (c : Nat) (m : Str) (f : List D → R RV) (as : R (List D)) : RV → R RV
  | .sv (.fv (.d (.ins c' fs))) => if c' = c then (match fs.lookup m with | none => as.bind fun ds => f (.ins c fs :: ds) | some _ => .bad) else .bad
  | _ => .bad
def modeF (b : Bool) (x : RV) : R D := if b then x.rd.bind fun d => (match d with | .lst es => .ok (.lst es) | _ => .bad) else x.toD
def frzF (i : Nat) (ρ : En) : SR := match ρ[i]? with
  | some (some s) => if s.isBrw then .bad else .nx (ρ.set i (some (.d s.dat)))
  | _ => .bad
def retOF (i : Nat) (ρ : En) : SR := match ρ[i]? with
  | some (some s) => if s.isBrw then .bad else .rt (.sv s) (ρ.set i none)
  | _ => .bad
def extF (ρ : En) (p : P .p) (ds : List D) : D → SR
  | .lst es => if ds.length + es.length ≤ sizeLine then .nx (putP ρ (.lst (ds ++ es)) p) else .bad
  | _ => .bad
def augF (i : Nat) (sub : Bool) (ρ : En) (r : R RV) : SR := match ρ[i]? with
  | some (some (.fv (.d (.int m)))) => r.sr ρ fun x => x.toI.gr fun n => .nx (ρ.set i (some (.d (.int (if sub then m - n else m + n)))))
  | _ => .bad
def selfF (i c : Nat) (m : Str) (f : SelfF) (ρ : En) (as : R (List D)) : SR := match ρ[i]? with
  | some (some (.obj sf c' fs)) => if c' = c then (match fs.lookup m with | none => as.sr ρ fun ds => (f fs ds).sr (ρ.set i none) fun r => .nx (ρ.set i (some (.obj sf c r.2))) | some _ => .bad) else .bad
  | _ => .bad
section
variable {ρ : En} {i : Nat}
theorem x_var : ev (.var i) ρ = getV ρ i := rfl
theorem x_c {k : Cn} : ev (.c k) ρ = .ok (dv k.d) := rfl
theorem x_kt {j : Nat} {ds : List D} : ev (.kt j ds) ρ = .ok (dv (.tup ds)) := rfl
theorem x_bin {o : Ci.B2} {a b : P .e} : ev (.bin o a b) ρ = (ev a ρ).bind fun x => (ev b ρ).bind fun y => x.rd.bind fun x => y.rd.bind fun y => o.fn x y := rfl
theorem x_neg {a : P .e} : ev (.neg a) ρ = (ev a ρ).bind fun x => x.toI.bind fun n => .ok (dv (.int (-n))) := rfl
theorem x_andV {a b : P .e} : ev (.andV a b) ρ = (ev a ρ).bind fun x => x.toB.bind fun k => if k then ev b ρ else .ok (dv (.bl false)) := rfl
theorem x_orV {a b : P .e} : ev (.orV a b) ρ = (ev a ρ).bind fun x => x.toB.bind fun k => if k then .ok (dv (.bl true)) else ev b ρ := rfl
theorem x_notV {a : P .e} : ev (.notV a) ρ = (ev a ρ).bind fun x => x.toB.bind fun k => .ok (dv (.bl (!k))) := rfl
theorem x_chain {o o' : Ci.B2} {a b c : P .e} : ev (.chain o o' a b c) ρ = (ev a ρ).bind fun x => (ev b ρ).bind fun y => x.rd.bind fun x => y.rd.bind fun y => (o.fn x y).bind fun z => z.toB.bind fun k => if k then (ev c ρ).bind fun w => w.rd.bind fun w => o'.fn y w else .ok (dv (.bl false)) := rfl
theorem x_chain3 {o o' o2 : Ci.B2} {a b c d : P .e} : ev (.chain3 o o' o2 a b c d) ρ = (ev a ρ).bind fun x => (ev b ρ).bind fun y => x.rd.bind fun x => y.rd.bind fun y => (o.fn x y).bind fun z => z.toB.bind fun k => if k then (ev c ρ).bind fun w => w.rd.bind fun w => (o'.fn y w).bind fun z2 => z2.toB.bind fun k2 => if k2 then (ev d ρ).bind fun u => u.rd.bind fun u => o2.fn w u else .ok (dv (.bl false)) else .ok (dv (.bl false)) := rfl
theorem x_ife {t : P .t} {a b : P .e} : ev (.ife t a b) ρ = (ev t ρ).bind fun k => if k then ev a ρ else ev b ρ := rfl
theorem x_tup {as : P .a} : ev (.tup as) ρ = (ev as ρ).bind fun ds => if ds.length ≤ sizeLine then .ok (dv (.tup ds)) else .bad := rfl
theorem x_lst {as : P .a} : ev (.lst as) ρ = (ev as ρ).bind fun ds => if ds.length ≤ sizeLine then .ok (ov (.lst ds)) else .bad := rfl
theorem x_fld {cs : List Nat} {a : P .e} {f : Str} : ev (.fld cs a f) ρ = (ev a ρ).bind (fldF cs f) := by
  show (ev a ρ).bind _ = (ev a ρ).bind _
  congr 1
theorem x_sl {a : P .e} {lo hi : P .o} : ev (.sl a lo hi) ρ = (ev a ρ).bind fun x => (ev lo ρ).bind fun l => (ev hi ρ).bind fun h => x.rd.bind fun d => slF d l h := rfl
theorem x_cb {o : Cb} {as : P .r} : ev (.cb o as) ρ = (ev as ρ).bind o.fn := rfl
theorem x_isi {a : P .e} {T : String} : ev (.isi a T) ρ = (ev a ρ).bind fun x => x.rd.bind fun d => isiF T d := rfl
theorem x_call {ms : List Bool} {f : List D → R RV} {as : P .m} : ev (.call ms f as) ρ = (ev as ρ).bind f := rfl
theorem x_meth {c : Nat} {m : Str} {ms : List Bool} {f : List D → R RV} {o : P .e} {as : P .m} : ev (.meth c m ms f o as) ρ = (ev o ρ).bind (methF c m f (ev as ρ)) := by
  first
  | rfl
  | (show (ev o ρ).bind _ = _; congr 1; funext x; rcases x with ((x | _ | _ | _) | _ | _) | _ <;> first | rfl | (cases x <;> rfl))
theorem x_make {c : Nat} {ms : List Bool} {f : List D → R (List (Str × FV))} {as : P .m} : ev (.make c ms f as) ρ = (ev as ρ).bind fun ds => (f ds).bind fun fs => .ok (.sv (.obj false c fs)) := rfl
theorem x_lc {it : P .i} {g : P .g} {t : P .t} {e : P .e} {vs : List Nat} : ev (.lc it g t e vs) ρ = (ev it ρ).bind fun xs => if xs.2.length ≤ 1000000 then (lcF (lcS g t e (wipeE ρ vs)) xs.2).bind fun ds => .ok (ov (.lst ds)) else .bad := rfl
def lc2I (g2 : P .g) (e : P .e) (ρ : En) (y : D) : R (List D) := ((ev g2 y ρ).bind fun ρ3 => (ev e ρ3).bind fun v => v.toD.bind fun d => .ok [d]).quiet
def lc2S (g : P .g) (it2 : P .i) (g2 : P .g) (e : P .e) (vs1 : List Nat) (ρ : En) (x : D) : R (List D) := ((ev g x ρ).bind fun ρ2 => (ev it2 ρ2).bind fun ys => if ys.1 = true ∧ ys.2.length ≤ 1000000 then lcA (lc2I g2 e (wipeE ρ2 vs1)) ys.2 else .bad).quiet
theorem x_lc2 {it it2 : P .i} {g g2 : P .g} {e : P .e} {vs vs1 : List Nat} : ev (.lc2 it g it2 g2 e vs vs1) ρ = (ev it ρ).bind fun xs => if xs.2.length ≤ 1000000 then (lcA (lc2S g it2 g2 e vs1 (wipeE ρ vs)) xs.2).bind fun ds => if ds.length ≤ 1000000 then .ok (ov (.lst ds)) else .bad else .bad := rfl
def rngVF : RV → R (Bool × List D) := fun x => x.rd.bind fun
    | .rng lo hi => if -(2 ^ 62) ≤ lo ∧ lo < 2 ^ 62 ∧ -(2 ^ 62) ≤ hi ∧ hi < 2 ^ 62 then .ok (true, rng lo (hi - lo).toNat) else .bad
    | _ => .bad
theorem x_rngv {a : P .e} : ev (.rngv a) ρ = (ev a ρ).bind rngVF := rfl
theorem rngVF_dv {lo hi : Int} (h : -1000000 ≤ lo ∧ lo ≤ 1000000 ∧ -1000000 ≤ hi ∧ hi ≤ 1000000) : rngVF (dv (.rng lo hi)) = .ok (true, rng lo (hi - lo).toNat) := by
  show (if _ then _ else _) = _
  rw [if_pos (by have e : (2 : Int) ^ 62 = 4611686018427387904 := by decide
                 rw [e]; omega)]
theorem k_range1 {n : Int} : Cb.fn .range1 [.int n] = .ok (dv (.rng 0 n)) := rfl
theorem x_anil : ev .anil ρ = .ok [] := rfl
theorem x_acons {a : P .e} {as : P .a} : ev (.acons a as) ρ = (ev a ρ).bind fun x => x.toD.bind fun d => (ev as ρ).bind fun ds => .ok (d :: ds) := rfl
theorem x_rnil : ev .rnil ρ = .ok [] := rfl
theorem x_rcons {a : P .e} {as : P .r} : ev (.rcons a as) ρ = (ev a ρ).bind fun x => x.rd.bind fun d => (ev as ρ).bind fun ds => .ok (d :: ds) := rfl
theorem x_mnil : ev .mnil ρ = .ok [] := rfl
theorem x_mcons {b : Bool} {a : P .e} {as : P .m} : ev (.mcons b a as) ρ = (ev a ρ).bind fun x => (modeF b x).bind fun d => (ev as ρ).bind fun ds => .ok (d :: ds) := rfl
theorem x_tst {a : P .e} : ev (.tst a) ρ = (ev a ρ).bind RV.toB := rfl
theorem x_tru {a : P .e} : ev (.tru a) ρ = (ev a ρ).bind fun x => x.rd.bind truD := rfl
theorem x_andT {a b : P .t} : ev (.andT a b) ρ = (ev a ρ).bind fun k => if k then ev b ρ else .ok false := rfl
theorem x_orT {a b : P .t} : ev (.orT a b) ρ = (ev a ρ).bind fun k => if k then .ok true else ev b ρ := rfl
theorem x_notT {a : P .t} : ev (.notT a) ρ = (ev a ρ).bind fun k => .ok (!k) := rfl
theorem x_yes : ev .yes ρ = .ok true := rfl
theorem x_noP : ev .noP ρ = .ok none := rfl
theorem x_someP {a : P .e} : ev (.someP a) ρ = (ev a ρ).bind fun x => x.toI.bind fun n => .ok (some n) := rfl
theorem x_seq {a : P .e} : ev (.seq a) ρ = (ev a ρ).bind seqI := by
  show (ev a ρ).bind _ = (ev a ρ).bind _
  congr 1
theorem x_rng1 {as : P .a} : ev (.rng1 as) ρ = (ev as ρ).bind rng1F := by
  first
  | rfl
  | (show (ev as ρ).bind _ = _; congr 1; funext x; rcases x with _ | ⟨a, _ | ⟨b, c⟩⟩ <;> first | rfl | (cases a <;> rfl))
theorem x_rng2 {as : P .a} : ev (.rng2 as) ρ = (ev as ρ).bind rng2F := by
  first
  | rfl
  | (show (ev as ρ).bind _ = _; congr 1; funext x; rcases x with _ | ⟨a, _ | ⟨b, _ | ⟨c, d⟩⟩⟩ <;> first | rfl | (cases a <;> first | rfl | (cases b <;> rfl)))
theorem x_rng3 {as : P .a} : ev (.rng3 as) ρ = (ev as ρ).bind rng3F := by
  show (ev as ρ).bind _ = (ev as ρ).bind _
  congr 1
theorem x_enum {as : P .a} : ev (.enum as) ρ = (ev as ρ).bind enumF := by
  show (ev as ρ).bind _ = (ev as ρ).bind _
  congr 1
theorem x_augI {p : P .p} {ix : P .e} {sub : Bool} {a : P .e} : ev (.augI p ix sub a) ρ = (getL ρ p).gr fun ds => (ev ix ρ).sr ρ fun y => y.toI.gr fun n => (getI ds n).gr fun v => (ev a ρ).sr ρ fun z => z.toI.gr fun m => .nx (putP ρ (.lst (ds.set n.toNat (.int (if sub then v - m else v + m)))) p) := rfl
theorem x_zip {as : P .a} : ev (.zip as) ρ = (ev as ρ).bind zipF := by
  show (ev as ρ).bind _ = (ev as ρ).bind _
  congr 1
theorem x_rev {a : P .e} : ev (.rev a) ρ = (ev a ρ).bind fun x => x.rd.bind revF := by
  show (ev a ρ).bind _ = (ev a ρ).bind _
  congr 1
theorem x_gname {x : D} : ev (.gname i) x ρ = .ok (ρ.set i (some (.d x))) := rfl
theorem x_gtl {n : Nat} {gs : P .gs} {ds : List D} : ev (.gtl n gs) (.lst ds) ρ = if ds.length = n then ev gs ds ρ else .bad := rfl
theorem x_gtup {n : Nat} {gs : P .gs} {ds : List D} : ev (.gtup n gs) (.tup ds) ρ = if ds.length = n then ev gs ds ρ else .bad := rfl
theorem x_gnil : ev .gnil [] ρ = .ok ρ := rfl
theorem x_gcons {g : P .g} {gs : P .gs} {x : D} {r : List D} : ev (.gcons g gs) (x :: r) ρ = (ev g x ρ).bind fun ρ' => ev gs r ρ' := rfl
theorem x_skip : ev .skip ρ = .nx ρ := rfl
theorem x_sq {a b : P .s} : ev (.sq a b) ρ = sqF (ev a ρ) (ev b) := by
  first
  | rfl
  | (show (match ev a ρ with | .nx ρ' => ev b ρ' | o => o) = _; cases ev a ρ <;> rfl)
theorem x_asgN {a : P .e} : ev (.asgN i a) ρ = (ev a ρ).sr ρ (asgNF i ρ) := by
  first
  | rfl
  | (show (ev a ρ).sr ρ _ = _; congr 1; funext x; cases x <;> rfl)
theorem x_asgG {g : P .g} {a : P .e} : ev (.asgG g a) ρ = (ev a ρ).sr ρ fun x => x.toD.gr fun d => (ev g d ρ).gr .nx := rfl
theorem x_asgF {c : Nat} {f : Str} {a : P .e} : ev (.asgF i c f a) ρ = (ev a ρ).sr ρ (asgFF i c f ρ) := by
  first
  | rfl
  | (show (ev a ρ).sr ρ _ = _; congr 1; funext x; rcases x with (x | _ | _) | _ <;> rfl)
theorem x_asgI {p : P .p} {ix a : P .e} : ev (.asgI p ix a) ρ = (ev a ρ).sr ρ fun x => x.toD.gr fun d => (getL ρ p).gr fun ds => (ev ix ρ).sr ρ fun y => y.toI.gr fun n => (R.ofO (ixN ds.length n)).gr fun j => .nx (putP ρ (.lst (ds.set j d)) p) := rfl
theorem x_mut {o : Mo} {p : P .p} {as : P .a} : ev (.mut o p as) ρ = (getL ρ p).gr fun xs => (ev as ρ).sr ρ fun ds => (o.fn xs ds).gr fun ys => .nx (putP ρ (.lst ys) p) := rfl
theorem x_ext {p : P .p} {a : P .e} : ev (.ext p a) ρ = (getL ρ p).gr fun ds => (ev a ρ).sr ρ fun y => y.rd.gr (extF ρ p ds) := by
  first
  | rfl
  | (show (getL ρ p).gr _ = _; congr 1; funext ds; congr 1; funext y; congr 1; funext d; cases d <;> rfl)
theorem x_lrg {a : P .e} : ev (.lrg a) ρ = (ev a ρ).bind fun x => x.toI.bind lrgF := rfl
theorem x_nix {i : Nat} {k : Bool} : ev (.nix i k) ρ = (getN k ρ[i]?).bind fun ds => .ok (.vw (.lst ds)) := rfl
theorem x_nset {i : Nat} {a b : P .e} : ev (.nset i a b) ρ = (ev a ρ).sr ρ fun x => x.toL.gr fun xs => (ev b ρ).sr ρ fun y => y.toL.gr fun ys => .nx (ρ.set i (some (.nst xs ys))) := rfl
theorem getN_f {xs ys : List D} : getN false (some (some (.nst xs ys))) = .ok xs := rfl
theorem getN_t {xs ys : List D} : getN true (some (some (.nst xs ys))) = .ok ys := rfl
theorem putN_f {xs ys ds : List D} : putN ds false (some (some (.nst xs ys))) = some (.nst ds ys) := rfl
theorem putN_t {xs ys ds : List D} : putN ds true (some (some (.nst xs ys))) = some (.nst xs ds) := rfl
theorem toL_ov {ds : List D} : RV.toL (ov (.lst ds)) = .ok ds := rfl
theorem x_popD {p : P .p} : ev (.popD p) ρ = (getL ρ p).gr fun ds => if ds.isEmpty then .bad else .nx (putP ρ (.lst ds.dropLast) p) := rfl
theorem x_popG {g : P .g} {p : P .p} : ev (.popG g p) ρ = (getL ρ p).gr fun ds => (R.ofO ds.getLast?).gr fun d => (ev g d (putP ρ (.lst ds.dropLast) p)).gr .nx := rfl
theorem x_aug {sub : Bool} {a : P .e} : ev (.aug i sub a) ρ = augF i sub ρ (ev a ρ) := rfl
theorem x_drop {a : P .e} : ev (.drop a) ρ = (ev a ρ).sr ρ fun _ => .nx ρ := rfl
theorem x_ret {a : P .e} : ev (.ret a) ρ = (ev a ρ).sr ρ (retF ρ) := by
  first
  | rfl
  | (show (ev a ρ).sr ρ _ = _; congr 1; funext x; cases x <;> rfl)
theorem x_retO : ev (.retO i) ρ = retOF i ρ := rfl
theorem x_retN : ev .retN ρ = .rt (dv .non) ρ := rfl
theorem x_brk : ev .brk ρ = .bk ρ := rfl
theorem x_cont : ev .cont ρ = .ct ρ := rfl
theorem x_raise {x : Nat} : ev (.raise x) ρ = .err x none ρ := rfl
theorem x_ifS {t : P .t} {a b : P .s} : ev (.ifS t a b) ρ = (ev t ρ).sr ρ fun k => if k then ev a ρ else ev b ρ := rfl
theorem x_for {it : P .i} {g : P .g} {b : P .s} {kill : List Nat} : ev (.for it g b kill) ρ = (ev it ρ).sr ρ fun xs => if xs.1 then forF (forS g b) kill xs.2 ρ else .bad := rfl
theorem x_while {n : Nat} {t : P .t} {b : P .s} {kill : List Nat} : ev (.while n t b kill) ρ = whF (ev t) (ev b) kill n ρ := rfl
theorem x_try {c : Nat} {subs : List Nat} {b h : P .s} : ev (.try c subs b h) ρ = tryF subs (ev b ρ) (ev h) := by
  first
  | rfl
  | (show (match ev b ρ with | .err x f ρ' => if x ∈ subs then ev h ρ' else .bad | o => o) = _; cases ev b ρ <;> rfl)
theorem x_try2 {c c2 : Nat} {b h h2 : P .s} : ev (.try2 c c2 b h h2) ρ = tryF2 c c2 (ev b ρ) (ev h) (ev h2) := by
  first
  | rfl
  | (show (match ev b ρ with | .err x f ρ' => if x = c then ev h ρ' else if x = c2 then ev h2 ρ' else .bad | o => o) = _; cases ev b ρ <;> rfl)
theorem x_try3 {c c2 c3 : Nat} {b h h2 h3 : P .s} : ev (.try3 c c2 c3 b h h2 h3) ρ = tryF3 c c2 c3 (ev b ρ) (ev h) (ev h2) (ev h3) := by
  first
  | rfl
  | (show (match ev b ρ with | .err x f ρ' => if x = c then ev h ρ' else if x = c2 then ev h2 ρ' else if x = c3 then ev h3 ρ' else .bad | o => o) = _; cases ev b ρ <;> rfl)
theorem x_frz : ev (.frz i) ρ = frzF i ρ := rfl
theorem x_kill {is : List Nat} : ev (.kill is) ρ = .nx (wipeE ρ is) := rfl
theorem x_selfS {c : Nat} {m : Str} {ms : List Bool} {f : SelfF} {as : P .m} : ev (.selfS i c m ms f as) ρ = selfF i c m f ρ (ev as ρ) := rfl
/-! texts, functions as values, exceptions with an attribute -/
def tryAF (i : Nat) (c : List Nat) (r : SR) (k : Nat → Option (Str × D) → En → SR) : SR := match r with
  | .err x f ρ' => if x ∈ c ∧ i < ρ'.length then onlyRt (k x f (ρ'.set i none)) else .bad
  | o => o
theorem x_tm {o : Tm} {a e : P .e} : ev (.tm o a e) ρ = (ev a ρ).bind fun x => x.rd.bind fun d => (asStr d).bind fun s => (ev e ρ).bind fun y => y.rd.bind fun b => o.fn s b := rfl
theorem x_fn {j : Nat} : ev (.fn j) ρ = .ok (dv (.fnc j)) := rfl
theorem x_callv {j : Nat} {ms : List Bool} {f : List D → R RV} {as : P .m} : ev (.callv i j ms f as) ρ = if isFn j ρ[i]? = true then (ev as ρ).bind f else .bad := rfl
theorem isFn_d {j k : Nat} : isFn j (some (some (.d (.fnc k)))) = (k == j) := rfl
theorem x_fmt {a : P .e} : ev (.fmt a) ρ = (ev a ρ).bind fun x => x.rd.bind fmtF := rfl
theorem x_fstr {as : P .f} : ev (.fstr as) ρ = (ev as Str.empty ρ).bind fun s => .ok (dv (.str s)) := rfl
theorem x_fnil {acc : Str} : ev .fnil acc ρ = .ok acc := rfl
theorem x_fcons {a : P .e} {as : P .f} {acc : Str} : ev (.fcons a as) acc ρ = (ev a ρ).bind fun x => x.rd.bind fun d => (asStr d).bind fun s => if (acc ++ s).length ≤ sizeLine then ev as (acc ++ s) ρ else .bad := rfl
theorem x_enumK {as ks : P .a} : ev (.enumK as ks) ρ = (ev as ρ).bind fun xs => (ev ks ρ).bind fun ks => enumKF xs ks := rfl
theorem enumK_ok {xs : List D} {k : Int} (h : -1000000 ≤ k ∧ k ≤ 1000000) : enumKF [.lst xs] [.int k] = .ok (true, enD k xs) := if_pos (by
  have e : (2 : Int) ^ 62 = 4611686018427387904 := by decide
  rw [e]; omega)
theorem x_raiseF {x : Nat} {f : Str} {a : P .e} : ev (.raiseF x f a) ρ = (ev a ρ).sr ρ fun v => v.toD.gr fun d => .err x (some (f, d)) ρ := rfl
theorem x_tryA {c : Nat} {subs : List Nat} {b : P .s} {h : P .h} : ev (.tryA c i subs b h) ρ = tryAF i subs (ev b ρ) (ev h) := by
  first
  | rfl
  | (show (match ev b ρ with | .err x f ρ' => if x ∈ subs ∧ i < ρ'.length then onlyRt (ev h x f (ρ'.set i none)) else .bad | o => o) = _; cases ev b ρ <;> rfl)
theorem tryA_err {c : List Nat} {k : Nat → Option (Str × D) → En → SR} {x : Nat} {f : Option (Str × D)} : tryAF i c (.err x f ρ) k = if x ∈ c ∧ i < ρ.length then onlyRt (k x f (ρ.set i none)) else .bad := rfl
theorem tryA_nx {c : List Nat} {k : Nat → Option (Str × D) → En → SR} : tryAF i c (.nx ρ) k = .nx ρ := rfl
theorem tryA_rt {c : List Nat} {k : Nat → Option (Str × D) → En → SR} {v : RV} : tryAF i c (.rt v ρ) k = .rt v ρ := rfl
theorem only_rt {v : RV} : onlyRt (.rt v ρ) = .rt v ρ := rfl
theorem only_ite {c : Prop} [Decidable c] {a b : SR} : onlyRt (if c then a else b) = if c then onlyRt a else onlyRt b := by split <;> rfl
theorem tryA_ite {c : List Nat} {k : Nat → Option (Str × D) → En → SR} {p : Prop} [Decidable p] {a b : SR} : tryAF i c (if p then a else b) k = if p then tryAF i c a k else tryAF i c b k := by split <;> rfl
section
variable {x : Nat} {fo : Option (Str × D)}
theorem x_xe {a : P .e} : ev (.xe a) x fo ρ = ev a ρ := rfl
theorem x_xf {y : Nat} {f : Str} : ev (.xf y f) x fo ρ = xfF y f x fo := rfl
theorem xf_ok {y : Nat} {f g : Str} {d : D} : xfF y f x (some (g, d)) = if x = y ∧ g = f then .ok (dv d) else .bad := rfl
theorem x_xi {y : Nat} {ys : List (Nat × Bool)} : ev (.xi y ys) x fo ρ = (isX ys x).bind fun b => .ok (dv (.bl b)) := rfl
theorem x_xtup {as : P .xs} : ev (.xtup as) x fo ρ = (ev as x fo ρ).bind fun ds => if ds.length ≤ sizeLine then .ok (dv (.tup ds)) else .bad := rfl
theorem x_xand {a b : P .x} : ev (.xand a b) x fo ρ = (ev a x fo ρ).bind fun v => v.toB.bind fun k => if k then ev b x fo ρ else .ok (dv (.bl false)) := rfl
theorem x_xnil : ev .xnil x fo ρ = .ok [] := rfl
theorem x_xcons {a : P .x} {as : P .xs} : ev (.xcons a as) x fo ρ = (ev a x fo ρ).bind fun v => v.toD.bind fun d => (ev as x fo ρ).bind fun ds => .ok (d :: ds) := rfl
theorem x_hret {a : P .x} : ev (.hret a) x fo ρ = (ev a x fo ρ).sr ρ (retF ρ) := by
  show (ev a x fo ρ).sr ρ _ = (ev a x fo ρ).sr ρ _
  congr 1
theorem x_hif {y : Nat} {ys : List (Nat × Bool)} {a b : P .h} : ev (.hif y ys a b) x fo ρ = (isX ys x).sr ρ fun k => if k then ev a x fo ρ else ev b x fo ρ := rfl
theorem isX_eq {ys : List (Nat × Bool)} : isX ys x = R.ofO (ys.lookup x) := rfl
end
theorem asStr_str {s : Str} : asStr (.str s) = .ok s := rfl
theorem fmt_int {n : Int} (h : n.natAbs.log2 < 1920) : fmtF (.int n) = .ok (dv (.str (strI n))) := if_pos h
theorem fmt_str {s : Str} (h : s.length ≤ sizeLine) : fmtF (.str s) = .ok (dv (.str s)) := if_pos h
theorem tm_split {a b : Str} (h : (b.length == 0) = false ∧ a.length + 2 ≤ sizeLine) : Tm.fn .split a (.str b) = .ok (ov (.lst ((Txt.split a b).map D.str))) := if_pos h
theorem tm_joinL {a : Str} {ys : List Str} (h : (ys.map (fun x => x.length)).sum + ys.length * a.length ≤ 16777216) : Tm.fn .join a (.lst (ys.map D.str)) = .ok (dv (.str (Txt.join a ys))) := by
  show (R.ofO (strsOf _)).bind _ = _
  rw [strsOf_map]
  exact if_pos h
theorem tm_starts {a b : Str} : Tm.fn .starts a (.str b) = .ok (dv (.bl (Txt.startswith a b))) := rfl
theorem seq_s {s : Str} : seqI (dv (.str s)) = .ok (true, chD s) := rfl
/-! values -/
theorem rd_dv {x : D} : (dv x).rd = .ok x := rfl
theorem rd_ov {ds : List D} : (ov (.lst ds)).rd = .ok (.lst ds) := rfl
theorem rd_vw {x : FV} : (RV.vw x).rd = .ok x.dat := rfl
theorem dat_d {x : D} : (FV.d x).dat = x := rfl
theorem dat_lst {ds : List D} : (FV.lst ds).dat = .lst ds := rfl
theorem sdat_fv {x : FV} : (SV.fv x).dat = x.dat := rfl
theorem sdat_obj {sf : Bool} {c : Nat} {fs : List (Str × FV)} : (SV.obj sf c fs).dat = .ins c (fsD fs) := rfl
theorem toD_sv {s : SV} : (RV.sv s).toD = .ok s.dat := rfl
theorem toB_dv {b : Bool} : (dv (.bl b)).toB = .ok b := rfl
theorem toI_dv {n : Int} : (dv (.int n)).toI = .ok n := rfl
theorem mode_f {x : RV} : modeF false x = x.toD := rfl
theorem mode_t {ds : List D} : modeF true (dv (.lst ds)) = .ok (.lst ds) := rfl
theorem mode_o {ds : List D} : modeF true (ov (.lst ds)) = .ok (.lst ds) := rfl
theorem mode_v {ds : List D} : modeF true (.vw (.lst ds)) = .ok (.lst ds) := rfl
theorem cd_int {n : Int} : (Cn.int n).d = .int n := rfl
theorem cd_str {s : String} : (Cn.str s).d = .str s := rfl
theorem cd_bl {b : Bool} : (Cn.bl b).d = .bl b := rfl
theorem cd_non : Cn.non.d = .non := rfl
theorem seq_d {ds : List D} : seqI (dv (.lst ds)) = .ok (true, ds) := rfl
theorem seq_t {ds : List D} : seqI (dv (.tup ds)) = .ok (true, ds) := rfl
theorem seq_o {ds : List D} : seqI (ov (.lst ds)) = .ok (true, ds) := rfl
theorem seq_v {ds : List D} : seqI (.vw (.lst ds)) = .ok (false, ds) := rfl
theorem asgNF_sv {s : SV} : asgNF i ρ (.sv s) = .nx (ρ.set i (some s)) := rfl
theorem retF_sv {s : SV} : retF ρ (.sv s) = .rt (.sv s) ρ := rfl
theorem rng1_int {n : Int} (h : -(2 ^ 62) ≤ n ∧ n < 2 ^ 62) : rng1F [.int n] = .ok (true, rng 0 n.toNat) := if_pos h
theorem rng2_int {m n : Int} (h : -(2 ^ 62) ≤ m ∧ m < 2 ^ 62 ∧ -(2 ^ 62) ≤ n ∧ n < 2 ^ 62) : rng2F [.int m, .int n] = .ok (true, rng m (n - m).toNat) := if_pos h
/-! combinators -/
theorem sq_nx {k : En → SR} : sqF (.nx ρ) k = k ρ := rfl
theorem sq_rt {k : En → SR} {v : RV} : sqF (.rt v ρ) k = .rt v ρ := rfl
theorem sq_err {k : En → SR} {x : Nat} {f : Option (Str × D)} : sqF (.err x f ρ) k = .err x f ρ := rfl
theorem sq_bk {k : En → SR} : sqF (.bk ρ) k = .bk ρ := rfl
theorem sq_ct {k : En → SR} : sqF (.ct ρ) k = .ct ρ := rfl
theorem sq_ite {k : En → SR} {c : Prop} [Decidable c] {a b : SR} : sqF (if c then a else b) k = if c then sqF a k else sqF b k := by split <;> rfl
theorem bind_ite {α β : Type} {c : Prop} [Decidable c] {a b : R α} {k : α → R β} : (if c then a else b).bind k = if c then a.bind k else b.bind k := by split <;> rfl
theorem sr_ite {α : Type} {c : Prop} [Decidable c] {a b : R α} {k : α → SR} : (if c then a else b).sr ρ k = if c then a.sr ρ k else b.sr ρ k := by split <;> rfl
theorem gr_ite {α : Type} {c : Prop} [Decidable c] {a b : R α} {k : α → SR} : (if c then a else b).gr k = if c then a.gr k else b.gr k := by split <;> rfl
theorem try_err {c : List Nat} {k : En → SR} {x : Nat} {f : Option (Str × D)} : tryF c (.err x f ρ) k = if x ∈ c then k ρ else .bad := rfl
theorem try3_err {c c2 c3 : Nat} {k k2 k3 : En → SR} {x : Nat} {f : Option (Str × D)} : tryF3 c c2 c3 (.err x f ρ) k k2 k3 = if x = c then k ρ else if x = c2 then k2 ρ else if x = c3 then k3 ρ else .bad := rfl
theorem try3_nx {c c2 c3 : Nat} {k k2 k3 : En → SR} : tryF3 c c2 c3 (.nx ρ) k k2 k3 = .nx ρ := rfl
theorem try3_rt {c c2 c3 : Nat} {k k2 k3 : En → SR} {v : RV} : tryF3 c c2 c3 (.rt v ρ) k k2 k3 = .rt v ρ := rfl
theorem try2_err {c c2 : Nat} {k k2 : En → SR} {x : Nat} {f : Option (Str × D)} : tryF2 c c2 (.err x f ρ) k k2 = if x = c then k ρ else if x = c2 then k2 ρ else .bad := rfl
theorem try2_nx {c c2 : Nat} {k k2 : En → SR} : tryF2 c c2 (.nx ρ) k k2 = .nx ρ := rfl
theorem try2_rt {c c2 : Nat} {k k2 : En → SR} {v : RV} : tryF2 c c2 (.rt v ρ) k k2 = .rt v ρ := rfl
theorem try_nx {c : List Nat} {k : En → SR} : tryF c (.nx ρ) k = .nx ρ := rfl
theorem try_rt {c : List Nat} {k : En → SR} {v : RV} : tryF c (.rt v ρ) k = .rt v ρ := rfl
theorem toR_nx : (SR.nx ρ).toR = .ok (dv .non) := rfl
theorem toR_rt {v : RV} : (SR.rt v ρ).toR = .ok v := rfl
theorem toR_err {x : Nat} {f : Option (Str × D)} : (SR.err x f ρ).toR = .err x f := rfl
theorem toR_ite {c : Prop} [Decidable c] {a b : SR} : (if c then a else b).toR = if c then a.toR else b.toR := by split <;> rfl
/-! operations -/
theorem o_add {m n : Int} : B2.fn .add (.int m) (.int n) = .ok (dv (.int (m + n))) := rfl
theorem o_addS {s t : Str} (h : s.length + t.length ≤ sizeLine) : B2.fn .add (.str s) (.str t) = .ok (dv (.str (s ++ t))) := if_pos h
theorem o_addL {s t : List D} (h : s.length + t.length ≤ sizeLine) : B2.fn .add (.lst s) (.lst t) = .ok (ov (.lst (s ++ t))) := if_pos h
theorem o_sub {m n : Int} : B2.fn .sub (.int m) (.int n) = .ok (dv (.int (m - n))) := rfl
theorem o_mul {m n : Int} (h : MulOk m n) : B2.fn .mul (.int m) (.int n) = .ok (dv (.int (m * n))) := if_pos h
theorem o_div {m n : Int} (h : CDivW m n) : B2.fn .div (.int m) (.int n) = .ok (dv (.int (m / n))) := if_pos h
theorem o_mod {m n : Int} (h : 0 < n) : B2.fn .mod (.int m) (.int n) = .ok (dv (.int (m % n))) := if_pos h
theorem o_pow {m n : Int} (h : CPow m n) : B2.fn .pow (.int m) (.int n) = .ok (dv (.int (m ^ n.toNat))) := if_pos h
theorem o_lt {m n : Int} : B2.fn .lt (.int m) (.int n) = .ok (dv (.bl (decide (m < n)))) := rfl
theorem o_le {m n : Int} : B2.fn .le (.int m) (.int n) = .ok (dv (.bl (decide (m ≤ n)))) := rfl
theorem o_gt {m n : Int} : B2.fn .gt (.int m) (.int n) = .ok (dv (.bl (decide (n < m)))) := rfl
theorem o_ge {m n : Int} : B2.fn .ge (.int m) (.int n) = .ok (dv (.bl (decide (n ≤ m)))) := rfl
theorem o_eqI {m n : Int} : B2.fn .eq (.int m) (.int n) = .ok (dv (.bl (decide (m = n)))) := rfl
theorem o_neI {m n : Int} : B2.fn .ne (.int m) (.int n) = .ok (dv (.bl (!decide (m = n)))) := rfl
theorem o_shr {m n : Int} (h : 0 ≤ n) : B2.fn .shr (.int m) (.int n) = .ok (dv (.int (m / 2 ^ n.toNat))) := if_pos h
theorem o_band {m n : Int} : B2.fn .band (.int m) (.int n) = .ok (dv (.int (Builtin.bitAnd m n))) := rfl
theorem o_eqS {m n : Str} : B2.fn .eq (.str m) (.str n) = .ok (dv (.bl (decide (m = n)))) := rfl
theorem o_neS {m n : Str} : B2.fn .ne (.str m) (.str n) = .ok (dv (.bl (!decide (m = n)))) := rfl
theorem o_eqB {m n : Bool} : B2.fn .eq (.bl m) (.bl n) = .ok (dv (.bl (m == n))) := rfl
theorem o_neB {m n : Bool} : B2.fn .ne (.bl m) (.bl n) = .ok (dv (.bl (!(m == n)))) := rfl
theorem o_eq {x y : D} (h1 : eqOk x = true) (h2 : eqOk y = true) : B2.fn .eq x y = .ok (dv (.bl (eqv x y))) := by show eqF false x y = _; unfold eqF; rw [h1, h2]; rfl
theorem o_ne {x y : D} (h1 : eqOk x = true) (h2 : eqOk y = true) : B2.fn .ne x y = .ok (dv (.bl (!eqv x y))) := by show eqF true x y = _; unfold eqF; rw [h1, h2]; rfl
theorem o_is {x : D} : B2.fn .is x .non = .ok (dv (.bl x.isNon)) := by cases x <;> rfl
theorem o_isb {a b : Bool} : B2.fn .isb (.bl a) (.bl b) = .ok (dv (.bl (decide (a = b)))) := rfl
theorem o_notb {a b : Bool} : B2.fn .notb (.bl a) (.bl b) = .ok (dv (.bl (!decide (a = b)))) := rfl
theorem o_isnot {x : D} : B2.fn .isnot x .non = .ok (dv (.bl (!x.isNon))) := by cases x <;> rfl
theorem o_ixL {ds : List D} {n : Int} {d : D} (h : L2.atI ds n = some d) : B2.fn .ix (.lst ds) (.int n) = .ok (dv d) := by simp only [B2.fn, ixF, h]; rfl
theorem o_ixT {ds : List D} {n : Int} {d : D} (h : L2.atI ds n = some d) : B2.fn .ix (.tup ds) (.int n) = .ok (dv d) := by simp only [B2.fn, ixF, h]; rfl
theorem o_ixS {ns : List Int} {n d : Int} (h : L2.atI ns n = some d) : B2.fn .ix (.scr ns) (.int n) = .ok (dv (.int d)) := by simp only [B2.fn, ixF, h]; rfl
theorem at_nat {α : Type} {xs : List α} {j : Nat} (h : j < xs.length) : L2.atI xs (j : Int) = xs[j]? := by
  unfold L2.atI ixN
  rw [if_pos (by omega), if_pos (by omega)]
  show xs[(j : Int).toNat]? = _
  rw [Int.toNat_natCast]
theorem at_int {α : Type} {xs : List α} {n : Int} (h0 : 0 ≤ n) (h : n < xs.length) : L2.atI xs n = xs[n.toNat]? := by
  unfold L2.atI ixN
  rw [if_pos h0, if_pos h]
  rfl
theorem at_neg {α : Type} {xs : List α} {n : Int} (h0 : n < 0) (h : -(xs.length : Int) ≤ n) : L2.atI xs n = xs[(n + xs.length).toNat]? := by
  unfold L2.atI ixN
  rw [if_neg (by omega), if_pos h]
  rfl
/-! built-in calls -/
theorem k_lenL {ds : List D} : Cb.fn .len [.lst ds] = .ok (dv (.int ds.length)) := rfl
theorem k_lenT {ds : List D} : Cb.fn .len [.tup ds] = .ok (dv (.int ds.length)) := rfl
theorem k_lenS {ns : List Int} : Cb.fn .len [.scr ns] = .ok (dv (.int ns.length)) := rfl
theorem k_abs {n : Int} : Cb.fn .abs [.int n] = .ok (dv (.int (if n < 0 then -n else n))) := rfl
theorem k_int {n : Int} : Cb.fn .int [.int n] = .ok (dv (.int n)) := rfl
theorem k_intB {b : Bool} : Cb.fn .int [.bl b] = .ok (dv (.int (if b then 1 else 0))) := rfl
theorem k_str {n : Int} (h : n.natAbs.log2 < 1920) : Cb.fn .str [.int n] = .ok (dv (.str (strI n))) := if_pos h
theorem k_listL {ds : List D} : Cb.fn .list [.lst ds] = .ok (ov (.lst ds)) := rfl
theorem k_listT {ds : List D} : Cb.fn .list [.tup ds] = .ok (ov (.lst ds)) := rfl
theorem k_tupL {ds : List D} : Cb.fn .tuple [.lst ds] = .ok (dv (.tup ds)) := rfl
theorem k_tupT {ds : List D} : Cb.fn .tuple [.tup ds] = .ok (dv (.tup ds)) := rfl
theorem k_lenset {ns : List Int} (h : ns.length ≤ 4000) : Cb.fn .lenset [.lst (ns.map D.int)] = .ok (dv (.int (nubN ns : Nat))) := by show (R.ofO (intsOf _)).bind _ = _; rw [intsOf_map]; exact if_pos h
theorem k_lzip {xs ys : List D} (h : xs.length = ys.length ∧ xs.length ≤ sizeLine) : Cb.fn .lzip [.lst xs, .lst ys] = .ok (ov (.lst (zipD xs ys))) := if_pos h
theorem k_sum {ns : List Int} : Cb.fn .sum [.lst (ns.map D.int)] = .ok (dv (.int ns.sum)) := by show (R.ofO (intsOf _)).bind _ = _; rw [intsOf_map]; rfl
theorem k_all {ns : List Bool} : Cb.fn .all [.lst (ns.map D.bl)] = .ok (dv (.bl (ns.all id))) := by show (R.ofO (blsOf _)).bind _ = _; rw [blsOf_map]; rfl
theorem k_any {ns : List Bool} : Cb.fn .any [.lst (ns.map D.bl)] = .ok (dv (.bl (ns.any id))) := by show (R.ofO (blsOf _)).bind _ = _; rw [blsOf_map]; rfl
theorem k_max2 {m n : Int} : Cb.fn .max2 [.int m, .int n] = .ok (dv (.int (max m n))) := rfl
theorem k_min2 {m n : Int} : Cb.fn .min2 [.int m, .int n] = .ok (dv (.int (min m n))) := rfl
theorem k_maxL {n : Int} {ns : List Int} : Cb.fn .maxA [.lst ((n :: ns).map D.int)] = .ok (dv (.int (maxL n ns))) := by show (R.ofO (intsOf _)).bind _ = _; rw [intsOf_map]; rfl
theorem k_minL {n : Int} {ns : List Int} : Cb.fn .minA [.lst ((n :: ns).map D.int)] = .ok (dv (.int (minL n ns))) := by show (R.ofO (intsOf _)).bind _ = _; rw [intsOf_map]; rfl
theorem m_append {ds : List D} {d : D} (h : ds.length < sizeLine) : Mo.fn .append ds [d] = .ok (ds ++ [d]) := if_pos h
theorem m_insert {ds : List D} {d : D} {i : Int} (h : ds.length < sizeLine ∧ 0 ≤ i ∧ i < 2 ^ 63) : Mo.fn .insert ds [.int i, d] = .ok (ds.take i.toNat ++ [d] ++ ds.drop i.toNat) := if_pos h
theorem small {n : Nat} (h : n ≤ 1000000) : n ≤ sizeLine := Nat.le_trans h (by decide)
theorem small' {n : Nat} (h : n ≤ 1000000) : n < sizeLine := Nat.lt_of_le_of_lt h (by decide)
/-! ### loops -/
theorem forF_cons {step : D → En → SR} {kill : List Nat} {x : D} {r : List D} : forF step kill (x :: r) ρ = (match step x ρ with
    | .nx ρ' => forF step kill r (wipeE ρ' kill)
    | .ct ρ' => forF step kill r (wipeE ρ' kill)
    | .bk ρ' => .nx (wipeE ρ' kill)
    | o => o) := rfl
/-- a comprehension without a test -/
theorem lc_map {α : Type} {g : P .g} {t : P .t} {e : P .e} (enc f : α → D) : ∀ {xs : List α}, (∀ a, a ∈ xs → lcS g t e ρ (enc a) = .ok (some (f a))) → lcF (lcS g t e ρ) (xs.map enc) = .ok (xs.map f)
  | [], _ => rfl
  | a :: r, h => by
    show (lcS g t e ρ (enc a)).bind _ = _
    rw [h a List.mem_cons_self, R.bind_ok, lc_map enc f fun b m => h b (List.mem_cons_of_mem _ m)]
    rfl
theorem lc_filter {α : Type} {g : P .g} {t : P .t} {e : P .e} (enc f : α → D) (p : α → Bool) : ∀ {xs : List α}, (∀ a, a ∈ xs → lcS g t e ρ (enc a) = .ok (if p a then some (f a) else none)) → lcF (lcS g t e ρ) (xs.map enc) = .ok ((xs.filter p).map f)
  | [], _ => rfl
  | a :: r, h => by
    show (lcS g t e ρ (enc a)).bind _ = _
    rw [h a List.mem_cons_self, R.bind_ok, lc_filter enc f p fun b m => h b (List.mem_cons_of_mem _ m), R.bind_ok, List.filter_cons]
    cases p a <;> rfl
theorem bool_if_true {α : Type} {a b : α} : (if (true = true) then a else b) = a := rfl
theorem bool_if_false {α : Type} {a b : α} : (if (false = true) then a else b) = b := rfl
theorem and_join {b c : Bool} : (if b = true then R.ok (dv (.bl c)) else R.ok (dv (.bl false))) = R.ok (dv (.bl (b && c))) := by cases b <;> rfl
theorem or_join {b c : Bool} : (if b = true then R.ok (dv (.bl true)) else R.ok (dv (.bl c))) = R.ok (dv (.bl (b || c))) := by cases b <;> rfl
theorem andT_join {b c : Bool} : (if b = true then R.ok c else R.ok false) = R.ok (b && c) := by cases b <;> rfl
theorem orT_join {b c : Bool} : (if b = true then R.ok true else R.ok c) = R.ok (b || c) := by cases b <;> rfl
theorem ixT0 {a0 : D} {l : List D} : B2.fn .ix (.tup (a0 :: l)) (.int 0) = .ok (dv a0) := o_ixT (by rw [at_int (by decide) (by simp only [List.length_cons]; omega)]; rfl)
theorem ixT1 {a0 a1 : D} {l : List D} : B2.fn .ix (.tup (a0 :: a1 :: l)) (.int 1) = .ok (dv a1) := o_ixT (by rw [at_int (by decide) (by simp only [List.length_cons]; omega)]; rfl)
theorem ixT2 {a0 a1 a2 : D} {l : List D} : B2.fn .ix (.tup (a0 :: a1 :: a2 :: l)) (.int 2) = .ok (dv a2) := o_ixT (by rw [at_int (by decide) (by simp only [List.length_cons]; omega)]; rfl)
theorem ixT3 {a0 a1 a2 a3 : D} {l : List D} : B2.fn .ix (.tup (a0 :: a1 :: a2 :: a3 :: l)) (.int 3) = .ok (dv a3) := o_ixT (by rw [at_int (by decide) (by simp only [List.length_cons]; omega)]; rfl)
theorem ixT4 {a0 a1 a2 a3 a4 : D} {l : List D} : B2.fn .ix (.tup (a0 :: a1 :: a2 :: a3 :: a4 :: l)) (.int 4) = .ok (dv a4) := o_ixT (by rw [at_int (by decide) (by simp only [List.length_cons]; omega)]; rfl)
theorem ixT5 {a0 a1 a2 a3 a4 a5 : D} {l : List D} : B2.fn .ix (.tup (a0 :: a1 :: a2 :: a3 :: a4 :: a5 :: l)) (.int 5) = .ok (dv a5) := o_ixT (by rw [at_int (by decide) (by simp only [List.length_cons]; omega)]; rfl)
theorem ixT6 {a0 a1 a2 a3 a4 a5 a6 : D} {l : List D} : B2.fn .ix (.tup (a0 :: a1 :: a2 :: a3 :: a4 :: a5 :: a6 :: l)) (.int 6) = .ok (dv a6) := o_ixT (by rw [at_int (by decide) (by simp only [List.length_cons]; omega)]; rfl)
theorem ixL0 {a0 : D} {l : List D} : B2.fn .ix (.lst (a0 :: l)) (.int 0) = .ok (dv a0) := o_ixL (by rw [at_int (by decide) (by simp only [List.length_cons]; omega)]; rfl)
theorem ixL1 {a0 a1 : D} {l : List D} : B2.fn .ix (.lst (a0 :: a1 :: l)) (.int 1) = .ok (dv a1) := o_ixL (by rw [at_int (by decide) (by simp only [List.length_cons]; omega)]; rfl)
theorem ixL2 {a0 a1 a2 : D} {l : List D} : B2.fn .ix (.lst (a0 :: a1 :: a2 :: l)) (.int 2) = .ok (dv a2) := o_ixL (by rw [at_int (by decide) (by simp only [List.length_cons]; omega)]; rfl)
theorem ixL3 {a0 a1 a2 a3 : D} {l : List D} : B2.fn .ix (.lst (a0 :: a1 :: a2 :: a3 :: l)) (.int 3) = .ok (dv a3) := o_ixL (by rw [at_int (by decide) (by simp only [List.length_cons]; omega)]; rfl)
theorem ixL4 {a0 a1 a2 a3 a4 : D} {l : List D} : B2.fn .ix (.lst (a0 :: a1 :: a2 :: a3 :: a4 :: l)) (.int 4) = .ok (dv a4) := o_ixL (by rw [at_int (by decide) (by simp only [List.length_cons]; omega)]; rfl)
theorem ixL5 {a0 a1 a2 a3 a4 a5 : D} {l : List D} : B2.fn .ix (.lst (a0 :: a1 :: a2 :: a3 :: a4 :: a5 :: l)) (.int 5) = .ok (dv a5) := o_ixL (by rw [at_int (by decide) (by simp only [List.length_cons]; omega)]; rfl)
theorem ixL6 {a0 a1 a2 a3 a4 a5 a6 : D} {l : List D} : B2.fn .ix (.lst (a0 :: a1 :: a2 :: a3 :: a4 :: a5 :: a6 :: l)) (.int 6) = .ok (dv a6) := o_ixL (by rw [at_int (by decide) (by simp only [List.length_cons]; omega)]; rfl)
theorem toI_ite {n : Nat} {c : Prop} [Decidable c] {a b : SR} : (if c then a else b).toI n = if c then a.toI n else b.toI n := by split <;> rfl
theorem toI_nx {n : Nat} : (SR.nx ρ).toI n = getO n ρ := rfl
theorem toI_err {n : Nat} {x : Nat} {f : Option (Str × D)} : (SR.err x f ρ).toI n = .err x f := rfl
theorem getO_x {n : Nat} {fs : List (Str × FV)} : getO n (some (.obj true n fs) :: ρ) = .ok fs := by
  show (if n = n then R.ok fs else .bad) = _
  rw [if_pos rfl]
theorem ofString_inj {a b : String} : (Str.ofString a = Str.ofString b) = (a = b) := by
  apply propext
  constructor
  · intro h
    rw [Str.ofString_eq_toList, Str.ofString_eq_toList] at h
    have h2 : (a.toList.map Char.toNat).toArray = (b.toList.map Char.toNat).toArray := congrArg Str.cps h
    have h3 : a.toList.map Char.toNat = b.toList.map Char.toNat := by simpa using congrArg Array.toList h2
    have inj : ∀ (l m : List Char), l.map Char.toNat = m.map Char.toNat → l = m := fun l => by
      induction l with
      | nil =>
        intro m h
        cases m with
        | nil => rfl
        | cons _ _ => cases h
      | cons c l ih =>
        intro m h
        cases m with
        | nil => cases h
        | cons d m =>
          rw [List.map_cons, List.map_cons] at h
          obtain ⟨h1, h2⟩ := List.cons.inj h
          rw [ih m h2, Char.ext (UInt32.toNat_inj.mp h1)]
    have := inj _ _ h3
    exact String.toList_inj.mp this
  · intro h
    rw [h]
theorem ofString_beq {a b : String} : (Str.ofString a == Str.ofString b) = decide (a = b) := by
  have e : (Str.ofString a == Str.ofString b) = decide (Str.ofString a = Str.ofString b) := rfl
  rw [e]
  simp only [ofString_inj]
theorem sq_bad {k : En → SR} : sqF .bad k = .bad := rfl
theorem toR_bad : SR.bad.toR = .bad := rfl
theorem toI_bad {n : Nat} : SR.bad.toI n = .bad := rfl
end
end Ci
namespace L2
open PySem
theorem Room.units65 {k : Nat} {A : Around} (r : Room k A) : A.units + 65 < cLine := by have := r.un; omega
end L2
end

section
set_option Elab.async false
set_option linter.all false
set_option maxRecDepth 100000
set_option maxHeartbeats 4000000
/-! ## more for mirrors: turns of loops; operations whose conditions omega shows -/
namespace Ci
open PySem PySem.Spec PyProof.Rows L2 Evl
/-- a turn of a loop -/
def wipeR (kill : List Nat) : SR → SR
  | .nx ρ => .nx (wipeE ρ kill)
  | .ct ρ => .nx (wipeE ρ kill)
  | .bk ρ => .bk (wipeE ρ kill)
  | o => o
def finR : SR → SR
  | .bk ρ => .nx ρ
  | o => o
section
variable {ρ : En} {kill : List Nat}
theorem wr_nx : wipeR kill (.nx ρ) = .nx (wipeE ρ kill) := rfl
theorem wr_ct : wipeR kill (.ct ρ) = .nx (wipeE ρ kill) := rfl
theorem wr_bk : wipeR kill (.bk ρ) = .bk (wipeE ρ kill) := rfl
theorem wr_rt {v : RV} : wipeR kill (.rt v ρ) = .rt v ρ := rfl
theorem wr_err {x : Nat} {f : Option (Str × D)} : wipeR kill (.err x f ρ) = .err x f ρ := rfl
theorem wr_bad : wipeR kill .bad = .bad := rfl
theorem wr_ite {c : Prop} [Decidable c] {a b : SR} : wipeR kill (if c then a else b) = if c then wipeR kill a else wipeR kill b := by split <;> rfl
theorem try_ite {cs : List Nat} {k : En → SR} {c : Prop} [Decidable c] {a b : SR} : tryF cs (if c then a else b) k = if c then tryF cs a k else tryF cs b k := by split <;> rfl
theorem forF_turn {step : D → En → SR} {x : D} {r : List D} : forF step kill (x :: r) ρ = (match wipeR kill (step x ρ) with
    | .nx ρ' => forF step kill r ρ'
    | o => finR o) := by
  rw [forF_cons]
  cases step x ρ <;> rfl
theorem for_list {α : Type} {step : D → En → SR} (enc : α → D) : ∀ {xs : List α} (E : Nat → En), (∀ k (h : k < xs.length), wipeR kill (step (enc xs[k]) (E k)) = .nx (E (k + 1))) → forF step kill (xs.map enc) (E 0) = .nx (E xs.length)
  | [], E, _ => rfl
  | a :: r, E, h => by
    rw [List.map_cons, forF_turn, show wipeR kill (step (enc a) (E 0)) = .nx (E 1) from h 0 (Nat.succ_pos _)]
    exact for_list enc (fun k => E (k + 1)) fun k hk => h (k + 1) (Nat.succ_lt_succ hk)
theorem for_rng {step : D → En → SR} {lo : Int} {n : Nat} (E : Nat → En) (h : ∀ k, k < n → wipeR kill (step (.int (lo + k)) (E k)) = .nx (E (k + 1))) : forF step kill (rng lo n) (E 0) = .nx (E n) := by
  have := for_list (step := step) (kill := kill) (fun k : Nat => D.int (lo + (k : Int))) (xs := List.range n) E fun k hk => by
    rw [List.getElem_range]
    rw [List.length_range] at hk
    exact h k hk
  rw [List.length_range] at this
  exact this
end
instance : Inhabited Str := ⟨⟨#[]⟩⟩
/-- what stands at a place that there is -/
def at0 {α : Type} [Inhabited α] (xs : List α) (i : Int) : α := xs.getD i.toNat default
section
variable {α : Type} [Inhabited α] {xs : List α} {i : Int} {f : α → D}
theorem at0_some (h0 : 0 ≤ i) (h1 : i < xs.length) : xs[i.toNat]? = some (at0 xs i) := by
  unfold at0
  rw [List.getD_eq_getElem?_getD, List.getElem?_eq_getElem (show i.toNat < xs.length by omega)]
  rfl
theorem at0_mem (h0 : 0 ≤ i) (h1 : i < xs.length) : at0 xs i ∈ xs := List.mem_of_getElem? (at0_some h0 h1)
theorem q_ixL (h0 : 0 ≤ i) (h1 : i < xs.length) : B2.fn .ix (.lst (xs.map f)) (.int i) = .ok (dv (f (at0 xs i))) := o_ixL (by
  rw [at_int h0 (by rw [List.length_map]; exact h1), List.getElem?_map, at0_some h0 h1]
  rfl)
theorem q_ixT (h0 : 0 ≤ i) (h1 : i < xs.length) : B2.fn .ix (.tup (xs.map f)) (.int i) = .ok (dv (f (at0 xs i))) := o_ixT (by
  rw [at_int h0 (by rw [List.length_map]; exact h1), List.getElem?_map, at0_some h0 h1]
  rfl)
theorem q_ixS {ns : List Int} (h0 : 0 ≤ i) (h1 : i < ns.length) : B2.fn .ix (.scr ns) (.int i) = .ok (dv (.int (at0 ns i))) := o_ixS (by
  rw [at_int h0 h1, at0_some h0 h1])
theorem q_ixLast (h1 : 0 < xs.length) : B2.fn .ix (.lst (xs.map f)) (.int (-1)) = .ok (dv (f (at0 xs (xs.length - 1)))) := o_ixL (by
  rw [at_neg (by omega) (by rw [List.length_map]; omega), List.getElem?_map, List.length_map, show (-1 + (xs.length : Int)).toNat = ((xs.length : Int) - 1).toNat by omega, at0_some (by omega) (by omega)]
  rfl)
end
section
variable {m n : Int}
theorem q_mulR (h1 : -18446744073709551616 < n) (h2 : n < 18446744073709551616) : B2.fn .mul (.int m) (.int n) = .ok (dv (.int (m * n))) := o_mul (mulR h1 h2)
theorem q_mulL (h1 : -18446744073709551616 < m) (h2 : m < 18446744073709551616) : B2.fn .mul (.int m) (.int n) = .ok (dv (.int (m * n))) := o_mul (mulL h1 h2)
theorem log2_lt {n k : Nat} (h : n < 2 ^ k) (hk : 0 < k) : n.log2 < k := by
  by_cases c : n = 0
  · subst c
    exact hk
  · exact (Nat.log2_lt c).mpr h
theorem q_div (h0 : 0 < n) (h1 : n < 18446744073709551616) : B2.fn .div (.int m) (.int n) = .ok (dv (.int (m / n))) := o_div ⟨h0, Nat.lt_of_lt_of_le (log2_lt (k := 64) (by omega) (by decide)) (by decide)⟩
theorem q_mod (h : 0 < n) : B2.fn .mod (.int m) (.int n) = .ok (dv (.int (m % n))) := o_mod h
theorem q_pow (h0 : 0 ≤ n) (h1 : n ≤ 1000000) (h2 : -18446744073709551616 < m) (h3 : m < 18446744073709551616) : B2.fn .pow (.int m) (.int n) = .ok (dv (.int (m ^ n.toNat))) := o_pow ⟨h0, h1, by omega⟩
theorem q_addL {s t : List D} (h : s.length + t.length ≤ 1000000) : B2.fn .add (.lst s) (.lst t) = .ok (ov (.lst (s ++ t))) := o_addL (small h)
theorem q_lrg {n : Int} (h0 : 0 ≤ n) (h1 : n ≤ 1000000) : lrgF n = .ok (ov (.lst (rng 0 n.toNat))) := if_pos ⟨by omega, h1⟩
theorem q_lzip {xs ys : List D} (h : xs.length = ys.length) (h2 : xs.length ≤ 1000000) : Cb.fn .lzip [.lst xs, .lst ys] = .ok (ov (.lst (zipD xs ys))) := k_lzip ⟨h, small h2⟩
theorem q_append {ds : List D} {d : D} (h : ds.length ≤ 1000000) : Mo.fn .append ds [d] = .ok (ds ++ [d]) := m_append (small' h)
theorem q_insert {ds : List D} {d : D} {i : Int} (h : ds.length ≤ 1000000) (h0 : 0 ≤ i) (h1 : i ≤ 1000000) : Mo.fn .insert ds [.int i, d] = .ok (ds.take i.toNat ++ [d] ++ ds.drop i.toNat) := m_insert ⟨small' h, h0, by omega⟩
theorem q_line {n : Nat} (h : n ≤ 1000000) : (n ≤ sizeLine) = True := eq_true (small h)
theorem q_line' {n : Nat} (h : n ≤ 1000000) : (n < sizeLine) = True := eq_true (small' h)
theorem q_mil {n : Nat} (h : n ≤ 1000000) : (n ≤ 1000000) = True := eq_true h
theorem q_rng1 (h0 : -1000000000000 ≤ n) (h : n ≤ 1000000000000) : rng1F [.int n] = .ok (true, rng 0 n.toNat) := rng1_int (by omega)
theorem q_rng2 (h0 : -1000000000000 ≤ n) (h : n ≤ 1000000000000) (h1 : -1000000000000 ≤ m) (h2 : m ≤ 1000000000000) : rng2F [.int m, .int n] = .ok (true, rng m (n - m).toNat) := rng2_int (by omega)
end
theorem q_rng3 {m n : Int} (h0 : -1000000000000 ≤ n) (h : n ≤ 1000000000000) (h1 : -1000000000000 ≤ m) (h2 : m ≤ 1000000000000) : rng3F [.int m, .int n, .int (-1)] = .ok (true, rngD m (m - n).toNat) := if_pos ⟨rfl, by omega, by omega, by omega, by omega⟩
theorem q_rep {xs : List D} {n : Int} (h0 : 0 ≤ n) (h1 : n ≤ 1000000) (h2 : xs.length * n.toNat ≤ 1000000) : B2.fn .mul (.lst xs) (.int n) = .ok (ov (.lst (List.replicate n.toNat xs).flatten)) := by
  show (if n < 2 ^ 63 ∧ -(2 ^ 63) ≤ n ∧ xs.length * n.toNat ≤ sizeLine then R.ok (ov (.lst (List.replicate n.toNat xs).flatten)) else .bad) = _
  rw [if_pos ⟨by omega, by omega, small h2⟩]
theorem q_rep1 {x : D} {n : Int} (h0 : 0 ≤ n) (h1 : n ≤ 1000000) : B2.fn .mul (.lst [x]) (.int n) = .ok (ov (.lst (List.replicate n.toNat x))) := by
  rw [q_rep h0 h1 (by rw [List.length_singleton]; omega)]
  congr 4
  generalize n.toNat = k
  induction k with
  | zero => rfl
  | succ k ih => rw [List.replicate_succ, List.flatten_cons, ih]; rfl
theorem map_snoc {α β : Type} (f : α → β) (l : List α) (x : α) : l.map f ++ [f x] = (l ++ [x]).map f := by rw [List.map_append]; rfl
theorem map_consf {α β : Type} (f : α → β) (l : List α) (x : α) : f x :: l.map f = (x :: l).map f := rfl
/-- a comprehension over numbers -/
theorem lc_rng {g : P .g} {t : P .t} {e : P .e} {ρ : En} (lo : Int) (n : Nat) (f : Nat → D) (h : ∀ k, k < n → lcS g t e ρ (.int (lo + k)) = .ok (some (f k))) : lcF (lcS g t e ρ) (rng lo n) = .ok ((List.range n).map f) := by
  unfold rng
  refine lc_map (fun k : Nat => D.int (lo + (k : Int))) f fun k hk => h k (List.mem_range.mp hk)
theorem quiet_okS {α : Type} {a : α} : (R.ok a).quiet = .ok a := rfl
theorem quiet_ite {α : Type} {c : Prop} [Decidable c] {a b : R α} : (if c then a else b).quiet = if c then a.quiet else b.quiet := by split <;> rfl
/-- a field of what stands in a slot -/
def fldO (cs : List Nat) (f : Str) : Option (Option SV) → R RV
  | some (some (.obj sf c fs)) => if c ∈ cs then (match fs.lookup f with
    | some (.d x) => .ok (dv x)
    | some x => .ok (.vw x)
    | none => .bad) else .bad
  | some (some (.fv (.d (.ins c fs)))) => if c ∈ cs then (match fs.lookup f with
    | some x => .ok (dv x)
    | none => .bad) else .bad
  | _ => .bad
theorem q_fldv {cs : List Nat} {f : Str} {i : Nat} {ρ : En} : ev (.fldv cs i f) ρ = fldO cs f ρ[i]? := by
  show getF cs ρ i f = _
  unfold getF fldO
  cases ρ[i]? with
  | none => rfl
  | some s =>
    cases s with
    | none => rfl
    | some s =>
      rcases s with (x | _ | _ | _) | ⟨sf, c, fs⟩ | _ <;> first | rfl | (cases x <;> rfl)
theorem lk_yes {α : Type} {f : Str} {x : α} {r : List (Str × α)} : ((f, x) :: r).lookup f = some x := by rw [List.lookup_cons, beq_self_eq_true]
end Ci
namespace Ci
open PySem PySem.Spec PyProof.Rows L2 Evl
/-- a list that a slot lends -/
def seqbO : Option (Option SV) → R (Bool × List D)
  | some (some (.brw ds)) => .ok (true, ds)
  | _ => .bad
theorem x_seqb' {i : Nat} {ρ : En} : ev (.seqb i) ρ = seqbO ρ[i]? := by
  show (match ρ[i]? with | some (some (.brw ds)) => R.ok (true, ds) | _ => .bad) = _
  unfold seqbO
  rfl
def lendO (i : Nat) (a : P .e) (ρ : En) : Option (Option SV) → R RV
  | some (some (.fv (.lst ds))) => lentR (ev a (ρ.set i (some (.d (.lst ds)))))
  | _ => .bad
theorem x_lend' {i : Nat} {a : P .e} {ρ : En} : ev (.lend i a) ρ = lendO i a ρ ρ[i]? := by
  show (match ρ[i]? with | some (some (.fv (.lst ds))) => lentR (ev a (ρ.set i (some (.d (.lst ds))))) | _ => .bad) = _
  unfold lendO
  rfl
theorem lendO_lst {i : Nat} {a : P .e} {ρ : En} {ds : List D} : lendO i a ρ (some (some (.fv (.lst ds)))) = lentR (ev a (ρ.set i (some (.d (.lst ds))))) := rfl
theorem seqbO_brw {ds : List D} : seqbO (some (some (.brw ds))) = .ok (true, ds) := rfl
theorem kit_bool {b : Bool} : (if b = true then true else false) = b := by cases b <;> rfl
end Ci
namespace Ci
open PySem PySem.Spec PyProof.Rows L2 Evl
section
variable {m : Int} {n : Nat}
theorem q_mulRl (h : n < 18446744073709551616) : B2.fn .mul (.int m) (.int (no_index (OfNat.ofNat n))) = .ok (dv (.int (m * OfNat.ofNat n))) := q_mulR (by show -18446744073709551616 < ((n : Nat) : Int); omega) (by show ((n : Nat) : Int) < 18446744073709551616; omega)
theorem q_mulLl (h : n < 18446744073709551616) : B2.fn .mul (.int (no_index (OfNat.ofNat n))) (.int m) = .ok (dv (.int (OfNat.ofNat n * m))) := q_mulL (by show -18446744073709551616 < ((n : Nat) : Int); omega) (by show ((n : Nat) : Int) < 18446744073709551616; omega)
theorem q_divl (h : 0 < n) (h1 : n < 18446744073709551616) : B2.fn .div (.int m) (.int (no_index (OfNat.ofNat n))) = .ok (dv (.int (m / OfNat.ofNat n))) := q_div (by show 0 < ((n : Nat) : Int); omega) (by show ((n : Nat) : Int) < 18446744073709551616; omega)
theorem q_modl (h : 0 < n) : B2.fn .mod (.int m) (.int (no_index (OfNat.ofNat n))) = .ok (dv (.int (m % OfNat.ofNat n))) := q_mod (by show 0 < ((n : Nat) : Int); omega)
theorem q_mulE {a b : Int} (h : 0 < n) (h1 : n < 18446744073709551616) : B2.fn .mul (.int (a % (no_index (OfNat.ofNat n)))) (.int b) = .ok (dv (.int (a % OfNat.ofNat n * b))) := by
  have h2 := Int.emod_nonneg a (show ((OfNat.ofNat n : Int)) ≠ 0 by show ((n : Nat) : Int) ≠ 0; omega)
  have h3 := Int.emod_lt_of_pos a (show 0 < ((OfNat.ofNat n : Int)) by show 0 < ((n : Nat) : Int); omega)
  have h4 : ((OfNat.ofNat n : Int)) < 18446744073709551616 := by show ((n : Nat) : Int) < _; omega
  exact q_mulL (by omega) (by omega)
theorem q_appendM {α : Type} {xs : List α} {f : α → D} {d : D} (h : xs.length ≤ 1000000) : Mo.fn .append (xs.map f) [d] = .ok (xs.map f ++ [d]) := q_append (by rw [List.length_map]; exact h)
theorem q_insertM {α : Type} {xs : List α} {f : α → D} {x : D} {i : Int} (h : xs.length ≤ 1000000) (h0 : 0 ≤ i) (h1 : i ≤ 1000000) : Mo.fn .insert (xs.map f) [.int i, x] = .ok ((xs.map f).take i.toNat ++ [x] ++ (xs.map f).drop i.toNat) := q_insert (by rw [List.length_map]; exact h) h0 h1
theorem q_append0 {d : D} : Mo.fn .append [] [d] = .ok [d] := q_append (ds := []) (by simp)
end
end Ci
namespace Ci
open PySem PySem.Spec PyProof.Rows L2 Evl
theorem isi_eq {T : String} {d : D} {t : String} {k : Bool} (h1 : tyD d = some t) (h2 : kitB t T = some k) : isiF T d = .ok (dv (.bl k)) := by
  unfold isiF
  rw [h1]
  show (R.ofO (kitB t T)).bind _ = _
  rw [h2]
  rfl
theorem i_nb : isiF "bool" .non = .ok (dv (.bl false)) := isi_eq rfl (by decide)
theorem i_bb {b : Bool} : isiF "bool" (.bl b) = .ok (dv (.bl true)) := isi_eq rfl (by decide)
theorem i_ib {b : Int} : isiF "bool" (.int b) = .ok (dv (.bl false)) := isi_eq rfl (by decide)
theorem i_sb {b : Str} : isiF "bool" (.str b) = .ok (dv (.bl false)) := isi_eq rfl (by decide)
theorem i_tb {b : List D} : isiF "bool" (.tup b) = .ok (dv (.bl false)) := isi_eq rfl (by decide)
theorem i_lb {b : List D} : isiF "bool" (.lst b) = .ok (dv (.bl false)) := isi_eq rfl (by decide)
theorem i_ns : isiF "str" .non = .ok (dv (.bl false)) := isi_eq rfl (by decide)
theorem i_is {b : Int} : isiF "str" (.int b) = .ok (dv (.bl false)) := isi_eq rfl (by decide)
theorem i_ss {b : Str} : isiF "str" (.str b) = .ok (dv (.bl true)) := isi_eq rfl (by decide)
theorem i_ts {b : List D} : isiF "str" (.tup b) = .ok (dv (.bl false)) := isi_eq rfl (by decide)
theorem i_ls {b : List D} : isiF "str" (.lst b) = .ok (dv (.bl false)) := isi_eq rfl (by decide)
theorem i_ni : isiF "int" .non = .ok (dv (.bl false)) := isi_eq rfl (by decide)
theorem i_ii {b : Int} : isiF "int" (.int b) = .ok (dv (.bl true)) := isi_eq rfl (by decide)
theorem i_ti {b : List D} : isiF "int" (.tup b) = .ok (dv (.bl false)) := isi_eq rfl (by decide)
theorem i_li {b : List D} : isiF "int" (.lst b) = .ok (dv (.bl false)) := isi_eq rfl (by decide)
theorem i_tl {b : List D} : isiF "list" (.tup b) = .ok (dv (.bl false)) := isi_eq rfl (by decide)
theorem i_ll {b : List D} : isiF "list" (.lst b) = .ok (dv (.bl true)) := isi_eq rfl (by decide)
theorem i_tt {b : List D} : isiF "tuple" (.tup b) = .ok (dv (.bl true)) := isi_eq rfl (by decide)
theorem i_lt {b : List D} : isiF "tuple" (.lst b) = .ok (dv (.bl false)) := isi_eq rfl (by decide)
end Ci
namespace Ci
open PySem PySem.Spec PyProof.Rows L2 Evl
def fvR : Option FV → R RV
  | some (.d x) => .ok (dv x)
  | some x => .ok (.vw x)
  | none => .bad
theorem fvR_d {x : D} : fvR (some (.d x)) = .ok (dv x) := rfl
theorem fvR_lst {x : List D} : fvR (some (.lst x)) = .ok (.vw (.lst x)) := rfl
def dvR : Option D → R RV
  | some x => .ok (dv x)
  | none => .bad
theorem dvR_some {x : D} : dvR (some x) = .ok (dv x) := rfl
theorem fldO_obj {cs : List Nat} {f : Str} {sf : Bool} {c : Nat} {fs : List (Str × FV)} : fldO cs f (some (some (.obj sf c fs))) = if c ∈ cs then fvR (fs.lookup f) else .bad := by
  unfold fldO fvR
  rfl
theorem fldO_ins {cs : List Nat} {f : Str} {c : Nat} {fs : List (Str × D)} : fldO cs f (some (some (.fv (.d (.ins c fs))))) = if c ∈ cs then dvR (fs.lookup f) else .bad := by
  unfold fldO dvR
  rfl
end Ci
namespace Ci
open PySem PySem.Spec PyProof.Rows L2 Evl
end Ci
namespace Ci
open PySem PySem.Spec PyProof.Rows L2 Evl
theorem for_same {step : D → En → SR} {kill : List Nat} {ρ : En} : ∀ {ds : List D}, (∀ x ∈ ds, wipeR kill (step x ρ) = .nx ρ) → forF step kill ds ρ = .nx ρ
  | [], _ => rfl
  | x :: r, h => by
    rw [forF_turn, h x List.mem_cons_self]
    exact for_same fun y m => h y (List.mem_cons_of_mem _ m)
/-- a number or nothing -/
def encO : Option Int → D
  | none => .non
  | some d => .int d
theorem encO_none : encO none = .non := rfl
theorem encO_some {d : Int} : encO (some d) = .int d := rfl
theorem isNon_encO {o : Option Int} : (encO o).isNon = o.isNone := by cases o <;> rfl
theorem q_cast {n : Nat} : (((no_index (OfNat.ofNat n)) : Nat) : Int) = OfNat.ofNat n := rfl
end Ci
namespace Ci
open PySem PySem.Spec PyProof.Rows L2 Evl
theorem q_mulER {n : Nat} {a b : Int} (h : 0 < n) (h1 : n < 18446744073709551616) : B2.fn .mul (.int b) (.int (a % (no_index (OfNat.ofNat n)))) = .ok (dv (.int (b * (a % OfNat.ofNat n)))) := by
  have h2 := Int.emod_nonneg a (show ((OfNat.ofNat n : Int)) ≠ 0 by show ((n : Nat) : Int) ≠ 0; omega)
  have h3 := Int.emod_lt_of_pos a (show 0 < ((OfNat.ofNat n : Int)) by show 0 < ((n : Nat) : Int); omega)
  have h4 : ((OfNat.ofNat n : Int)) < 18446744073709551616 := by show ((n : Nat) : Int) < _; omega
  exact q_mulR (by omega) (by omega)
theorem any_rep {n : Nat} : (List.replicate n false).any id = false := by
  induction n with
  | zero => rfl
  | succ n ih => rw [List.replicate_succ, List.any_cons, ih]; rfl
end Ci
end

section
set_option Elab.async false
set_option linter.all false
set_option maxRecDepth 100000
set_option maxHeartbeats 4000000
/-! ## tracks: what layouts, drawn rows and metres are, without Python -/
namespace Lw
open PySem PySem.Spec PyProof.Rows L2 Ci
open Evl (Ex ex_t ex_l sq_of st_of)
theorem bF {b : Bool} (h : (!b) = true) : b = false := by cases b <;> simp_all
theorem atI_nat {α : Type} {xs : List α} {j : Nat} {x : α} (h : xs[((j : Nat) : Int).toNat]? = some x) : atI xs (j : Int) = some x := by
  have hj : j < xs.length := by
    rw [Int.toNat_natCast] at h
    exact (List.getElem?_eq_some_iff.mp h).1
  rw [at_nat hj]
  rw [Int.toNat_natCast] at h
  exact h
abbrev Sg := Str × Int × Int
def encS (s : Sg) : D := .tup [.str s.1, .int s.2.1, .int s.2.2]
def kinds : List Str := ["coast", "lift", "brake"]
def kindOk (s : Str) : Bool := kinds.any fun z => z == s
def rngOk (s : Sg) : Bool := !(!(decide (1 ≤ s.2.1) && decide (s.2.1 ≤ 500)) || decide ((if s.2.2 < 0 then -s.2.2 else s.2.2) > 100))
def segOk (s : Sg) : Bool := kindOk s.1 && rngOk s
def segsOk (l : List Sg) : Bool := l.all segOk
theorem segOk_bd {s : Sg} (h : segOk s = true) : kindOk s.1 = true ∧ 1 ≤ s.2.1 ∧ s.2.1 ≤ 500 ∧ -100 ≤ s.2.2 ∧ s.2.2 ≤ 100 := by
  unfold segOk rngOk at h
  simp only [Bool.and_eq_true, Bool.not_eq_true', Bool.or_eq_false_iff, Bool.not_eq_false', decide_eq_true_eq, decide_eq_false_iff_not] at h
  obtain ⟨h1, ⟨h2, h3⟩, h4⟩ := h
  refine ⟨h1, h2, h3, ?_, ?_⟩
  all_goals
    split at h4 <;> omega
theorem kindOk_3 {s : Str} (h : kindOk s = true) : s = "coast" ∨ s = "lift" ∨ s = "brake" := by
  unfold kindOk kinds at h
  simp only [List.any_cons, List.any_nil, Bool.or_eq_true, beq_iff_eq] at h
  rcases h with h | h | h | h
  · exact .inl h.symm
  · exact .inr (.inl h.symm)
  · exact .inr (.inr h.symm)
  · cases h
def isBr (s : Sg) : Bool := s.1 == "brake"
def nBr (l : List Sg) : Nat := (l.filter isBr).length
def lastK (l : List Sg) : Str := (l.getLast?.map fun s => s.1).getD "brake"
def tot (l : List Sg) : Int := (l.map fun s => s.2.1).sum
def clo (l : List Sg) : Int := (l.map fun s => s.2.1 * s.2.2).sum
def roundOk (l : List Sg) : Bool := !(!(decide (2 ≤ ((nBr l : Nat) : Int)) && decide (((nBr l : Nat) : Int) ≤ 12)) || !(lastK l == "brake")) && (!decide (tot l > 4000) && decide (clo l = 0))
theorem atI_last {α : Type} {xs : List α} {x : α} (h : xs.getLast? = some x) : atI xs (-1) = some x := by
  have hn : xs ≠ [] := fun z => by rw [z] at h; cases h
  have hl : 0 < xs.length := List.length_pos_iff.mpr hn
  rw [List.getLast?_eq_getElem?] at h
  unfold atI ixN
  rw [if_neg (by omega), if_pos (by omega)]
  show xs[(-1 + (xs.length : Int)).toNat]? = some x
  rw [show (-1 + (xs.length : Int)).toNat = xs.length - 1 by omega]
  exact h
/-- what a layout keeps -/
structure Pl where
  ms : List Sg
  hs : List Int
  bs : List Int
  br : List Int
  h : Int
def pl0 : Pl := ⟨[], [], [0], [], 0⟩
def inn (k : Str) (sl b : Int) : Nat → Pl → Pl
  | 0, p => p
  | n + 1, p => { inn k sl b n p with ms := (inn k sl b n p).ms ++ [(k, sl, b)], hs := (inn k sl b n p).hs ++ [(inn k sl b n p).h], h := (inn k sl b n p).h + sl }
def openB (s : Sg) (p : Pl) : Pl := if isBr s then { p with br := p.br ++ [(p.ms.length : Int)] } else p
def shutB (s : Sg) (p : Pl) : Pl := if isBr s then { p with bs := p.bs ++ [(p.ms.length : Int)] } else p
def pstep (p : Pl) (s : Sg) : Pl := shutB s (inn s.1 s.2.2 (p.br.length : Int) s.2.1.toNat (openB s p))
def pls (l : List Sg) : Pl := l.foldl pstep pl0
theorem pls_app (l : List Sg) (s : Sg) : pls (l ++ [s]) = pstep (pls l) s := by
  unfold pls
  rw [List.foldl_append]
  rfl
theorem inn_br {k : Str} {sl b : Int} {p : Pl} : ∀ n, (inn k sl b n p).br = p.br ∧ (inn k sl b n p).bs = p.bs ∧ (inn k sl b n p).ms.length = p.ms.length + n ∧ (inn k sl b n p).hs.length = p.hs.length + n
  | 0 => ⟨rfl, rfl, rfl, rfl⟩
  | n + 1 => by
    obtain ⟨h1, h2, h3, h4⟩ := inn_br (k := k) (sl := sl) (b := b) (p := p) n
    refine ⟨h1, h2, ?_, ?_⟩
    · show ((inn k sl b n p).ms ++ _).length = _
      rw [List.length_append, h3, List.length_singleton]
      omega
    · show ((inn k sl b n p).hs ++ _).length = _
      rw [List.length_append, h4, List.length_singleton]
      omega
theorem openB_f (s : Sg) (p : Pl) : (openB s p).ms = p.ms ∧ (openB s p).hs = p.hs ∧ (openB s p).bs = p.bs ∧ (openB s p).h = p.h ∧ (openB s p).br.length ≤ p.br.length + 1 := by
  unfold openB
  split
  · refine ⟨rfl, rfl, rfl, rfl, ?_⟩
    show (p.br ++ [_]).length ≤ _
    rw [List.length_append]
    exact Nat.le_refl _
  · exact ⟨rfl, rfl, rfl, rfl, Nat.le_succ _⟩
theorem shutB_f (s : Sg) (p : Pl) : (shutB s p).ms = p.ms ∧ (shutB s p).hs = p.hs ∧ (shutB s p).br = p.br ∧ (shutB s p).h = p.h ∧ (shutB s p).bs.length ≤ p.bs.length + 1 := by
  unfold shutB
  split
  · refine ⟨rfl, rfl, rfl, rfl, ?_⟩
    show (p.bs ++ [_]).length ≤ _
    rw [List.length_append]
    exact Nat.le_refl _
  · exact ⟨rfl, rfl, rfl, rfl, Nat.le_succ _⟩
theorem pstep_len (p : Pl) (s : Sg) : (pstep p s).ms.length = p.ms.length + s.2.1.toNat ∧ (pstep p s).hs.length = p.hs.length + s.2.1.toNat ∧ (pstep p s).br.length ≤ p.br.length + 1 ∧ (pstep p s).bs.length ≤ p.bs.length + 1 := by
  obtain ⟨a1, a2, a3, a4, a5⟩ := openB_f s p
  obtain ⟨b1, b2, b3, b4⟩ := inn_br (k := s.1) (sl := s.2.2) (b := (p.br.length : Int)) (p := openB s p) s.2.1.toNat
  obtain ⟨c1, c2, c3, c4, c5⟩ := shutB_f s (inn s.1 s.2.2 (p.br.length : Int) s.2.1.toNat (openB s p))
  unfold pstep
  rw [c1, c2, c3]
  rw [b2] at c5
  rw [b1, b3, b4, a1, a2]
  rw [a3] at c5
  exact ⟨rfl, rfl, a5, c5⟩
def mlen (l : List Sg) : Nat := (l.map fun s => s.2.1.toNat).sum
theorem pls_len (l : List Sg) : (pls l).ms.length = mlen l ∧ (pls l).hs.length = mlen l ∧ (pls l).br.length ≤ l.length ∧ (pls l).bs.length ≤ l.length + 1 := by
  have key : ∀ (l : List Sg) (p : Pl), (l.foldl pstep p).ms.length = p.ms.length + mlen l ∧ (l.foldl pstep p).hs.length = p.hs.length + mlen l ∧ (l.foldl pstep p).br.length ≤ p.br.length + l.length ∧ (l.foldl pstep p).bs.length ≤ p.bs.length + l.length := by
    intro l
    induction l with
    | nil => intro p; exact ⟨rfl, rfl, Nat.le_refl _, Nat.le_refl _⟩
    | cons s r ih =>
      intro p
      obtain ⟨h1, h2, h3, h4⟩ := ih (pstep p s)
      obtain ⟨g1, g2, g3, g4⟩ := pstep_len p s
      have e : mlen (s :: r) = s.2.1.toNat + mlen r := by unfold mlen; rw [List.map_cons, List.sum_cons]
      rw [List.foldl_cons, h1, h2, e, List.length_cons]
      omega
  obtain ⟨h1, h2, h3, h4⟩ := key l pl0
  refine ⟨by rw [show pls l = l.foldl pstep pl0 from rfl, h1]; show 0 + _ = _; omega, by rw [show pls l = l.foldl pstep pl0 from rfl, h2]; show 0 + _ = _; omega, ?_, ?_⟩
  · have : (pls l).br.length ≤ 0 + l.length := h3
    omega
  · have : (pls l).bs.length ≤ 1 + l.length := h4
    omega
theorem mlen_tot : ∀ {l : List Sg}, segsOk l = true → ((mlen l : Nat) : Int) = tot l ∧ l.length ≤ mlen l
  | [], _ => ⟨rfl, Nat.le_refl _⟩
  | s :: r, h => by
    unfold segsOk at h
    rw [List.all_cons, Bool.and_eq_true] at h
    obtain ⟨h1, h2⟩ := mlen_tot (l := r) h.2
    have b := segOk_bd h.1
    have e : mlen (s :: r) = s.2.1.toNat + mlen r := by unfold mlen; rw [List.map_cons, List.sum_cons]
    have e2 : tot (s :: r) = s.2.1 + tot r := by unfold tot; rw [List.map_cons, List.sum_cons]
    rw [e, e2, List.length_cons]
    omega
theorem mlen_take (l : List Sg) (i : Nat) : mlen (l.take i) ≤ mlen l := by
  have : mlen (l.take i) + mlen (l.drop i) = mlen l := by
    unfold mlen
    rw [← List.sum_append_nat, ← List.map_append, List.take_append_drop]
  omega
/-- what a layout is worth -/
def loF (l : List Sg) : List (Str × D) :=
  [("segments", .tup (l.map encS)), ("_metres", .lst ((pls l).ms.map encS)), ("_heights", .lst ((pls l).hs.map D.int)), ("_begins", .lst ((pls l).bs.map D.int)), ("_brakes", .lst ((pls l).br.map D.int))]
def nMet (l : List Sg) : Nat := (pls l).ms.length
def nBlk (l : List Sg) : Nat := (pls l).br.length
def loOk (l : List Sg) : Bool := segsOk l && roundOk l
theorem round_tot {l : List Sg} (h : roundOk l = true) : tot l ≤ 4000 := by
  unfold roundOk at h
  have h2 := (Bool.and_eq_true _ _).mp ((Bool.and_eq_true _ _).mp h).2
  have h3 := of_decide_eq_false (bF h2.1)
  omega
theorem pls_bs (l : List Sg) : (pls l).bs.length = (pls l).br.length + 1 := by
  have key : ∀ (l : List Sg) (p : Pl), p.bs.length = p.br.length + 1 → (l.foldl pstep p).bs.length = (l.foldl pstep p).br.length + 1 := by
    intro l
    induction l with
    | nil => intro p h; exact h
    | cons s r ih =>
      intro p h
      rw [List.foldl_cons]
      refine ih _ ?_
      unfold pstep
      obtain ⟨b1, b2, _, _⟩ := inn_br (k := s.1) (sl := s.2.2) (b := (p.br.length : Int)) (p := openB s p) s.2.1.toNat
      unfold shutB
      cases c : isBr s with
      | true =>
        rw [if_pos rfl]
        show (_ ++ [_]).length = (inn _ _ _ _ _).br.length + 1
        rw [List.length_append, b1, b2]
        unfold openB
        rw [if_pos c]
        show p.bs.length + 1 = (p.br ++ [_]).length + 1
        rw [List.length_append, h]
        rfl
      | false =>
        rw [if_neg Bool.false_ne_true, b1, b2]
        unfold openB
        rw [if_neg (by rw [c]; exact Bool.false_ne_true)]
        exact h
  exact key l pl0 rfl
theorem pls_hs (l : List Sg) : (pls l).hs.length = nMet l := by
  obtain ⟨h1, h2, _, _⟩ := pls_len l
  exact h2.trans h1.symm
theorem at_getD {α : Type} {xs : List α} {f : α → D} {n : Int} {z : α} (h : 0 ≤ n ∧ n < (xs.length : Int)) : atI (xs.map f) n = some (f (xs.getD n.toNat z)) := by
  have e : n = ((n.toNat : Nat) : Int) := by omega
  have hl : n.toNat < xs.length := by omega
  rw [e]
  refine atI_nat ?_
  rw [List.getElem?_map, show ((n.toNat : Nat) : Int).toNat = n.toNat by omega, List.getElem?_eq_getElem hl, List.getD_eq_getElem?_getD, List.getElem?_eq_getElem hl]
  rfl
def gt (dr : List Int) (i : Nat) : Int := dr.getD i 0
def drOk (dr : List Int) : Bool := decide (22 ≤ dr.length) && dr.all fun x => decide (0 ≤ x) && decide (x < 4096)
theorem gt_bd {dr : List Int} (h : drOk dr = true) {i : Nat} (hi : i < 22) : 0 ≤ gt dr i ∧ gt dr i < 4096 := by
  unfold drOk at h
  rw [Bool.and_eq_true, decide_eq_true_eq] at h
  have hl : i < dr.length := by omega
  have e : gt dr i = dr[i] := by unfold gt; rw [List.getD_eq_getElem?_getD, List.getElem?_eq_getElem hl]; rfl
  have := List.all_eq_true.mp h.2 dr[i] (List.getElem_mem hl)
  rw [Bool.and_eq_true, decide_eq_true_eq, decide_eq_true_eq] at this
  rw [e]
  exact this
theorem gt_at {dr : List Int} (h : drOk dr = true) {n : Int} {i : Nat} (e : n = (i : Int)) (hi : i < 22) : atI (dr.map D.int) n = some (.int (gt dr i)) := by
  unfold drOk at h
  rw [Bool.and_eq_true, decide_eq_true_eq] at h
  have := at_getD (xs := dr) (f := D.int) (n := n) (z := 0) ⟨by omega, by omega⟩
  rw [this, e]
  rfl
def kdOf (x : Int) : Str := if x % 3 = 2 then "lift" else "coast"
def sgOf (m x : Int) : Sg := (kdOf x, 1 + x / 200 % m, x / 3 % 61 - 30)
def segIn (dr : List Int) (m : Int) (b : Nat) : Nat → List Sg → List Sg
  | 0, r => r
  | n + 1, r => segIn dr m b n r ++ [sgOf m (gt dr (4 + 3 * b + n))]
def brkOf (dr : List Int) (b : Nat) : Sg := ("brake", 1 + gt dr (14 + b) % 6, gt dr (17 + b) % 5 - 2)
def segOut (dr : List Int) (m : Int) : Nat → List Sg
  | 0 => []
  | b + 1 => segIn dr m b (gt dr (1 + b) % 3).toNat (segOut dr m b) ++ [brkOf dr b]
def cnt (dr : List Int) : Nat := (2 + gt dr 0 % 2).toNat
def insAt (n : Nat) (x : Sg) (l : List Sg) : List Sg := l.take n ++ [x] ++ l.drop n
def insIx (dr : List Int) (l : List Sg) : Int := gt dr 20 % (l.length : Int)
def rows1 (dr : List Int) (m : Int) : List Sg := insAt (insIx dr (segOut dr m (cnt dr))).toNat ("coast", 1, 0) (segOut dr m (cnt dr))
def clam (x : Int) : Int := if (if x < 90 then x else 90) > -90 then (if x < 90 then x else 90) else -90
def kdFix (d s : Int) : Str := if d % 2 = 0 then (if s > 0 then "lift" else "coast") else "coast"
def fixSt (dr : List Int) (r : List Sg) : List Sg := if clo r ≠ 0 then (kdFix (gt dr 21) (clam (-clo r)), 1, clam (-clo r)) :: r else r
def fixN (dr : List Int) : Nat → List Sg → List Sg
  | 0, r => r
  | n + 1, r => fixSt dr (fixN dr n r)
def drSeg (dr : List Int) (m : Int) : List Sg := fixN dr 40 (rows1 dr m)
theorem clo_app (a b : List Sg) : clo (a ++ b) = clo a + clo b := by
  unfold clo
  rw [List.map_append, List.sum_append_int]
theorem clo_one (s : Sg) : clo [s] = s.2.1 * s.2.2 := by
  unfold clo
  rw [List.map_singleton, List.sum_singleton]
theorem clo_ins (n : Nat) (x : Sg) (l : List Sg) : clo (insAt n x l) = clo l + x.2.1 * x.2.2 := by
  unfold insAt
  have e : clo l = clo (l.take n) + clo (l.drop n) := by rw [← clo_app, List.take_append_drop]
  rw [clo_app, clo_app, clo_one, e]
  omega
theorem clam_bd (x : Int) : -90 ≤ clam x ∧ clam x ≤ 90 := by
  unfold clam
  constructor <;> (repeat' split) <;> omega
/-- what the drawn rows keep: c brakes, at most m metres, at most k segments -/
structure Gd (c m k : Nat) (r : List Sg) : Prop where
  ok : segsOk r = true
  br : nBr r = c
  ml : mlen r ≤ m
  ln : r.length ≤ k
theorem mlen_app (a b : List Sg) : mlen (a ++ b) = mlen a + mlen b := by
  unfold mlen
  rw [List.map_append, List.sum_append_nat]
theorem mlen_one (s : Sg) : mlen [s] = s.2.1.toNat := by
  unfold mlen
  rw [List.map_singleton, List.sum_singleton]
theorem nBr_app (a b : List Sg) : nBr (a ++ b) = nBr a + nBr b := by
  unfold nBr
  rw [List.filter_append, List.length_append]
theorem segsOk_app (a b : List Sg) : segsOk (a ++ b) = (segsOk a && segsOk b) := List.all_append ..
theorem Gd.app {c m k c' m' : Nat} {r : List Sg} {s : Sg} (g : Gd c m k r) (h : segOk s = true) (h1 : nBr [s] = c') (h2 : s.2.1 ≤ (m' : Int)) : Gd (c + c') (m + m') (k + 1) (r ++ [s]) := by
  refine ⟨?_, ?_, ?_, ?_⟩
  · rw [segsOk_app, g.ok]
    show (true && (segOk s && true)) = true
    rw [h]
    rfl
  · rw [nBr_app, g.br, h1]
  · have := g.ml
    rw [mlen_app, mlen_one]
    omega
  · have := g.ln
    rw [List.length_append, List.length_singleton]
    omega
theorem kdOf_two (x : Int) : kdOf x = "coast" ∨ kdOf x = "lift" := by
  unfold kdOf
  split
  · exact .inr rfl
  · exact .inl rfl
theorem kdFix_two (d s : Int) : kdFix d s = "coast" ∨ kdFix d s = "lift" := by
  unfold kdFix
  split
  · split
    · exact .inr rfl
    · exact .inl rfl
  · exact .inl rfl
theorem two_ok {s : Str} (h : s = "coast" ∨ s = "lift") : kindOk s = true ∧ (s == ("brake" : Str)) = false := by
  rcases h with h | h <;> rw [h] <;> decide +kernel
theorem mkOk {k : Str} {l s : Int} (hk : kindOk k = true) (h1 : 1 ≤ l) (h2 : l ≤ 500) (h3 : -100 ≤ s) (h4 : s ≤ 100) : segOk (k, l, s) = true := by
  show (kindOk k && !(!(decide (1 ≤ l) && decide (l ≤ 500)) || decide ((if s < 0 then -s else s) > 100))) = true
  rw [hk, decide_eq_true h1, decide_eq_true h2, decide_eq_false (by split <;> omega)]
  rfl
theorem nBr_no {s : Sg} (h : (s.1 == ("brake" : Str)) = false) : nBr [s] = 0 := by
  unfold nBr
  rw [List.filter_cons, if_neg (by show ¬ (s.1 == ("brake" : Str)) = true; rw [h]; exact Bool.false_ne_true)]
  rfl
theorem nBr_yes {l s : Int} : nBr [(("brake" : Str), l, s)] = 1 := by
  unfold nBr
  rw [List.filter_cons, if_pos (by show (("brake" : Str) == ("brake" : Str)) = true; exact beq_self_eq_true _)]
  rfl
theorem sgOf_ok {m x : Int} (h1 : 1 ≤ m) (h2 : m ≤ 40) (h3 : 0 ≤ x) : segOk (sgOf m x) = true ∧ nBr [sgOf m x] = 0 ∧ 1 ≤ (sgOf m x).2.1 ∧ (sgOf m x).2.1 ≤ ((40 : Nat) : Int) ∧ -30 ≤ (sgOf m x).2.2 ∧ (sgOf m x).2.2 ≤ 30 := by
  have b1 := Int.emod_nonneg (x / 200) (show m ≠ 0 by omega)
  have b2 := Int.emod_lt_of_pos (x / 200) (show 0 < m by omega)
  have b3 : 0 ≤ x / 3 % 61 ∧ x / 3 % 61 < 61 := by omega
  obtain ⟨k1, k2⟩ := two_ok (kdOf_two x)
  refine ⟨mkOk k1 (by omega) (by omega) (by omega) (by omega), nBr_no k2, ?_, ?_, ?_, ?_⟩
  · show 1 ≤ 1 + x / 200 % m
    omega
  · show 1 + x / 200 % m ≤ _
    omega
  · show -30 ≤ x / 3 % 61 - 30
    omega
  · show x / 3 % 61 - 30 ≤ 30
    omega
theorem brkOf_ok {dr : List Int} (h : drOk dr = true) {b : Nat} (hb : b < 3) : segOk (brkOf dr b) = true ∧ nBr [brkOf dr b] = 1 ∧ 1 ≤ (brkOf dr b).2.1 ∧ (brkOf dr b).2.1 ≤ ((6 : Nat) : Int) ∧ -2 ≤ (brkOf dr b).2.2 ∧ (brkOf dr b).2.2 ≤ 2 := by
  have b1 : 0 ≤ gt dr (14 + b) % 6 ∧ gt dr (14 + b) % 6 < 6 := by omega
  have b2 : 0 ≤ gt dr (17 + b) % 5 ∧ gt dr (17 + b) % 5 < 5 := by omega
  refine ⟨mkOk (by decide +kernel) (by omega) (by omega) (by omega) (by omega), nBr_yes, ?_, ?_, ?_, ?_⟩
  · show 1 ≤ 1 + gt dr (14 + b) % 6
    omega
  · show 1 + gt dr (14 + b) % 6 ≤ _
    omega
  · show -2 ≤ gt dr (17 + b) % 5 - 2
    omega
  · show gt dr (17 + b) % 5 - 2 ≤ 2
    omega
theorem segIn_gd {dr : List Int} {m : Int} (h : drOk dr = true) (h1 : 1 ≤ m) (h2 : m ≤ 40) {b c k l : Nat} {r : List Sg} (hb : b < 3) (g : Gd c k l r) : ∀ n, n ≤ 2 → Gd c (k + 40 * n) (l + n) (segIn dr m b n r)
  | 0, _ => g
  | n + 1, hn => by
    have z := gt_bd h (show 4 + 3 * b + n < 22 by omega)
    obtain ⟨q1, q2, q3, q4, _⟩ := sgOf_ok h1 h2 z.1
    have := (segIn_gd h h1 h2 hb g n (by omega)).app q1 q2 q4
    show Gd c _ _ (segIn dr m b n r ++ [_])
    exact ⟨this.ok, this.br, Nat.le_trans this.ml (by omega), Nat.le_trans this.ln (by omega)⟩
theorem segOut_gd {dr : List Int} {m : Int} (h : drOk dr = true) (h1 : 1 ≤ m) (h2 : m ≤ 40) : ∀ b, b ≤ 3 → Gd b (86 * b) (3 * b) (segOut dr m b)
  | 0, _ => ⟨rfl, rfl, Nat.le_refl _, Nat.le_refl _⟩
  | b + 1, hb => by
    obtain ⟨q1, q2, q3, q4, _⟩ := brkOf_ok h (b := b) (by omega)
    have := (segIn_gd h h1 h2 (b := b) (by omega) (segOut_gd h h1 h2 b (by omega)) (gt dr (1 + b) % 3).toNat (by omega)).app q1 q2 q4
    show Gd (b + 1) _ _ (segIn dr m b _ _ ++ [_])
    exact ⟨this.ok, this.br, Nat.le_trans this.ml (by omega), Nat.le_trans this.ln (by omega)⟩
theorem cnt_bd (dr : List Int) : 2 ≤ cnt dr ∧ cnt dr ≤ 3 := by unfold cnt; omega
theorem nBr_cons (s : Sg) (r : List Sg) : nBr (s :: r) = nBr [s] + nBr r := nBr_app [s] r
theorem mlen_cons (s : Sg) (r : List Sg) : mlen (s :: r) = s.2.1.toNat + mlen r := by rw [← mlen_one]; exact mlen_app [s] r
theorem rows1_gd {dr : List Int} {m : Int} (h : drOk dr = true) (h1 : 1 ≤ m) (h2 : m ≤ 40) : Gd (cnt dr) 259 10 (rows1 dr m) := by
  have c := cnt_bd dr
  have g := segOut_gd h h1 h2 (cnt dr) c.2
  unfold rows1
  generalize (insIx dr (segOut dr m (cnt dr))).toNat = n
  generalize segOut dr m (cnt dr) = r at g
  have e : r = r.take n ++ r.drop n := (List.take_append_drop n r).symm
  have g1 := g.ok
  have g2 := g.br
  have g3 := g.ml
  have g4 := g.ln
  rw [e, segsOk_app, Bool.and_eq_true] at g1
  rw [e, nBr_app] at g2
  rw [e, mlen_app] at g3
  unfold insAt
  refine ⟨?_, ?_, ?_, ?_⟩
  · rw [segsOk_app, segsOk_app, g1.1, g1.2]
    decide +kernel
  · rw [nBr_app, nBr_app, nBr_no (by decide +kernel)]
    omega
  · rw [mlen_app, mlen_app, mlen_one]
    show _ + (1 : Int).toNat + _ ≤ _
    omega
  · rw [List.length_append, List.length_append, List.length_take, List.length_drop, List.length_singleton]
    omega
theorem fixSt_gd {dr : List Int} {c m k : Nat} {r : List Sg} (g : Gd c m k r) : Gd c (m + 1) (k + 1) (fixSt dr r) := by
  unfold fixSt
  split
  · have b := clam_bd (-clo r)
    obtain ⟨k1, k2⟩ := two_ok (kdFix_two (gt dr 21) (clam (-clo r)))
    refine ⟨?_, ?_, ?_, ?_⟩
    · show (segOk _ && segsOk r) = true
      rw [g.ok, mkOk k1 (by omega) (by omega) (by omega) (by omega)]
      rfl
    · rw [nBr_cons, g.br, nBr_no k2]
      omega
    · have := g.ml
      rw [mlen_cons]
      show (1 : Int).toNat + _ ≤ _
      omega
    · have := g.ln
      rw [List.length_cons]
      omega
  · exact ⟨g.ok, g.br, Nat.le_trans g.ml (by omega), Nat.le_trans g.ln (by omega)⟩
theorem fixN_gd {dr : List Int} {c m k : Nat} {r : List Sg} (g : Gd c m k r) : ∀ n, Gd c (m + n) (k + n) (fixN dr n r)
  | 0 => g
  | n + 1 => fixSt_gd (fixN_gd g n)
theorem drSeg_gd {dr : List Int} {m : Int} (h : drOk dr = true) (h1 : 1 ≤ m) (h2 : m ≤ 40) : Gd (cnt dr) 299 50 (drSeg dr m) := fixN_gd (rows1_gd h h1 h2) 40
theorem lastK_app {a b : List Sg} (h : b ≠ []) : lastK (a ++ b) = lastK b := by
  unfold lastK
  rw [List.getLast?_append, List.getLast?_eq_some_getLast h]
  rfl
theorem lastK_cons {s : Sg} {b : List Sg} (h : b ≠ []) : lastK (s :: b) = lastK b := lastK_app (a := [s]) h
theorem segOut_last {dr : List Int} {m : Int} {b : Nat} (h : 0 < b) : lastK (segOut dr m b) = "brake" ∧ segOut dr m b ≠ [] := by
  cases b with
  | zero => omega
  | succ b =>
    show lastK (_ ++ [_]) = _ ∧ _ ++ [_] ≠ []
    rw [lastK_app (List.cons_ne_nil _ _)]
    exact ⟨rfl, by simp⟩
theorem rows1_last {dr : List Int} {m : Int} : lastK (rows1 dr m) = "brake" ∧ rows1 dr m ≠ [] := by
  have c := cnt_bd dr
  obtain ⟨h1, h2⟩ := segOut_last (dr := dr) (m := m) (b := cnt dr) (by omega)
  unfold rows1 insIx
  generalize segOut dr m (cnt dr) = r at h1 h2
  have hl : 0 < r.length := List.length_pos_iff.mpr h2
  have b1 := Int.emod_nonneg (gt dr 20) (show (r.length : Int) ≠ 0 by omega)
  have b2 := Int.emod_lt_of_pos (gt dr 20) (show 0 < (r.length : Int) by omega)
  have hd : r.drop (gt dr 20 % (r.length : Int)).toNat ≠ [] := fun z => by
    have := congrArg List.length z
    rw [List.length_drop, List.length_nil] at this
    omega
  unfold insAt
  rw [lastK_app hd]
  refine ⟨?_, fun z => hd (List.append_eq_nil_iff.mp z).2⟩
  rw [← lastK_app (a := r.take (gt dr 20 % (r.length : Int)).toNat) hd, List.take_append_drop]
  exact h1
theorem fixN_last {dr : List Int} {r : List Sg} (h : lastK r = "brake" ∧ r ≠ []) : ∀ n, lastK (fixN dr n r) = "brake" ∧ fixN dr n r ≠ []
  | 0 => h
  | n + 1 => by
    obtain ⟨h1, h2⟩ := fixN_last h n
    show lastK (fixSt dr (fixN dr n r)) = _ ∧ fixSt dr (fixN dr n r) ≠ []
    unfold fixSt
    split
    · exact ⟨(lastK_cons h2).trans h1, List.cons_ne_nil _ _⟩
    · exact ⟨h1, h2⟩
theorem drSeg_last {dr : List Int} {m : Int} : lastK (drSeg dr m) = "brake" ∧ drSeg dr m ≠ [] := fixN_last rows1_last 40
theorem ins_map (n : Nat) (l : List Sg) (x : Sg) : (l.map encS).take n ++ [encS x] ++ (l.map encS).drop n = (insAt n x l).map encS := by
  unfold insAt
  rw [List.map_append, List.map_append, List.map_take, List.map_drop]
  rfl
def fall : List Sg := [("lift", 6, 25), ("coast", 5, -30), ("brake", 3, 0), ("coast", 3, 0), ("brake", 4, 0)]
def drLay (dr : List Int) : List Sg := if clo (drSeg dr 5) ≠ 0 then fall else drSeg dr 5
/-- what every drawn layout keeps -/
structure LoG (l : List Sg) : Prop where
  ok : segsOk l = true
  b2 : 2 ≤ nBr l
  b3 : nBr l ≤ 3
  ml : mlen l ≤ 299
  ln : l.length ≤ 50
  la : lastK l = "brake"
  ne : l ≠ []
  cl : clo l = 0
theorem drLay_g {dr : List Int} (h : drOk dr = true) : LoG (drLay dr) := by
  unfold drLay
  split
  · exact ⟨by decide +kernel, by decide +kernel, by decide +kernel, by decide +kernel, by decide +kernel, by decide +kernel, List.cons_ne_nil _ _, by decide +kernel⟩
  · rename_i c
    have g := drSeg_gd (m := 5) h (by decide) (by decide)
    obtain ⟨l1, l2⟩ := drSeg_last (dr := dr) (m := 5)
    have cb := cnt_bd dr
    have gb := g.br
    exact ⟨g.ok, by omega, by omega, g.ml, g.ln, l1, l2, by omega⟩
theorem LoG.lo {l : List Sg} (g : LoG l) : loOk l = true := by
  have h1 := g.b2
  have h2 := g.b3
  have h3 := (mlen_tot g.ok).1
  have h4 := g.ml
  unfold loOk roundOk
  rw [g.ok, g.la, g.cl, decide_eq_true (show 2 ≤ ((nBr l : Nat) : Int) by omega), decide_eq_true (show ((nBr l : Nat) : Int) ≤ 12 by omega), decide_eq_false (show ¬ tot l > 4000 by omega)]
  decide +kernel
/-- the law's own metres -/
def rep (s : Sg) (b : Int) : Nat → List Sg
  | 0 => []
  | n + 1 => rep s b n ++ [(s.1, s.2.2, b)]
theorem inn_rep {k : Str} {sl b : Int} {p : Pl} {ln : Int} : ∀ n, (inn k sl b n p).ms = p.ms ++ rep (k, ln, sl) b n
  | 0 => (List.append_nil _).symm
  | n + 1 => by
    show (inn k sl b n p).ms ++ _ = p.ms ++ (rep (k, ln, sl) b n ++ _)
    rw [inn_rep n, List.append_assoc]
theorem rep_len (s : Sg) (b : Int) : ∀ n, (rep s b n).length = n
  | 0 => rfl
  | n + 1 => by
    show (rep s b n ++ [_]).length = _
    rw [List.length_append, rep_len s b n]
    rfl
/-! ### values of layouts and trains, as the interpreter meets them -/
theorem sg_fold {a : Str} {b c : Int} : D.tup [.str a, .int b, .int c] = encS (a, b, c) := rfl
theorem x_gtup_sg {gs : P .gs} {s : Sg} {ρ : En} : ev (.gtup 3 gs) (encS s) ρ = ev gs [.str s.1, .int s.2.1, .int s.2.2] ρ := rfl
theorem ixSg0 {s : Sg} : B2.fn .ix (encS s) (.int 0) = .ok (dv (.str s.1)) := rfl
theorem ixSg1 {s : Sg} : B2.fn .ix (encS s) (.int 1) = .ok (dv (.int s.2.1)) := rfl
theorem ixSg2 {s : Sg} : B2.fn .ix (encS s) (.int 2) = .ok (dv (.int s.2.2)) := rfl
def loV (l : List Sg) (p : Pl) : List (Str × FV) := [("segments", .d (.tup (l.map encS))), ("_metres", .lst (p.ms.map encS)), ("_heights", .lst (p.hs.map D.int)), ("_begins", .lst (p.bs.map D.int)), ("_brakes", .lst (p.br.map D.int))]
def loD (l : List Sg) : D := .ins 0 (loF l)
theorem lo_fold {l : List Sg} : D.ins 0 (fsD (loV l (pls l))) = loD l := rfl
theorem ms_len {l : List Sg} : (pls l).ms.length = nMet l := rfl
theorem hs_len {l : List Sg} : (pls l).hs.length = nMet l := pls_hs l
theorem br_len {l : List Sg} : (pls l).br.length = nBlk l := rfl
theorem bs_len {l : List Sg} : (pls l).bs.length = nBlk l + 1 := pls_bs l
section
variable {l : List Sg} {f : List D → R RV} {as : R (List D)}
theorem fl_segments : fldO [0] "segments" (some (some (.d (loD l)))) = .ok (dv (.tup (l.map encS))) := by unfold loD loF; simp only [fldO, List.lookup_cons, ofString_beq, String.reduceEq, decide_true, decide_false, List.mem_singleton, if_true]
theorem fl_metres : fldO [0] "_metres" (some (some (.d (loD l)))) = .ok (dv (.lst ((pls l).ms.map encS))) := by unfold loD loF; simp only [fldO, List.lookup_cons, ofString_beq, String.reduceEq, decide_true, decide_false, List.mem_singleton, if_true]
theorem fl_heights : fldO [0] "_heights" (some (some (.d (loD l)))) = .ok (dv (.lst ((pls l).hs.map D.int))) := by unfold loD loF; simp only [fldO, List.lookup_cons, ofString_beq, String.reduceEq, decide_true, decide_false, List.mem_singleton, if_true]
theorem fl_begins : fldO [0] "_begins" (some (some (.d (loD l)))) = .ok (dv (.lst ((pls l).bs.map D.int))) := by unfold loD loF; simp only [fldO, List.lookup_cons, ofString_beq, String.reduceEq, decide_true, decide_false, List.mem_singleton, if_true]
theorem fl_brakes : fldO [0] "_brakes" (some (some (.d (loD l)))) = .ok (dv (.lst ((pls l).br.map D.int))) := by unfold loD loF; simp only [fldO, List.lookup_cons, ofString_beq, String.reduceEq, decide_true, decide_false, List.mem_singleton, if_true]
theorem me_lo (m : Str) (h : (loF l).lookup m = none) : methF 0 m f as (dv (loD l)) = as.bind fun ds => f (loD l :: ds) := by
  show (if 0 = 0 then (match (loF l).lookup m with | none => as.bind fun ds => f (.ins 0 (loF l) :: ds) | some _ => .bad) else .bad) = _
  rw [if_pos rfl, h]
  rfl
theorem me_total : methF 0 "total" f as (dv (loD l)) = as.bind fun ds => f (loD l :: ds) := me_lo _ (by unfold loF; simp only [List.lookup_cons, List.lookup_nil, ofString_beq, String.reduceEq, decide_false])
theorem me_blocks : methF 0 "blocks" f as (dv (loD l)) = as.bind fun ds => f (loD l :: ds) := me_lo _ (by unfold loF; simp only [List.lookup_cons, List.lookup_nil, ofString_beq, String.reduceEq, decide_false])
theorem me_metre : methF 0 "metre" f as (dv (loD l)) = as.bind fun ds => f (loD l :: ds) := me_lo _ (by unfold loF; simp only [List.lookup_cons, List.lookup_nil, ofString_beq, String.reduceEq, decide_false])
theorem me_height : methF 0 "height" f as (dv (loD l)) = as.bind fun ds => f (loD l :: ds) := me_lo _ (by unfold loF; simp only [List.lookup_cons, List.lookup_nil, ofString_beq, String.reduceEq, decide_false])
theorem me_begin : methF 0 "begin" f as (dv (loD l)) = as.bind fun ds => f (loD l :: ds) := me_lo _ (by unfold loF; simp only [List.lookup_cons, List.lookup_nil, ofString_beq, String.reduceEq, decide_false])
theorem me_brake : methF 0 "brake" f as (dv (loD l)) = as.bind fun ds => f (loD l :: ds) := me_lo _ (by unfold loF; simp only [List.lookup_cons, List.lookup_nil, ofString_beq, String.reduceEq, decide_false])
theorem me_end : methF 0 "end" f as (dv (loD l)) = as.bind fun ds => f (loD l :: ds) := me_lo _ (by unfold loF; simp only [List.lookup_cons, List.lookup_nil, ofString_beq, String.reduceEq, decide_false])
theorem me_cm : methF 0 "_check_metre" f as (dv (loD l)) = as.bind fun ds => f (loD l :: ds) := me_lo _ (by unfold loF; simp only [List.lookup_cons, List.lookup_nil, ofString_beq, String.reduceEq, decide_false])
theorem me_cb : methF 0 "_check_block" f as (dv (loD l)) = as.bind fun ds => f (loD l :: ds) := me_lo _ (by unfold loF; simp only [List.lookup_cons, List.lookup_nil, ofString_beq, String.reduceEq, decide_false])
end
/-- trains -/
structure Tr where
  len : Int
  f0 : Int
  f1 : Int
  b0 : Int
  b1 : Int
  li : Int
  dr : Int
def tnV (t : Tr) : List (Str × FV) := [("length", .d (.int t.len)), ("friction", .d (.tup [.int t.f0, .int t.f1])), ("brake", .d (.tup [.int t.b0, .int t.b1])), ("lift", .d (.int t.li)), ("drive", .d (.int t.dr))]
def tnD (t : Tr) : D := .ins 1 [("length", .int t.len), ("friction", .tup [.int t.f0, .int t.f1]), ("brake", .tup [.int t.b0, .int t.b1]), ("lift", .int t.li), ("drive", .int t.dr)]
theorem tn_fold {t : Tr} : D.ins 1 (fsD (tnV t)) = tnD t := rfl
section
variable {t : Tr}
theorem ft_length : fldO [1] "length" (some (some (.d (tnD t)))) = .ok (dv (.int t.len)) := by unfold tnD; simp only [fldO, List.lookup_cons, ofString_beq, String.reduceEq, decide_true, decide_false, List.mem_singleton, if_true]
theorem ft_friction : fldO [1] "friction" (some (some (.d (tnD t)))) = .ok (dv (.tup [.int t.f0, .int t.f1])) := by unfold tnD; simp only [fldO, List.lookup_cons, ofString_beq, String.reduceEq, decide_true, decide_false, List.mem_singleton, if_true]
theorem ft_brake : fldO [1] "brake" (some (some (.d (tnD t)))) = .ok (dv (.tup [.int t.b0, .int t.b1])) := by unfold tnD; simp only [fldO, List.lookup_cons, ofString_beq, String.reduceEq, decide_true, decide_false, List.mem_singleton, if_true]
theorem ft_lift : fldO [1] "lift" (some (some (.d (tnD t)))) = .ok (dv (.int t.li)) := by unfold tnD; simp only [fldO, List.lookup_cons, ofString_beq, String.reduceEq, decide_true, decide_false, List.mem_singleton, if_true]
theorem ft_drive : fldO [1] "drive" (some (some (.d (tnD t)))) = .ok (dv (.int t.dr)) := by unfold tnD; simp only [fldO, List.lookup_cons, ofString_beq, String.reduceEq, decide_true, decide_false, List.mem_singleton, if_true]
end
end Lw
end

section
set_option Elab.async false
set_option linter.all false
set_option maxRecDepth 100000
set_option maxHeartbeats 4000000
/-! ## the geometry of a layout -/
namespace Lw
open PySem PySem.Spec PyProof.Rows L2 Ci
open Evl (Ex ex_t ex_l sq_of st_of)
theorem drOk_of {l : List Int} (h : 22 ≤ l.length) (hb : ∀ x ∈ l, 0 ≤ x ∧ x < 4096) : drOk l = true := by
  unfold drOk
  rw [Bool.and_eq_true, decide_eq_true_eq, List.all_eq_true]
  exact ⟨h, fun x m => by rw [Bool.and_eq_true, decide_eq_true_eq, decide_eq_true_eq]; exact hb x m⟩
section
variable {α : Type} {xs ys : List α} {i : Nat} {d : α}
theorem gd_l (h : i < xs.length) : (xs ++ ys).getD i d = xs.getD i d := by
  rw [List.getD_eq_getElem?_getD, List.getD_eq_getElem?_getD, List.getElem?_append_left h]
theorem gd_r (h : xs.length ≤ i) : (xs ++ ys).getD i d = ys.getD (i - xs.length) d := by
  rw [List.getD_eq_getElem?_getD, List.getD_eq_getElem?_getD, List.getElem?_append_right h]
theorem gd_last {x : α} : (xs ++ [x]).getD xs.length d = x := by
  rw [gd_r (Nat.le_refl _), Nat.sub_self]
  rfl
end
def slope (ms : List Sg) (k : Nat) : Int := (ms.getD k default).2.1
def psum (ms : List Sg) : Nat → Int
  | 0 => 0
  | k + 1 => psum ms k + slope ms k
theorem psum_app {ms r : List Sg} : ∀ {k : Nat}, k ≤ ms.length → psum (ms ++ r) k = psum ms k
  | 0, _ => rfl
  | k + 1, h => by
    show psum (ms ++ r) k + slope (ms ++ r) k = psum ms k + slope ms k
    rw [psum_app (Nat.le_of_succ_le h)]
    unfold slope
    rw [gd_l (Nat.lt_of_succ_le h)]
structure PI (p : Pl) : Prop where
  hl : p.hs.length = p.ms.length
  hh : ∀ k, k < p.ms.length → p.hs.getD k 0 = psum p.ms k
  ht : p.h = psum p.ms p.ms.length
  bl : p.bs.length = p.br.length + 1
  b0 : p.bs.getD 0 0 = 0
  bb : ∀ b, b < p.br.length → p.bs.getD b 0 ≤ p.br.getD b 0 ∧ p.br.getD b 0 < p.bs.getD (b + 1) 0
  bn : p.bs.getD p.br.length 0 ≤ (p.ms.length : Int)
  mb : ∀ k, k < p.ms.length → ∀ b, b < p.br.length → p.bs.getD b 0 ≤ (k : Int) → (k : Int) < p.bs.getD (b + 1) 0 → (p.ms.getD k default).2.2 = (b : Int) ∧ ((p.ms.getD k default).1 = ("brake" : Str) ↔ p.br.getD b 0 ≤ (k : Int))
  mo : ∀ k, k < p.ms.length → p.bs.getD p.br.length 0 ≤ (k : Int) → (p.ms.getD k default).2.2 = (p.br.length : Int) ∧ (p.ms.getD k default).1 ≠ ("brake" : Str)
theorem rep_get {s : Sg} {b : Int} : ∀ {n k : Nat}, k < n → (rep s b n).getD k default = (s.1, s.2.2, b)
  | 0, k, h => absurd h (Nat.not_lt_zero _)
  | n + 1, k, h => by
    show (rep s b n ++ [(s.1, s.2.2, b)]).getD k default = _
    by_cases c : k < n
    · rw [gd_l (by rw [rep_len]; exact c), rep_get c]
    · have e : k = (rep s b n).length := by rw [rep_len]; omega
      rw [e, gd_last]
theorem inn_h {kd : Str} {sl b : Int} {p : Pl} (hl : p.hs.length = p.ms.length) (hh : ∀ k, k < p.ms.length → p.hs.getD k 0 = psum p.ms k) (ht : p.h = psum p.ms p.ms.length) : ∀ n, (inn kd sl b n p).hs.length = (inn kd sl b n p).ms.length ∧ (∀ k, k < (inn kd sl b n p).ms.length → (inn kd sl b n p).hs.getD k 0 = psum (inn kd sl b n p).ms k) ∧ (inn kd sl b n p).h = psum (inn kd sl b n p).ms (inn kd sl b n p).ms.length
  | 0 => ⟨hl, hh, ht⟩
  | n + 1 => by
    obtain ⟨h1, h2, h3⟩ := inn_h (kd := kd) (sl := sl) (b := b) hl hh ht n
    have e : inn kd sl b (n + 1) p = { inn kd sl b n p with ms := (inn kd sl b n p).ms ++ [(kd, sl, b)], hs := (inn kd sl b n p).hs ++ [(inn kd sl b n p).h], h := (inn kd sl b n p).h + sl } := rfl
    rw [e]
    generalize inn kd sl b n p = w at h1 h2 h3
    refine ⟨?_, fun k hk => ?_, ?_⟩
    · show (w.hs ++ [w.h]).length = (w.ms ++ [(kd, sl, b)]).length
      rw [List.length_append, List.length_append, h1, List.length_singleton, List.length_singleton]
    · have hk : k < (w.ms ++ [(kd, sl, b)]).length := hk
      rw [List.length_append, List.length_singleton] at hk
      show (w.hs ++ [w.h]).getD k 0 = psum (w.ms ++ [(kd, sl, b)]) k
      rw [psum_app (by omega)]
      by_cases c : k < w.ms.length
      · rw [gd_l (by omega), h2 k c]
      · have : k = w.hs.length := by omega
        rw [this, gd_last, h1, h3]
    · show w.h + sl = psum (w.ms ++ [(kd, sl, b)]) (w.ms ++ [(kd, sl, b)]).length
      rw [List.length_append, List.length_singleton]
      show _ = psum _ w.ms.length + slope _ w.ms.length
      rw [psum_app (Nat.le_refl _), ← h3]
      unfold slope
      rw [gd_last]
theorem PI.step {p : Pl} (q : PI p) {s : Sg} (hs : 1 ≤ s.2.1) : PI (pstep p s) := by
  have ep : pstep p s = shutB s (inn s.1 s.2.2 (p.br.length : Int) s.2.1.toNat (openB s p)) := rfl
  obtain ⟨o1, o2, o3, o4, _⟩ := openB_f s p
  obtain ⟨b1, b2, b3, b4⟩ := inn_br (k := s.1) (sl := s.2.2) (b := (p.br.length : Int)) (p := openB s p) s.2.1.toNat
  have er := inn_rep (k := s.1) (sl := s.2.2) (b := (p.br.length : Int)) (p := openB s p) (ln := s.2.1) s.2.1.toNat
  obtain ⟨i1, i2, i3⟩ := inn_h (kd := s.1) (sl := s.2.2) (b := (p.br.length : Int)) (p := openB s p) (by rw [o1, o2]; exact q.hl) (by rw [o1, o2]; exact q.hh) (by rw [o1, o4]; exact q.ht) s.2.1.toNat
  have hn : 1 ≤ s.2.1.toNat := by omega
  rw [ep]
  generalize inn s.1 s.2.2 (p.br.length : Int) s.2.1.toNat (openB s p) = w at *
  rw [o1] at er b3
  have gl : ∀ k, k < p.ms.length → w.ms.getD k default = p.ms.getD k default := fun k hk => by rw [er, gd_l hk]
  have gr : ∀ k, p.ms.length ≤ k → k < w.ms.length → w.ms.getD k default = (s.1, s.2.2, (p.br.length : Int)) := fun k h1 h2 => by
    rw [er, gd_r h1, rep_get (by omega)]
  have bn := q.bn
  have bl := q.bl
  cases hb : isBr s with
  | false =>
    have eo : openB s p = p := if_neg (by rw [hb]; exact Bool.false_ne_true)
    have es : shutB s w = w := if_neg (by rw [hb]; exact Bool.false_ne_true)
    have hk : s.1 ≠ ("brake" : Str) := of_decide_eq_false hb
    rw [eo] at b1 b2
    rw [es]
    refine ⟨i1, i2, i3, by rw [b1, b2]; exact bl, by rw [b2]; exact q.b0, by rw [b1, b2]; exact q.bb, by rw [b1, b2]; omega, ?_, ?_⟩
    · rw [b1, b2]
      intro k h1 b h2 h3 h4
      have h5 : k < p.ms.length := by
        -- the blocks that are closed end before the last begin
        have mono : ∀ j, b + 1 + j ≤ p.br.length → p.bs.getD (b + 1) 0 ≤ p.bs.getD (b + 1 + j) 0 := fun j => by
          induction j with
          | zero => exact fun _ => Int.le_refl _
          | succ j ih =>
            intro hj
            have := q.bb (b + 1 + j) (by omega)
            have := ih (by omega)
            show _ ≤ p.bs.getD (b + 1 + j + 1) 0
            omega
        have := mono (p.br.length - (b + 1)) (by omega)
        rw [show b + 1 + (p.br.length - (b + 1)) = p.br.length by omega] at this
        omega
      rw [gl k h5]
      exact q.mb k h5 b h2 h3 h4
    · rw [b1, b2]
      intro k h1 h2
      by_cases c : k < p.ms.length
      · rw [gl k c]
        exact q.mo k c h2
      · rw [gr k (by omega) h1]
        exact ⟨rfl, hk⟩
  | true =>
    have eo : openB s p = { p with br := p.br ++ [(p.ms.length : Int)] } := if_pos hb
    have es : shutB s w = { w with bs := w.bs ++ [(w.ms.length : Int)] } := if_pos hb
    have hk : s.1 = ("brake" : Str) := of_decide_eq_true hb
    rw [eo] at b1 b2
    have b1 : w.br = p.br ++ [(p.ms.length : Int)] := b1
    have b2 : w.bs = p.bs := b2
    rw [es, b2]
    have blr : w.br.length = p.br.length + 1 := by rw [b1, List.length_append, List.length_singleton]
    refine ⟨i1, i2, i3, ?_, ?_, ?_, ?_, ?_, ?_⟩
    · show (p.bs ++ [_]).length = w.br.length + 1
      rw [List.length_append, List.length_singleton, blr, bl]
    · show (p.bs ++ [_]).getD 0 0 = 0
      rw [gd_l (by omega)]
      exact q.b0
    · intro b hb
      have hb : b < w.br.length := hb
      show (p.bs ++ [(w.ms.length : Int)]).getD b 0 ≤ w.br.getD b 0 ∧ w.br.getD b 0 < (p.bs ++ [(w.ms.length : Int)]).getD (b + 1) 0
      rw [gd_l (by omega), b1]
      by_cases c : b < p.br.length
      · rw [gd_l c, gd_l (by omega)]
        exact q.bb b c
      · have e : b = p.br.length := by omega
        rw [e, gd_last, ← bl, gd_last]
        omega
    · show (p.bs ++ [(w.ms.length : Int)]).getD w.br.length 0 ≤ (w.ms.length : Int)
      rw [blr, ← bl, gd_last]
      exact Int.le_refl _
    · intro k h1 b h2 h3 h4
      have h1 : k < w.ms.length := h1
      have h2 : b < w.br.length := h2
      have h3 : (p.bs ++ [(w.ms.length : Int)]).getD b 0 ≤ (k : Int) := h3
      have h4 : (k : Int) < (p.bs ++ [(w.ms.length : Int)]).getD (b + 1) 0 := h4
      show (w.ms.getD k default).2.2 = (b : Int) ∧ ((w.ms.getD k default).1 = ("brake" : Str) ↔ w.br.getD b 0 ≤ (k : Int))
      rw [gd_l (by omega)] at h3
      rw [b1]
      by_cases c : b < p.br.length
      · rw [gd_l (by omega)] at h4
        have h5 : k < p.ms.length := by
          have mono : ∀ j, b + 1 + j ≤ p.br.length → p.bs.getD (b + 1) 0 ≤ p.bs.getD (b + 1 + j) 0 := fun j => by
            induction j with
            | zero => exact fun _ => Int.le_refl _
            | succ j ih =>
              intro hj
              have := q.bb (b + 1 + j) (by omega)
              have := ih (by omega)
              show _ ≤ p.bs.getD (b + 1 + j + 1) 0
              omega
          have := mono (p.br.length - (b + 1)) (by omega)
          rw [show b + 1 + (p.br.length - (b + 1)) = p.br.length by omega] at this
          omega
        rw [gl k h5, gd_l c]
        exact q.mb k h5 b c h3 h4
      · have e : b = p.br.length := by omega
        subst e
        rw [gd_last]
        by_cases c2 : k < p.ms.length
        · rw [gl k c2]
          have := q.mo k c2 h3
          refine ⟨this.1, fun z => absurd z this.2, fun z => ?_⟩
          omega
        · rw [gr k (by omega) h1]
          refine ⟨rfl, fun _ => ?_, fun _ => hk⟩
          omega
    · intro k h1 h2
      have h1 : k < w.ms.length := h1
      have h2 : (p.bs ++ [(w.ms.length : Int)]).getD w.br.length 0 ≤ (k : Int) := h2
      rw [blr, ← bl, gd_last] at h2
      omega
theorem PI.nil : PI pl0 := ⟨rfl, fun k h => absurd h (Nat.not_lt_zero _), rfl, rfl, rfl, fun b h => absurd h (Nat.not_lt_zero _), Int.le_refl _, fun k h => absurd h (Nat.not_lt_zero _), fun k h => absurd h (Nat.not_lt_zero _)⟩
/-- a layout's places, as whole numbers -/
structure Geo (l : List Sg) : Prop where
  nb : 1 ≤ nBlk l
  b0 : at0 (pls l).bs 0 = 0
  be : at0 (pls l).bs (nBlk l : Nat) = (nMet l : Nat)
  bb : ∀ b : Nat, b < nBlk l → 0 ≤ at0 (pls l).bs b ∧ at0 (pls l).bs b ≤ at0 (pls l).br b ∧ at0 (pls l).br b < at0 (pls l).bs (b + 1) ∧ at0 (pls l).bs (b + 1) ≤ (nMet l : Nat)
  mb : ∀ k : Nat, k < nMet l → ∀ b : Nat, b < nBlk l → at0 (pls l).bs b ≤ (k : Int) → (k : Int) < at0 (pls l).bs (b + 1) → (at0 (pls l).ms k).2.2 = (b : Int) ∧ ((at0 (pls l).ms k).1 = ("brake" : Str) ↔ at0 (pls l).br b ≤ (k : Int))
  cv : ∀ k : Nat, k < nMet l → ∃ b : Nat, b < nBlk l ∧ at0 (pls l).bs b ≤ (k : Int) ∧ (k : Int) < at0 (pls l).bs (b + 1)
  hp : ∀ k : Nat, k < nMet l → at0 (pls l).hs k = psum (pls l).ms k
theorem Geo.pos {l : List Sg} (G : Geo l) : 0 < nMet l := by
  have h1 := G.nb
  have := G.bb 0 (by omega)
  omega
theorem Geo.last {l : List Sg} (G : Geo l) : (at0 (pls l).ms ((nMet l : Nat) - 1)).2.2 + 1 = (nBlk l : Nat) := by
  have h1 := G.nb
  have h2 := G.bb (nBlk l - 1) (by omega)
  have h3 := G.be
  have e1 : (((nBlk l - 1 : Nat) : Int) + 1) = (nBlk l : Nat) := by omega
  rw [e1, h3] at h2
  have h4 := G.mb (nMet l - 1) (by have := G.pos; omega) (nBlk l - 1) (by omega) (by omega) (by rw [e1, h3]; have := G.pos; omega)
  have e2 : (((nMet l - 1 : Nat) : Int)) = (nMet l : Nat) - 1 := by have := G.pos; omega
  rw [e2] at h4
  rw [h4.1]
  omega
/-- the numbers of a stretch, picked out of all -/
theorem pick {n lo hi : Nat} {p : Nat → Bool} (h1 : lo ≤ hi) (h2 : hi ≤ n) (hp : ∀ k, k < n → p k = (decide (lo ≤ k) && decide (k < hi))) : (List.range n).filter p = List.range' lo (hi - lo) := by
  have e : List.range n = List.range' 0 lo ++ (List.range' lo (hi - lo) ++ List.range' hi (n - hi)) := by
    rw [List.range_eq_range']
    have s2 := List.range'_append (s := lo) (m := hi - lo) (n := n - hi) (step := 1)
    rw [show lo + 1 * (hi - lo) = hi by omega, show hi - lo + (n - hi) = n - lo by omega] at s2
    rw [s2]
    have s1 := List.range'_append (s := 0) (m := lo) (n := n - lo) (step := 1)
    rw [show 0 + 1 * lo = lo by omega, show lo + (n - lo) = n by omega] at s1
    exact s1.symm
  rw [e, List.filter_append, List.filter_append]
  have f1 : (List.range' 0 lo).filter p = [] := List.filter_eq_nil_iff.mpr fun k m => by
    have := List.mem_range'_1.mp m
    rw [hp k (by omega), decide_eq_false (by omega)]
    exact Bool.false_ne_true
  have f3 : (List.range' hi (n - hi)).filter p = [] := List.filter_eq_nil_iff.mpr fun k m => by
    have := List.mem_range'_1.mp m
    rw [hp k (by omega), decide_eq_false (show ¬ k < hi by omega), Bool.and_false]
    exact Bool.false_ne_true
  have f2 : (List.range' lo (hi - lo)).filter p = List.range' lo (hi - lo) := List.filter_eq_self.mpr fun k m => by
    have := List.mem_range'_1.mp m
    rw [hp k (by omega), decide_eq_true (by omega), decide_eq_true (by omega)]
    rfl
  rw [f1, f2, f3, List.nil_append, List.append_nil]
/-- a block's stretch -/
def bsN (l : List Sg) (b : Nat) : Nat := (at0 (pls l).bs b).toNat
def brN (l : List Sg) (b : Nat) : Nat := (at0 (pls l).br b).toNat
theorem Geo.bsb {l : List Sg} (G : Geo l) {b : Nat} (hb : b < nBlk l) : at0 (pls l).bs b = (bsN l b : Nat) ∧ at0 (pls l).br b = (brN l b : Nat) ∧ at0 (pls l).bs ((b : Int) + 1) = (bsN l (b + 1) : Nat) ∧ bsN l b ≤ brN l b ∧ brN l b < bsN l (b + 1) ∧ bsN l (b + 1) ≤ nMet l := by
  have h := G.bb b hb
  have e : bsN l (b + 1) = (at0 (pls l).bs ((b : Int) + 1)).toNat := rfl
  unfold brN
  rw [e]
  unfold bsN
  omega
/-- the metres of a block -/
theorem Geo.own {l : List Sg} (G : Geo l) {b : Nat} (hb : b < nBlk l) : ((List.range (nMet l)).filter fun k : Nat => decide ((at0 (pls l).ms (k : Int)).2.2 = (b : Int))) = List.range' (bsN l b) (bsN l (b + 1) - bsN l b) := by
  obtain ⟨e1, e2, e3, h1, h2, h3⟩ := G.bsb hb
  refine pick (by omega) h3 fun k hk => ?_
  obtain ⟨c, hc, c1, c2⟩ := G.cv k hk
  have h4 := (G.mb k hk c hc c1 c2).1
  rw [h4]
  obtain ⟨f1, f2, f3, g1, g2, g3⟩ := G.bsb hc
  rw [f1] at c1
  rw [f3] at c2
  by_cases z : c = b
  · subst z
    rw [decide_eq_true rfl, decide_eq_true (by omega), decide_eq_true (by omega)]
    rfl
  · rw [decide_eq_false (by omega)]
    have : ¬ (bsN l b ≤ k ∧ k < bsN l (b + 1)) := fun ⟨y1, y2⟩ => by
      have := (G.mb k hk b hb (by rw [e1]; omega) (by rw [e3]; omega)).1
      rw [h4] at this
      omega
    symm
    rw [Bool.and_eq_false_iff, decide_eq_false_iff_not, decide_eq_false_iff_not]
    omega
/-- the metres of its brake -/
theorem Geo.brk {l : List Sg} (G : Geo l) {b : Nat} (hb : b < nBlk l) : ((List.range' (bsN l b) (bsN l (b + 1) - bsN l b)).filter fun k : Nat => decide ((at0 (pls l).ms (k : Int)).1 = ("brake" : Str))) = List.range' (brN l b) (bsN l (b + 1) - brN l b) := by
  obtain ⟨e1, e2, e3, h1, h2, h3⟩ := G.bsb hb
  rw [← G.own hb, List.filter_filter]
  refine pick (by omega) h3 fun k hk => ?_
  obtain ⟨c, hc, c1, c2⟩ := G.cv k hk
  have h4 := G.mb k hk c hc c1 c2
  rw [h4.1]
  obtain ⟨f1, f2, f3, g1, g2, g3⟩ := G.bsb hc
  by_cases z : c = b
  · subst z
    rw [f1] at c1
    rw [f3] at c2
    rw [f2] at h4
    have e : decide ((at0 (pls l).ms (k : Int)).1 = ("brake" : Str)) = decide (brN l c ≤ k) := decide_eq_decide.mpr (h4.2.trans (by omega))
    rw [e, decide_eq_true rfl, decide_eq_true (show k < bsN l (c + 1) by omega)]
  · rw [decide_eq_false (show ¬ ((c : Int) = (b : Int)) by omega), Bool.and_false]
    symm
    rw [Bool.and_eq_false_iff, decide_eq_false_iff_not, decide_eq_false_iff_not]
    by_cases y : brN l b ≤ k ∧ k < bsN l (b + 1)
    · have := (G.mb k hk b hb (by rw [e1]; omega) (by rw [e3]; omega)).1
      rw [h4.1] at this
      omega
    · omega
/-- what is known of a drawn layout -/
structure Drawn (l : List Sg) : Prop where
  lo : loOk l = true
  ok : segsOk l = true
  ln : l.length ≤ 50
  ml : mlen l ≤ 299
  nm : nMet l ≤ 299
  nb : nBlk l ≤ 50
  G : Geo l
end Lw
namespace Lw
open PySem PySem.Spec PyProof.Rows L2 Ci
/-- a train's data in the laws -/
def trL (t : Tr) : List D := [.int t.len, .tup [.int t.f0, .int t.f1], .tup [.int t.b0, .int t.b1], .int t.li, .int t.dr]
theorem ixTr0 {t : Tr} : B2.fn .ix (.lst (trL t)) (.int 0) = .ok (dv (.int t.len)) := ixL0
theorem ixTr1 {t : Tr} : B2.fn .ix (.lst (trL t)) (.int 1) = .ok (dv (.tup [.int t.f0, .int t.f1])) := ixL1
theorem ixTr2 {t : Tr} : B2.fn .ix (.lst (trL t)) (.int 2) = .ok (dv (.tup [.int t.b0, .int t.b1])) := ixL2
theorem ixTr3 {t : Tr} : B2.fn .ix (.lst (trL t)) (.int 3) = .ok (dv (.int t.li)) := ixL3
theorem ixTr4 {t : Tr} : B2.fn .ix (.lst (trL t)) (.int 4) = .ok (dv (.int t.dr)) := ixL4
structure TrOk (t : Tr) : Prop where
  l1 : 1 ≤ t.len
  l2 : t.len ≤ 100
  f0 : 0 ≤ t.f0
  f1 : t.f0 ≤ t.f1
  f2 : t.f1 ≤ 100000
  b0 : 1 ≤ t.b0
  b1 : t.b0 ≤ t.b1
  b2 : t.b1 ≤ 1000000
  i1 : 1 ≤ t.li
  i2 : t.li ≤ 10000000
  d1 : 1 ≤ t.dr
  d2 : t.dr ≤ 10000000
/-- the energy behind a metre -/
def afterF (s : Sg) (t : Tr) (e f : Int) (o : Option Int) : Int :=
  if s.1 = ("lift" : Str) then max t.li (e - 1962 * s.2.1 - f) else if s.1 = ("brake" : Str) ∧ o = none then max t.dr (e - 1962 * s.2.1 - f)
  else if e = 0 then 0 else if s.1 = ("brake" : Str) then max 0 (e - 1962 * s.2.1 - f - o.getD 0) else max 0 (e - 1962 * s.2.1 - f)
end Lw
end

section
set_option Elab.async false
set_option linter.all false
set_option maxRecDepth 100000
set_option maxHeartbeats 4000000
/-! ## envelopes -/
namespace Lw
open PySem PySem.Spec PyProof.Rows L2 Ci
open Evl (Ex ex_t ex_l sq_of st_of)
/-- the envelope before a metre -/
def limF (t : Tr) (s : Sg) (nx : Int) : Int :=
  if s.1 = ("lift" : Str) then (if t.li > nx ∨ nx + (1962 * s.2.1 + t.f0) < 0 then -1 else nx + (1962 * s.2.1 + t.f0))
  else max 0 (max nx 0 + (1962 * s.2.1 + t.f0 + (if s.1 = ("brake" : Str) then t.b0 else 0)))
def blk (ms : List Sg) (k : Nat) : Int := (ms.getD k default).2.2
/-- the envelope j metres before the end -/
def envR (ms : List Sg) (t : Tr) : Nat → Int
  | 0 => 0
  | j + 1 => limF t (ms.getD (ms.length - 1 - j) default) (if j = 0 ∨ blk ms (ms.length - j) ≠ blk ms (ms.length - 1 - j) then 0 else envR ms t j)
def env (ms : List Sg) (t : Tr) (k : Nat) : Int := envR ms t (ms.length - k)
section
variable {l : List Sg} (G : Geo l) {b : Nat} (hb : b < nBlk l)
include G hb
end
end Lw
end

section
set_option Elab.async false
set_option linter.all false
set_option maxRecDepth 100000
set_option maxHeartbeats 4000000
/-! ## motion -/
namespace Lw
open PySem PySem.Spec PyProof.Rows L2 Ci
open Evl (Ex ex_t ex_l sq_of st_of)
/-- the energy after k metres of a roll -/
def rollE (ms : List Sg) (t : Tr) (m : Nat) (e : Int) (fs : List Int) (os : List (Option Int)) : Nat → Int
  | 0 => e
  | k + 1 => afterF (ms.getD ((m + k) % ms.length) default) t (rollE ms t m e fs os k) (fs.getD k 0) (os.getD k none)
def rollL (ms : List Sg) (t : Tr) (m : Nat) (e : Int) (fs : List Int) (os : List (Option Int)) (n : Nat) : List Int := (List.range n).map fun k => rollE ms t m e fs os (k + 1)
theorem rollL_len {ms : List Sg} {t : Tr} {m : Nat} {e : Int} {fs : List Int} {os : List (Option Int)} {n : Nat} : (rollL ms t m e fs os n).length = n := by
  unfold rollL
  rw [List.length_map, List.length_range]
section
variable {l : List Sg} (G : Geo l) {b : Nat} (hb : b < nBlk l)
include G hb
end
theorem zipD_zip {α β : Type} {f : α → D} {g : β → D} : ∀ {xs : List α} {ys : List β}, zipD (xs.map f) (ys.map g) = (xs.zip ys).map fun z => D.tup [f z.1, g z.2]
  | [], _ => by cases ‹List β› <;> rfl
  | _ :: _, [] => rfl
  | x :: xs, y :: ys => by
    show D.tup _ :: zipD _ _ = D.tup _ :: _
    rw [zipD_zip]
    rfl
theorem repI {n : Nat} {f : Int} : List.replicate n (D.int f) = (List.replicate n f).map D.int := by rw [List.map_replicate]
theorem repN {n : Nat} : List.replicate n D.non = (List.replicate n (none : Option Int)).map encO := by rw [List.map_replicate]; rfl
theorem consI {x : Int} {xs : List Int} : [D.int x] ++ xs.map D.int = (x :: xs).map D.int := rfl
/-- slices -/
theorem cut_from {xs : List D} {i : Int} (h0 : 0 ≤ i) (h1 : i ≤ xs.length) : Ci.cutD xs (some i) none = xs.drop i.toNat := by
  unfold Ci.cutD
  have e1 : HT.sIx xs.length 0 (some i) = i.toNat := by show (if i < 0 then (i + (xs.length : Int)).toNat else min i.toNat xs.length) = _; rw [if_neg (by omega)]; omega
  have e2 : HT.sIx xs.length xs.length none = xs.length := rfl
  rw [e1, e2]
  exact List.take_of_length_le (by rw [List.length_drop]; exact Nat.le_refl _)
theorem cut_mid {xs : List D} {i j : Int} (h0 : 0 ≤ i) (h1 : i ≤ j) (h2 : j ≤ xs.length) : Ci.cutD xs (some i) (some j) = (xs.drop i.toNat).take (j.toNat - i.toNat) := by
  unfold Ci.cutD
  have e1 : HT.sIx xs.length 0 (some i) = i.toNat := by show (if i < 0 then (i + (xs.length : Int)).toNat else min i.toNat xs.length) = _; rw [if_neg (by omega)]; omega
  have e2 : HT.sIx xs.length xs.length (some j) = j.toNat := by show (if j < 0 then (j + (xs.length : Int)).toNat else min j.toNat xs.length) = _; rw [if_neg (by omega)]; omega
  rw [e1, e2]
theorem cut_to {xs : List D} {j : Int} (h0 : 0 ≤ j) (h2 : j ≤ xs.length) : Ci.cutD xs none (some j) = xs.take j.toNat := by
  unfold Ci.cutD
  have e1 : HT.sIx xs.length 0 none = 0 := rfl
  have e2 : HT.sIx xs.length xs.length (some j) = j.toNat := by show (if j < 0 then (j + (xs.length : Int)).toNat else min j.toNat xs.length) = _; rw [if_neg (by omega)]; omega
  rw [e1, e2, Nat.sub_zero, List.drop_zero]
theorem q_slF {α : Type} {f : α → D} {xs : List α} {i : Int} (h0 : 0 ≤ i) (h1 : i ≤ xs.length) : slF (.lst (xs.map f)) (some i) none = .ok (ov (.lst ((xs.drop i.toNat).map f))) := by
  show R.ok (ov (.lst (Ci.cutD _ _ _))) = _
  rw [cut_from h0 (by rw [List.length_map]; exact h1), List.map_drop]
theorem q_slM {α : Type} {f : α → D} {xs : List α} {i j : Int} (h0 : 0 ≤ i) (h1 : i ≤ j) (h2 : j ≤ xs.length) : slF (.lst (xs.map f)) (some i) (some j) = .ok (ov (.lst (((xs.drop i.toNat).take (j.toNat - i.toNat)).map f))) := by
  show R.ok (ov (.lst (Ci.cutD _ _ _))) = _
  rw [cut_mid h0 h1 (by rw [List.length_map]; exact h2), List.map_take, List.map_drop]
theorem q_slT {α : Type} {f : α → D} {xs : List α} {j : Int} (h0 : 0 ≤ j) (h2 : j ≤ xs.length) : slF (.lst (xs.map f)) none (some j) = .ok (ov (.lst ((xs.take j.toNat).map f))) := by
  show R.ok (ov (.lst (Ci.cutD _ _ _))) = _
  rw [cut_to h0 (by rw [List.length_map]; exact h2), List.map_take]
theorem loOk_iff {l : List Sg} : loOk l = true ↔ segsOk l = true ∧ 2 ≤ nBr l ∧ nBr l ≤ 12 ∧ lastK l = ("brake" : Str) ∧ tot l ≤ 4000 ∧ clo l = 0 := by
  unfold loOk roundOk
  have e : (lastK l == ("brake" : Str)) = decide (lastK l = ("brake" : Str)) := rfl
  rw [e]
  simp only [Bool.and_eq_true, Bool.not_eq_true', Bool.or_eq_false_iff, Bool.not_eq_false', decide_eq_true_eq, decide_eq_false_iff_not]
  constructor
  · rintro ⟨h1, ⟨⟨h2, h3⟩, h4⟩, h5, h6⟩
    exact ⟨h1, by omega, by omega, h4, by omega, h6⟩
  · rintro ⟨h1, h2, h3, h4, h5, h6⟩
    exact ⟨h1, ⟨⟨by omega, by omega⟩, h4⟩, by omega, h6⟩
theorem loOk_no {l : List Sg} (h : ¬ (segsOk l = true ∧ 2 ≤ nBr l ∧ nBr l ≤ 12 ∧ lastK l = ("brake" : Str) ∧ tot l ≤ 4000 ∧ clo l = 0)) : loOk l = false := by
  cases e : loOk l with
  | false => rfl
  | true => exact absurd (loOk_iff.mp e) h
theorem map_app2 {α β : Type} {f : α → β} {xs ys : List α} : xs.map f ++ ys.map f = (xs ++ ys).map f := by rw [List.map_append]
end Lw
end

section
set_option Elab.async false
set_option linter.all false
set_option maxRecDepth 100000
set_option maxHeartbeats 4000000
/-! ## more energy before gives no less behind; rounds -/
namespace Lw
open PySem PySem.Spec PyProof.Rows L2 Ci
open Evl (Ex ex_t ex_l sq_of st_of)
/-- what is known of a layout for its rounds -/
structure Rnd (ms : List Sg) : Prop where
  pos : 0 < ms.length
  last : (ms.getD (ms.length - 1) default).1 = ("brake" : Str)
  sum : psum ms ms.length = 0
section
variable {ms : List Sg} {t : Tr} (R : Rnd ms) (ht : TrOk t)
include R ht
end
theorem q_inI {x : Int} {xs : List Int} : B2.fn .in (.int x) (.lst (xs.map D.int)) = .ok (dv (.bl (xs.any fun z => decide (z = x)))) := by
  have h1 : pures (xs.map D.int) = true := by
    induction xs with
    | nil => rfl
    | cons a r ih => show (pure (.int a) && pures (r.map D.int)) = true; rw [ih]; rfl
  have h2 : depL (xs.map D.int) = 0 := by
    clear h1
    induction xs with
    | nil => rfl
    | cons a r ih => show max 0 (depL (r.map D.int)) = 0; rw [ih]; rfl
  have h3 : eqOk (.lst (xs.map D.int)) = true := by
    show (pures (xs.map D.int) && decide (depL (xs.map D.int) + 1 ≤ 60)) = true
    rw [h1, h2]
    rfl
  have h4 : inLst (.int x) (xs.map D.int) = .ok (xs.any fun z => decide (z = x)) := by
    unfold inLst
    rw [h3]
    show (if true = true then R.ok ((xs.map D.int).any fun z => eqv z (.int x)) else .bad) = _
    rw [if_pos rfl, List.any_map]
    rfl
  simp only [B2.fn, inF, h4]
  rfl
end Lw
namespace Lw
open PySem PySem.Spec PyProof.Rows L2 Ci
end Lw
end

section
set_option Elab.async false
set_option linter.all false
set_option maxRecDepth 100000
set_option maxHeartbeats 4000000
/-! ## rides: ways, places, drawn rides, trains on them, parts -/
namespace Lw
open PySem PySem.Spec PyProof.Rows L2 Ci
open Evl (Ex ex_t ex_l sq_of st_of)
def encW (w : Int × Int) : D := .tup [.int w.1, .int w.2]
/-- a fault: a part and its number -/
def encFt : Option (Sg × Int) → D
  | none => .non
  | some (p, v) => .tup [encS p, .int v]
theorem isNon_encFt {o : Option (Sg × Int)} : (encFt o).isNon = o.isNone := by cases o <;> rfl
theorem eqvS {p q : Sg} : eqv (encS p) (encS q) = decide (p = q) := by
  obtain ⟨a, b, c⟩ := p
  obtain ⟨d, e, f⟩ := q
  show (PyData.eqv (.str a) (.str d) && (PyData.eqv (.int b) (.int e) && (PyData.eqv (.int c) (.int f) && true))) = _
  have h1 : PyData.eqv (.str a) (.str d) = decide (a = d) := rfl
  have h2 : PyData.eqv (.int b) (.int e) = decide (b = e) := rfl
  have h3 : PyData.eqv (.int c) (.int f) = decide (c = f) := rfl
  rw [h1, h2, h3, Bool.and_true, ← Bool.decide_and, ← Bool.decide_and]
  congr 1
  rw [Prod.mk.injEq, Prod.mk.injEq]
theorem eqOkS {p : Sg} : eqOk (encS p) = true := rfl
theorem o_eqSg {p q : Sg} : B2.fn .eq (encS p) (encS q) = .ok (dv (.bl (decide (p = q)))) := by rw [o_eq eqOkS eqOkS, eqvS]
theorem o_neSg {p q : Sg} : B2.fn .ne (encS p) (encS q) = .ok (dv (.bl (!decide (p = q)))) := by rw [o_ne eqOkS eqOkS, eqvS]
theorem pures_S : ∀ l : List Sg, pures (l.map encS) = true
  | [] => rfl
  | _ :: r => by
    show (pure (encS _) && pures (r.map encS)) = true
    rw [pures_S r]
    rfl
theorem depL_S : ∀ l : List Sg, depL (l.map encS) ≤ 1
  | [] => Nat.zero_le _
  | x :: r => by
    have h := depL_S r
    show max (encS x).dep (depL (r.map encS)) ≤ 1
    exact Nat.max_le.mpr ⟨Nat.le_of_ble_eq_true rfl, h⟩
theorem eqOk_tupS {l : List Sg} : eqOk (.tup (l.map encS)) = true := by
  have h := depL_S l
  show (pures (l.map encS) && decide (depL (l.map encS) + 1 ≤ 60)) = true
  rw [pures_S, decide_eq_true (by omega)]
  rfl
theorem eqOk_lstS {l : List Sg} : eqOk (.lst (l.map encS)) = true := by
  have h := depL_S l
  show (pures (l.map encS) && decide (depL (l.map encS) + 1 ≤ 60)) = true
  rw [pures_S, decide_eq_true (by omega)]
  rfl
theorem any_eqS {l : List Sg} {p : Sg} : ((l.map encS).any fun z => eqv z (encS p)) = decide (p ∈ l) := by
  rw [List.any_map, Bool.eq_iff_iff, decide_eq_true_eq, List.any_eq_true]
  constructor
  · rintro ⟨z, m, e⟩
    have e : eqv (encS z) (encS p) = true := e
    rw [eqvS] at e
    rw [← of_decide_eq_true e]
    exact m
  · intro m
    refine ⟨p, m, ?_⟩
    show eqv (encS p) (encS p) = true
    rw [eqvS]
    exact decide_eq_true rfl
theorem q_inSt {l : List Sg} {p : Sg} : B2.fn .in (encS p) (.tup (l.map encS)) = .ok (dv (.bl (decide (p ∈ l)))) := by
  have h : inTup (encS p) (l.map encS) = .ok (decide (p ∈ l)) := by
    unfold inTup
    rw [eqOkS, eqOk_tupS, any_eqS]
    rfl
  show (inTup (encS p) (l.map encS)).bind _ = _
  rw [h]
  rfl
theorem q_inSl {l : List Sg} {p : Sg} : B2.fn .in (encS p) (.lst (l.map encS)) = .ok (dv (.bl (decide (p ∈ l)))) := by
  have h : inLst (encS p) (l.map encS) = .ok (decide (p ∈ l)) := by
    unfold inLst
    rw [eqOkS, eqOk_lstS, any_eqS]
    rfl
  show (inLst (encS p) (l.map encS)).bind _ = _
  rw [h]
  rfl
theorem q_notinSl {l : List Sg} {p : Sg} : B2.fn .notin (encS p) (.lst (l.map encS)) = .ok (dv (.bl (!decide (p ∈ l)))) := by
  have h : inLst (encS p) (l.map encS) = .ok (decide (p ∈ l)) := by
    unfold inLst
    rw [eqOkS, eqOk_lstS, any_eqS]
    rfl
  show (inLst (encS p) (l.map encS)).bind _ = _
  rw [h]
  rfl
def rdV (ws : List (Int × Int)) (ov : Int) (ts : List Int) : List (Str × FV) := [("ways", .d (.tup (ws.map encW))), ("over", .d (.int ov)), ("trains", .d (.tup (ts.map D.int)))]
def rdD (ws : List (Int × Int)) (ov : Int) (ts : List Int) : D := .ins 2 [("ways", .tup (ws.map encW)), ("over", .int ov), ("trains", .tup (ts.map D.int))]
theorem rd_fold {ws : List (Int × Int)} {ov : Int} {ts : List Int} : D.ins 2 (fsD (rdV ws ov ts)) = rdD ws ov ts := rfl
theorem rf_ways {ws : List (Int × Int)} {ov : Int} {ts : List Int} : fldO [2] "ways" (some (some (.d (rdD ws ov ts)))) = .ok (dv (.tup (ws.map encW))) := by unfold rdD; simp only [fldO, List.lookup_cons, ofString_beq, String.reduceEq, decide_true, decide_false, List.mem_singleton, if_true]
theorem rf_over {ws : List (Int × Int)} {ov : Int} {ts : List Int} : fldO [2] "over" (some (some (.d (rdD ws ov ts)))) = .ok (dv (.int ov)) := by unfold rdD; simp only [fldO, List.lookup_cons, ofString_beq, String.reduceEq, decide_true, decide_false, List.mem_singleton, if_true]
theorem rf_trains {ws : List (Int × Int)} {ov : Int} {ts : List Int} : fldO [2] "trains" (some (some (.d (rdD ws ov ts)))) = .ok (dv (.tup (ts.map D.int))) := by unfold rdD; simp only [fldO, List.lookup_cons, ofString_beq, String.reduceEq, decide_true, decide_false, List.mem_singleton, if_true]
theorem me_rd {ws : List (Int × Int)} {ov : Int} {tr : List Int} {f : List D → R RV} {as : R (List D)} (m : Str) (h : ("ways" : Str) ≠ m ∧ ("over" : Str) ≠ m ∧ ("trains" : Str) ≠ m) : methF 2 m f as (dv (rdD ws ov tr)) = as.bind fun ds => f (rdD ws ov tr :: ds) := by
  have e : ([("ways", .tup (ws.map encW)), ("over", .int ov), ("trains", .tup (tr.map D.int))] : List (Str × D)).lookup m = none := by
    simp only [List.lookup_cons, List.lookup_nil, beq_eq_false_iff_ne.mpr h.1.symm, beq_eq_false_iff_ne.mpr h.2.1.symm, beq_eq_false_iff_ne.mpr h.2.2.symm]
  unfold rdD
  show (if 2 = 2 then (match (_ : Option D) with | none => as.bind fun ds => f _ | some _ => .bad) else .bad) = _
  rw [if_pos rfl, e]
theorem me_parts {ws : List (Int × Int)} {ov : Int} {tr : List Int} {f : List D → R RV} {as : R (List D)} : methF 2 "parts" f as (dv (rdD ws ov tr)) = as.bind fun ds => f (rdD ws ov tr :: ds) := me_rd _ (by decide)
theorem me_first {ws : List (Int × Int)} {ov : Int} {tr : List Int} {f : List D → R RV} {as : R (List D)} : methF 2 "first" f as (dv (rdD ws ov tr)) = as.bind fun ds => f (rdD ws ov tr :: ds) := me_rd _ (by decide)
/-- a state of a ride -/
def encSt (ts : List Sg) (bars : Int) (ft : Option (Sg × Int)) : D := .tup [.tup (ts.map encS), .int bars, encFt ft]
def stL (ts : List Sg) (bars : Int) (ft : Option (Sg × Int)) : List D := [.tup (ts.map encS), .int bars, encFt ft]
theorem encSt_tup {ts : List Sg} {bars : Int} {ft : Option (Sg × Int)} : D.tup [.tup (ts.map encS), .int bars, encFt ft] = encSt ts bars ft := rfl
theorem x_gtup_st {gs : P .gs} {ts : List Sg} {bars : Int} {ft : Option (Sg × Int)} {ρ : En} : ev (.gtup 3 gs) (encSt ts bars ft) ρ = ev gs (stL ts bars ft) ρ := rfl
theorem ixSt0 {ts : List Sg} {bars : Int} {ft : Option (Sg × Int)} : B2.fn .ix (encSt ts bars ft) (.int 0) = .ok (dv (.tup (ts.map encS))) := rfl
theorem ixSt1 {ts : List Sg} {bars : Int} {ft : Option (Sg × Int)} : B2.fn .ix (encSt ts bars ft) (.int 1) = .ok (dv (.int bars)) := rfl
theorem ixSt2 {ts : List Sg} {bars : Int} {ft : Option (Sg × Int)} : B2.fn .ix (encSt ts bars ft) (.int 2) = .ok (dv (encFt ft)) := rfl
end Lw
end

section
set_option Elab.async false
set_option linter.all false
set_option maxRecDepth 100000
set_option maxHeartbeats 4000000
/-! ## roots and times -/
namespace Lw
open PySem PySem.Spec PyProof.Rows L2 Ci
open Evl (Ex ex_t ex_l sq_of st_of)
/-- the bisection -/
def rtS (n : Int) (p : Int × Int) : Int × Int := if p.2 - p.1 > 1 then (if (p.1 + p.2) / 2 * ((p.1 + p.2) / 2) ≤ n then ((p.1 + p.2) / 2, p.2) else (p.1, (p.1 + p.2) / 2)) else p
def rt (n : Int) : Nat → Int × Int
  | 0 => (0, n + 1)
  | k + 1 => rtS n (rt n k)
end Lw
end

section
set_option Elab.async false
set_option linter.all false
set_option maxRecDepth 100000
set_option maxHeartbeats 4000000
/-! ## trains that stand within their block -/
namespace Lw
open PySem PySem.Spec PyProof.Rows L2 Ci
end Lw
end

section
set_option Elab.async false
set_option linter.all false
set_option maxRecDepth 100000
set_option maxHeartbeats 4000000
/-! ## texts: numbers written and read, words, lines -/
namespace Lw
open PySem PySem.Spec PyProof.Rows L2 Ci
open Evl (Ex ex_t ex_l sq_of st_of)
abbrev tl (x : Str) : List Nat := x.cps.toList
theorem len_tl (x : Str) : x.length = (tl x).length := TL.len_tl x
theorem ext_tl {x y : Str} (h : tl x = tl y) : x = y := TL.ext_tl h
theorem tl_app (x y : Str) : tl (x ++ y) = tl x ++ tl y := TL.tl_append x y
theorem eq_tl {x y : Str} : (x = y) ↔ tl x = tl y := ⟨fun h => by rw [h], ext_tl⟩
theorem dec_tl {x y : Str} : decide (x = y) = decide (tl x = tl y) := decide_eq_decide.mpr eq_tl
theorem len_app (x y : Str) : (x ++ y).length = x.length + y.length := by rw [len_tl, len_tl, len_tl, tl_app, List.length_append]
theorem emp_app (x : Str) : Str.empty ++ x = x := ext_tl (by rw [tl_app]; rfl)
theorem tl_nl : tl ("\n" : Str) = [10] := by decide +kernel
theorem tl_sp : tl (" " : Str) = [32] := by decide +kernel
theorem len_nl : ("\n" : Str).length = 1 := by rw [len_tl, tl_nl]; rfl
theorem len_sp : (" " : Str).length = 1 := by rw [len_tl, tl_sp]; rfl
/-! lines, words -/
theorem split_nl {ls : List Str} (h0 : ls ≠ []) (h : ∀ l ∈ ls, 10 ∉ tl l) : Txt.split (Txt.join "\n" ls) "\n" = ls := TL.split_join (s := 10) (S := []) tl_nl (by decide +kernel) h0 h
theorem split_sp {ls : List Str} (h0 : ls ≠ []) (h : ∀ l ∈ ls, 32 ∉ tl l) : Txt.split (Txt.join " " ls) " " = ls := TL.split_join (s := 32) (S := []) tl_sp (by decide +kernel) h0 h
theorem tl_join (y : Str) (ps : List Str) : tl (Txt.join y ps) = TL.joinL (tl y) (ps.map tl) := by rw [TL.join_eq]; exact TL.tl_join y ps
theorem joinL_len (S : List Nat) : ∀ ps : List (List Nat), (TL.joinL S ps).length ≤ (ps.map List.length).sum + ps.length * S.length
  | [] => Nat.zero_le _
  | [p] => by show p.length ≤ p.length + 0 + (0 + 1) * S.length; omega
  | p :: q :: r => by
    have ih := joinL_len S (q :: r)
    have e : TL.joinL S (p :: q :: r) = p ++ (S ++ TL.joinL S (q :: r)) := rfl
    rw [e, List.length_append, List.length_append, List.map_cons, List.sum_cons, List.length_cons, Nat.succ_mul]
    omega
theorem join_len (y : Str) (ps : List Str) : (Txt.join y ps).length ≤ (ps.map fun x => x.length).sum + ps.length * y.length := by
  rw [len_tl, tl_join]
  have := joinL_len (tl y) (ps.map tl)
  rw [List.map_map, List.length_map] at this
  have e : (List.map (List.length ∘ tl) ps) = ps.map fun x => x.length := List.map_congr_left fun x _ => (len_tl x).symm
  rw [e] at this
  rw [len_tl y]
  exact this
theorem sum_le {ps : List Str} {n : Nat} (h : ∀ p ∈ ps, p.length ≤ n) : (ps.map fun x => x.length).sum ≤ ps.length * n := by
  induction ps with
  | nil => exact Nat.zero_le _
  | cons p r ih =>
    have h1 := h p List.mem_cons_self
    have h2 := ih fun q m => h q (List.mem_cons_of_mem _ m)
    rw [List.map_cons, List.sum_cons, List.length_cons, Nat.succ_mul]
    omega
theorem join3 (a b c : Str) : Txt.join " " [a, b, c] = a ++ " " ++ b ++ " " ++ c := ext_tl (by
  rw [tl_join, tl_app, tl_app, tl_app, tl_app]
  show TL.joinL (tl " ") [tl a, tl b, tl c] = _
  rw [TL.joinL, TL.joinL, TL.joinL]
  simp only [List.append_assoc])
/-! numbers -/
theorem tl_num {n : Int} (h : 0 ≤ n) : tl (strI n) = TL.numL n.toNat := by
  obtain ⟨m, rfl⟩ := Int.eq_ofNat_of_zero_le h
  exact TL.tl_num m
theorem tl_neg {n : Int} (h : n < 0) : tl (strI n) = 45 :: TL.numL (-n).toNat := by
  obtain ⟨m, rfl⟩ : ∃ m : Nat, n = Int.negSucc m := ⟨(-n - 1).toNat, by omega⟩
  have e : (toString (Int.negSucc m) : String) = "-" ++ toString ((m + 1 : Nat) : Int) := rfl
  have e2 : (-(Int.negSucc m)).toNat = m + 1 := by omega
  show tl (Str.ofString (toString (Int.negSucc m))) = _
  rw [e2, e, ← TL.tl_num]
  show TL.tl (Str.ofString _) = 45 :: TL.tl (Str.ofString _)
  rw [TL.tl_ofString, TL.tl_ofString]
  simp
theorem numL_head {n : Nat} : (TL.numL n).head? = some 48 → n = 0 := by
  induction n using Nat.strongRecOn with
  | _ n ih =>
    intro h
    by_cases c : n < 10
    · rw [TL.numL_lt c] at h
      have := Option.some.inj h
      omega
    · rw [TL.numL_step (by omega)] at h
      have hn := TL.numL_ne (n / 10)
      cases e : TL.numL (n / 10) with
      | nil => exact absurd e hn
      | cons a r =>
        rw [e] at h
        have h' : (TL.numL (n / 10)).head? = some 48 := by rw [e]; exact h
        have := ih (n / 10) (by omega) h'
        omega
def digitB (c : Nat) : Bool := decide (48 ≤ c) && decide (c ≤ 57)
/-- a word as a number -/
def numR (w : Str) : Option Int :=
  if (1 ≤ w.length ∧ w.length ≤ 9) ∧ (tl w).all digitB = true ∧ ¬ ((tl w).head? = some 48 ∧ w ≠ "0") then some (NumText.digitsVal (tl w) : Nat) else none
theorem digitB_of {l : List Nat} (h : NumText.AllDigits l) : l.all digitB = true := List.all_eq_true.mpr fun c m => by
  have := h c m
  unfold digitB
  rw [decide_eq_true this.1, decide_eq_true this.2]
  rfl
theorem tl_zero : tl ("0" : Str) = [48] := by decide +kernel
theorem numR_num {n : Int} (h0 : 0 ≤ n) (h1 : n < 1000000000) : numR (strI n) = some n := by
  have e := tl_num h0
  have l1 : (TL.numL n.toNat).length ≤ 9 := TL.numL_len (by decide) (by omega)
  have l0 : 1 ≤ (TL.numL n.toNat).length := List.length_pos_iff.mpr (TL.numL_ne _)
  have z : ¬ ((tl (strI n)).head? = some 48 ∧ strI n ≠ "0") := fun z => by
    have h2 := z.1
    rw [e] at h2
    have := numL_head h2
    refine z.2 (ext_tl ?_)
    rw [e, this, tl_zero]
    rfl
  unfold numR
  rw [if_pos ⟨⟨by rw [len_tl, e]; exact l0, by rw [len_tl, e]; exact l1⟩, by rw [e]; exact digitB_of (TL.numL_digits _), z⟩, e, TL.numL_val, show ((n.toNat : Nat) : Int) = n by omega]
theorem strI_len {n : Int} (h : -1000000000 < n ∧ n < 1000000000) : (strI n).length ≤ 10 := by
  rw [len_tl]
  by_cases c : 0 ≤ n
  · rw [tl_num c]
    have : (TL.numL n.toNat).length ≤ 9 := TL.numL_len (by decide) (by omega)
    omega
  · rw [tl_neg (by omega), List.length_cons]
    have : (TL.numL (-n).toNat).length ≤ 9 := TL.numL_len (by decide) (by omega)
    omega
theorem strI_free {n : Int} {c : Nat} (h : c < 45 ∨ 57 < c) : c ∉ tl (strI n) := fun m => by
  by_cases k : 0 ≤ n
  · rw [tl_num k] at m
    exact TL.numL_free (by omega) m
  · rw [tl_neg (by omega)] at m
    rcases List.mem_cons.mp m with e | m
    · omega
    · exact TL.numL_free (by omega) m
theorem strI_log {n : Int} (h : -1000000000 < n ∧ n < 1000000000) : n.natAbs.log2 < 1920 := by
  have : n.natAbs.log2 ≤ 30 := by
    by_cases c : n.natAbs = 0
    · rw [c]; decide
    · have := (Nat.log2_lt (k := 30) c).mpr (by omega)
      omega
  omega
theorem o_str {n : Int} (h : -1000000000 < n ∧ n < 1000000000) : Cb.fn .str [.int n] = .ok (dv (.str (strI n))) := k_str (strI_log h)
theorem o_fmt {n : Int} (h : -1000000000 < n ∧ n < 1000000000) : fmtF (.int n) = .ok (dv (.str (strI n))) := fmt_int (strI_log h)
/-! signs -/
theorem in_sign {c : Nat} {s : Str} : B2.fn .in (.str ⟨#[c]⟩) (.str s) = .ok (dv (.bl (decide (c ∈ tl s)))) := by
  rfl
theorem notin_sign {c : Nat} {s : Str} : B2.fn .notin (.str ⟨#[c]⟩) (.str s) = .ok (dv (.bl (!decide (c ∈ tl s)))) := by
  rfl
theorem o_lenStr {s : Str} (h : s.length ≤ 16000000) : Cb.fn .len [.str s] = .ok (dv (.int (s.length : Nat))) := by
  show (R.bind (if s.length ≤ sizeLine then R.ok ((s.length : Nat) : Int) else R.bad) _) = _
  rw [if_pos (by rw [sizeLine_eq]; omega)]
  rfl
theorem o_ixS0 {s : Str} {c : Nat} {r : List Nat} (h : tl s = c :: r) (hl : s.length ≤ 16000000) : B2.fn .ix (.str s) (.int 0) = .ok (dv (.str ⟨#[c]⟩)) := by
  show (if _ then _ else _) = _
  rw [if_pos (by rw [sizeLine_eq]; omega)]
  have : atI s.cps.toList 0 = some c := by
    rw [show s.cps.toList = c :: r from h]
    exact atI_nat (j := 0) rfl
  rw [this]
  rfl
theorem o_intS {s : Str} (h : (tl s).all digitB = true) (h0 : tl s ≠ []) (h1 : s.length ≤ 600) : Cb.fn .int [.str s] = .ok (dv (.int (NumText.digitsVal (tl s) : Nat))) := by
  show (R.bind (if s.length ≤ 640 then R.ofO (PySem.intText? s) else R.bad) _) = _
  rw [if_pos (by omega)]
  have e : s = SX.S (tl s) := (SX.S_tl s).symm
  have := SX.int_S (a := tl s) h h0 (by rw [← len_tl]; omega)
  rw [← e] at this
  rw [this]
  rfl
theorem cut1 {s : Str} : tl (cutS s (some 1) none) = (tl s).drop 1 := by
  unfold cutS
  have e1 : HT.sIx s.length s.length none = s.length := by unfold HT.sIx; rfl
  have e0 : HT.sIx s.length 0 (some 1) = min 1 s.length := by
    unfold HT.sIx
    simp only
    rw [if_neg (by omega)]
    omega
  rw [e1, e0]
  show ((s.cps.toList.drop _).take _) = _
  by_cases c : s.length = 0
  · have : s.cps.toList = [] := List.length_eq_zero_iff.mp (by rw [← len_tl]; exact c)
    have e : tl s = [] := this
    rw [this, e]
    simp
  · rw [show min 1 s.length = 1 by omega, List.take_of_length_le (by rw [List.length_drop, ← len_tl]; omega)]
theorem sl1 {s : Str} (h : s.length ≤ 16000000) : slF (.str s) (some 1) none = .ok (dv (.str (cutS s (some 1) none))) := if_pos (by rw [sizeLine_eq]; omega)
theorem starts1 {a b : Str} {c : Nat} (hb : tl b = [c]) : Txt.startswith a b = decide ((tl a).head? = some c) := by
  have h := TL.at_iff (x := a) (y := b) (by rw [show TL.tl b = tl b from rfl, hb]; exact List.cons_ne_nil _ _) 0
  have e : Txt.startswith a b = true ↔ PySem.StrLaws.At a b a.length 0 := by
    unfold Txt.startswith PySem.StrLaws.At
    rw [Bool.and_eq_true, decide_eq_true_eq]
  rw [h, List.drop_zero, show TL.tl b = tl b from rfl, hb] at e
  have e2 : (TL.pre [c] (TL.tl a) = true) ↔ (tl a).head? = some c := by
    show (((tl a).take 1) == [c]) = true ↔ _
    cases tl a with
    | nil => simp
    | cons x r => simp
  rw [e2] at e
  by_cases k : (tl a).head? = some c
  · rw [e.mpr k, decide_eq_true k]
  · rw [decide_eq_false k]
    cases q : Txt.startswith a b with
    | false => rfl
    | true => exact absurd (e.mp q) k
theorem starts_minus {a : Str} : Txt.startswith a "-" = decide ((tl a).head? = some 45) := starts1 (by decide +kernel)
/-- a slope as a word tells it -/
def slopeR (w : Str) : Option Int :=
  if (tl w).head? = some 45 then (match numR (cutS w (some 1) none) with
    | some k => if k = 0 then none else some (-k)
    | none => none)
  else numR w
theorem slopeR_num {n : Int} (h : -1000000000 < n ∧ n < 1000000000) : slopeR (strI n) = some n := by
  unfold slopeR
  by_cases c : 0 ≤ n
  · have e := tl_num c
    rw [if_neg, numR_num c h.2]
    rw [e]
    intro z
    have hn := TL.numL_ne n.toNat
    cases q : TL.numL n.toNat with
    | nil => exact hn q
    | cons a r =>
      rw [q] at z
      have := TL.numL_digits n.toNat a (by rw [q]; exact List.mem_cons_self)
      have := Option.some.inj z
      omega
  · have e := tl_neg (n := n) (by omega)
    rw [if_pos (by rw [e]; rfl)]
    have e2 : cutS (strI n) (some 1) none = strI (-n) := ext_tl (by rw [cut1, e, tl_num (by omega)]; rfl)
    rw [e2, numR_num (by omega) (by omega)]
    simp only
    rw [if_neg (by omega), Int.neg_neg]
def encSo : Option Sg → D
  | none => .non
  | some s => encS s
theorem encSo_none : encSo none = .non := rfl
theorem encSo_some {s : Sg} : encSo (some s) = encS s := rfl
theorem encSo_non {o : Option Sg} : (encSo o).isNon = o.isNone := by cases o <;> rfl
/-- a segment by its words -/
def segW : List Str → Option Sg
  | [a, b, c] => if kindOk a then (match numR b, slopeR c with
    | some x, some y => some (a, x, y)
    | _, _ => none) else none
  | _ => none
def segR (l : Str) : Option Sg := segW (Txt.split l " ")
/-- lines, one after the other: the number of the first that is none -/
def rdL {α : Type} (g : Str → Option α) : List Str → Int → Except Int (List α)
  | [], _ => .ok []
  | l :: r, k => match g l with
    | none => .error k
    | some a => match rdL g r (k + 1) with
      | .ok as => .ok (a :: as)
      | .error n => .error n
theorem chD_map {s : Str} : chD s = (tl s).map fun c => D.str ⟨#[c]⟩ := rfl
theorem all_id {α : Type} {f : α → Bool} {l : List α} : ((l.map f).all id) = l.all f := by rw [List.all_map]; rfl
end Lw
end

section
set_option Elab.async false
set_option linter.all false
set_option maxRecDepth 100000
set_option maxHeartbeats 4000000
namespace Lw
open PySem PySem.Spec PyProof.Rows L2 Ci
open Evl (Ex ex_t ex_l sq_of st_of)
local macro_rules | `(tactic| walk_at "run") => `(tactic| simp -implicitDefEqProofs (disch := first | assumption | decide | omega | (simp only [List.length_replicate, List.length_map, List.length_range, List.length_append, List.length_cons, List.length_nil, List.length_take, List.length_drop, List.length_singleton, rollL_len] <;> omega) | fail) only [x_var, x_c, x_kt, x_bin, x_neg, x_andV, x_orV, x_notV, x_chain, x_chain3, x_ife, x_tup, x_lst, x_fld, x_sl, x_cb, x_isi, x_call, x_meth, x_make, x_lc, x_lc2, x_rngv, x_anil, x_acons, x_rnil, x_rcons, x_mnil, x_mcons, x_tst, x_tru, x_andT, x_orT, x_notT, x_yes, x_noP, x_someP, x_seq, x_rng1, x_rng2, x_rng3, x_zip, x_enum, enumF_lst, enumF_tup, x_augI, x_rev, zipF_lst, zipF_tup, revF_lst, x_gname, x_gtup, x_gtl, x_gnil, x_gcons, x_skip, x_sq, x_asgN, x_asgG, x_asgF, x_asgI, x_mut, x_ext, x_lrg, x_nix, x_nset, getN_f, getN_t, putN_f, putN_t, toL_ov, x_popD, x_popG, x_aug, x_drop, x_ret, x_retO, x_retN, x_brk, x_cont, x_raise, x_ifS, x_for, x_while, x_try, x_try2, x_try3, x_frz, x_kill, x_selfS, x_tm, x_fn, x_callv, isFn_d, x_fmt, x_fstr, x_fnil, x_fcons, x_enumK, x_raiseF, x_tryA, tryA_err, tryA_nx, tryA_rt, only_rt, x_xe, x_xf, xf_ok, x_xi, x_xtup, x_xand, x_xnil, x_xcons, x_hret, x_hif, isX_eq, asStr_str, tm_starts, seq_s,
  rd_dv, rd_ov, rd_vw, dat_d, dat_lst, sdat_fv, sdat_obj, toD_sv, toB_dv, toI_dv, mode_f, mode_t, mode_o, mode_v, cd_int, cd_str, cd_bl, cd_non, seq_d, seq_t, seq_o, seq_v, asgNF_sv, retF_sv, sq_nx, sq_rt, sq_err, sq_bk, sq_ct, try_err, try_nx, try_rt, try2_err, try2_nx, try2_rt, try3_err, try3_nx, try3_rt, toR_nx, toR_rt, toR_err, R.bind_ok, R.bind_err, R.bind_bad, R.sr_ok, R.sr_err, R.sr_bad, R.gr_ok, R.gr_err, R.gr_bad,
  o_add, o_sub, o_lt, o_le, o_gt, o_ge, o_eqI, o_neI, o_eqS, o_neS, o_eqB, o_neB, o_is, o_isnot, o_isb, o_notb, k_lenL, k_lenT, k_lenS, k_abs, k_int, k_intB, k_listL, k_listT, k_tupL, k_tupT, k_sum, k_lenset, k_range1, o_shr, o_band, rngVF_dv, k_all, k_any, k_max2, k_min2, k_maxL, k_minL, D.isNon, truD,
  getV, List.getElem?_cons_zero, List.getElem?_cons_succ, List.set_cons_zero, List.set_cons_succ, List.length_cons, List.length_nil, if_true, if_false, Bool.not_true, Bool.not_false, Bool.true_and, Bool.false_and, Bool.and_true, Bool.and_false, reduceIte, reduceCtorEq, Nat.reduceAdd, Nat.reduceSub, Nat.reduceLeDiff, Nat.zero_add, wipeE, startE, padE, List.cons_append, List.nil_append, List.replicate_succ, List.replicate_zero, asgFF, frzF, retOF, SV.isBrw, decide_true, decide_false, Bool.true_eq, Bool.false_eq_true, bool_if_true, bool_if_false, ofString_inj, ofString_beq, String.reduceEq, sq_bad, toR_bad, toI_bad, true_and, and_true, Nat.reduceLT, List.lookup_cons, List.lookup_nil, Int.reduceLT, Int.reduceLE, Int.reduceAdd, Int.reduceSub, Int.reduceMul, Int.reduceNeg, Int.reduceMod, Int.reduceDiv, Int.reducePow, Int.reduceToNat, Int.reduceEq, and_join, or_join, andT_join, orT_join, ixT0, ixT1, ixT2, ixT3, ixT4, ixT5, ixT6, ixL0, ixL1, ixL2, ixL3, ixL4, ixL5, ixL6, wr_nx, wr_ct, wr_bk, wr_rt, wr_err, wr_bad, wr_ite, try_ite, q_ixL, q_ixT, q_ixS, q_ixLast, o_mul, q_mulE, q_mulER, any_rep, q_mulLl, q_mulRl, q_divl, q_modl, q_div, q_mod, q_pow, q_appendM, q_append0, q_append, q_lrg, q_lzip, q_insertM, q_insert, q_line, q_line', q_mil, q_rng1, q_rng2, q_rng3, q_rep1, q_addL, List.length_map, List.length_append, map_snoc, Int.zero_add, getL, getP, putP, extF, forS, lcS, quiet_okS, quiet_ite, q_fldv, fldO_obj, fldO_ins, fvR_d, fvR_lst, dvR_some, augF, selfF, toI_dv, lentR, RV.noL, List.mem_cons, List.not_mem_nil, or_false, true_or, or_true, lk_yes, rng_len, List.length_range, List.length_range', Int.sub_add_cancel, Int.add_sub_cancel, List.length_replicate, Bool.or_false, Bool.or_true, Bool.true_or, Bool.false_or, and_self, Int.toNat_natCast, q_cast, x_seqb', x_lend', lendO_lst, seqbO_brw, i_nb, i_bb, i_ib, i_sb, i_tb, i_lb, i_ns, i_is, i_ss, i_ts, i_ls, i_ni, i_ii, i_ti, i_li, i_tl, i_ll, i_tt, i_lt, eq_self, Bool.not_not, not_true_eq_false, not_false_eq_true, kit_bool, Bool.true_beq, Bool.false_beq, beq_self_eq_true, only_ite, tryA_ite, sq_ite, bind_ite, sr_ite, gr_ite, toR_ite, toI_ite, toI_nx, toI_err, getO_x, putX, Bool.not_eq_true', me_parts, me_first, rd_fold, rf_ways, rf_over, rf_trains, encSt_tup, x_gtup_st, ixSt0, ixSt1, ixSt2, o_eqSg, o_neSg, q_inSt, q_inSl, q_notinSl, isNon_encFt, sg_fold, x_gtup_sg, ixSg0, ixSg1, ixSg2, lo_fold, tn_fold, ms_len, hs_len, br_len, bs_len, fl_segments, fl_metres, fl_heights, fl_begins, fl_brakes, me_total, me_blocks, me_metre, me_height, me_begin, me_brake, me_end, me_cm, me_cb, ft_length, ft_friction, ft_brake, ft_lift, ft_drive, ixTr0, ixTr1, ixTr2, ixTr3, ixTr4, encO_none, encO_some, isNon_encO, repI, repN, consI, q_slF, q_slM, q_slT, zipD_zip, q_inI, encSo_none, encSo_some, encSo_non, in_sign, notin_sign, o_lenStr, o_str, o_fmt, sl1, enumK_ok])
local macro_rules | `(tactic| walk_at "all") => `(tactic| simp -implicitDefEqProofs (disch := first | assumption | decide | omega | (simp only [List.length_replicate, List.length_map, List.length_range, List.length_append, List.length_cons, List.length_nil, List.length_take, List.length_drop, List.length_singleton, rollL_len] <;> omega) | fail) only [x_var, x_c, x_kt, x_bin, x_neg, x_andV, x_orV, x_notV, x_chain, x_chain3, x_ife, x_tup, x_lst, x_fld, x_sl, x_cb, x_isi, x_call, x_meth, x_make, x_lc, x_lc2, x_rngv, x_anil, x_acons, x_rnil, x_rcons, x_mnil, x_mcons, x_tst, x_tru, x_andT, x_orT, x_notT, x_yes, x_noP, x_someP, x_seq, x_rng1, x_rng2, x_rng3, x_zip, x_enum, enumF_lst, enumF_tup, x_augI, x_rev, zipF_lst, zipF_tup, revF_lst, x_gname, x_gtup, x_gtl, x_gnil, x_gcons, x_skip, x_sq, x_asgN, x_asgG, x_asgF, x_asgI, x_mut, x_ext, x_lrg, x_nix, x_nset, getN_f, getN_t, putN_f, putN_t, toL_ov, x_popD, x_popG, x_aug, x_drop, x_ret, x_retO, x_retN, x_brk, x_cont, x_raise, x_ifS, x_for, x_while, x_try, x_try2, x_try3, x_frz, x_kill, x_selfS, x_tm, x_fn, x_callv, isFn_d, x_fmt, x_fstr, x_fnil, x_fcons, x_enumK, x_raiseF, x_tryA, tryA_err, tryA_nx, tryA_rt, only_rt, x_xe, x_xf, xf_ok, x_xi, x_xtup, x_xand, x_xnil, x_xcons, x_hret, x_hif, isX_eq, asStr_str, tm_starts, seq_s,
  rd_dv, rd_ov, rd_vw, dat_d, dat_lst, sdat_fv, sdat_obj, toD_sv, toB_dv, toI_dv, mode_f, mode_t, mode_o, mode_v, cd_int, cd_str, cd_bl, cd_non, seq_d, seq_t, seq_o, seq_v, asgNF_sv, retF_sv, sq_nx, sq_rt, sq_err, sq_bk, sq_ct, try_err, try_nx, try_rt, try2_err, try2_nx, try2_rt, try3_err, try3_nx, try3_rt, toR_nx, toR_rt, toR_err, R.bind_ok, R.bind_err, R.bind_bad, R.sr_ok, R.sr_err, R.sr_bad, R.gr_ok, R.gr_err, R.gr_bad,
  o_add, o_sub, o_lt, o_le, o_gt, o_ge, o_eqI, o_neI, o_eqS, o_neS, o_eqB, o_neB, o_is, o_isnot, o_isb, o_notb, k_lenL, k_lenT, k_lenS, k_abs, k_int, k_intB, k_listL, k_listT, k_tupL, k_tupT, k_sum, k_lenset, k_range1, o_shr, o_band, rngVF_dv, k_all, k_any, k_max2, k_min2, k_maxL, k_minL, D.isNon, truD,
  getV, List.getElem?_cons_zero, List.getElem?_cons_succ, List.set_cons_zero, List.set_cons_succ, List.length_cons, List.length_nil, if_true, if_false, Bool.not_true, Bool.not_false, Bool.true_and, Bool.false_and, Bool.and_true, Bool.and_false, reduceIte, reduceCtorEq, Nat.reduceAdd, Nat.reduceSub, Nat.reduceLeDiff, Nat.zero_add, wipeE, startE, padE, List.cons_append, List.nil_append, List.replicate_succ, List.replicate_zero, asgFF, frzF, retOF, SV.isBrw, decide_true, decide_false, Bool.true_eq, Bool.false_eq_true, bool_if_true, bool_if_false, ofString_inj, ofString_beq, String.reduceEq, sq_bad, toR_bad, toI_bad, true_and, and_true, Nat.reduceLT, List.lookup_cons, List.lookup_nil, Int.reduceLT, Int.reduceLE, Int.reduceAdd, Int.reduceSub, Int.reduceMul, Int.reduceNeg, Int.reduceMod, Int.reduceDiv, Int.reducePow, Int.reduceToNat, Int.reduceEq, and_join, or_join, andT_join, orT_join, ixT0, ixT1, ixT2, ixT3, ixT4, ixT5, ixT6, ixL0, ixL1, ixL2, ixL3, ixL4, ixL5, ixL6, wr_nx, wr_ct, wr_bk, wr_rt, wr_err, wr_bad, wr_ite, try_ite, q_ixL, q_ixT, q_ixS, q_ixLast, o_mul, q_mulE, q_mulER, any_rep, q_mulLl, q_mulRl, q_divl, q_modl, q_div, q_mod, q_pow, q_appendM, q_append0, q_append, q_lrg, q_lzip, q_insertM, q_insert, q_line, q_line', q_mil, q_rng1, q_rng2, q_rng3, q_rep1, q_addL, List.length_map, List.length_append, map_snoc, Int.zero_add, getL, getP, putP, extF, forS, lcS, quiet_okS, quiet_ite, q_fldv, fldO_obj, fldO_ins, fvR_d, fvR_lst, dvR_some, augF, selfF, toI_dv, lentR, RV.noL, List.mem_cons, List.not_mem_nil, or_false, true_or, or_true, lk_yes, rng_len, List.length_range, List.length_range', Int.sub_add_cancel, Int.add_sub_cancel, List.length_replicate, Bool.or_false, Bool.or_true, Bool.true_or, Bool.false_or, and_self, Int.toNat_natCast, q_cast, x_seqb', x_lend', lendO_lst, seqbO_brw, i_nb, i_bb, i_ib, i_sb, i_tb, i_lb, i_ns, i_is, i_ss, i_ts, i_ls, i_ni, i_ii, i_ti, i_li, i_tl, i_ll, i_tt, i_lt, eq_self, Bool.not_not, not_true_eq_false, not_false_eq_true, kit_bool, Bool.true_beq, Bool.false_beq, beq_self_eq_true, only_ite, tryA_ite, sq_ite, bind_ite, sr_ite, gr_ite, toR_ite, toI_ite, toI_nx, toI_err, getO_x, putX, Bool.not_eq_true', me_parts, me_first, rd_fold, rf_ways, rf_over, rf_trains, encSt_tup, x_gtup_st, ixSt0, ixSt1, ixSt2, o_eqSg, o_neSg, q_inSt, q_inSl, q_notinSl, isNon_encFt, sg_fold, x_gtup_sg, ixSg0, ixSg1, ixSg2, lo_fold, tn_fold, ms_len, hs_len, br_len, bs_len, fl_segments, fl_metres, fl_heights, fl_begins, fl_brakes, me_total, me_blocks, me_metre, me_height, me_begin, me_brake, me_end, me_cm, me_cb, ft_length, ft_friction, ft_brake, ft_lift, ft_drive, ixTr0, ixTr1, ixTr2, ixTr3, ixTr4, encO_none, encO_some, isNon_encO, repI, repN, consI, q_slF, q_slM, q_slT, zipD_zip, q_inI, encSo_none, encSo_some, encSo_non, in_sign, notin_sign, o_lenStr, o_str, o_fmt, sl1, enumK_ok, *])
def e_read_number_1 : P .e :=
  (.bin .in (.var 1) (.c (.str "0123456789")))
def b_read_number : P .s :=
  (.sq (.ifS (.notT (.tst (.chain .le .le (.c (.int 1)) (.cb .len (.rcons (.var 0) .rnil)) (.c (.int (9)))))) (.ret (.c .non)) .skip)
  (.sq (.ifS (.notT (.tru (.cb .all (.rcons (.lc (.seq (.var 0)) (.gname 1) .yes e_read_number_1 [1]) .rnil)))) (.ret (.c .non)) .skip)
  (.sq (.ifS (.andT (.tst (.bin .eq (.bin .ix (.var 0) (.c (.int 0))) (.c (.str "0")))) (.tst (.bin .ne (.var 0) (.c (.str "0"))))) (.ret (.c .non)) .skip)
  (.ret (.cb .int (.rcons (.var 0) .rnil))))))
def m_read_number : List D → R RV := runF 2 [false] b_read_number
--spec read_number
theorem digit_in {c : Nat} : decide (c ∈ tl ("0123456789" : Str)) = digitB c := by
  have e : tl ("0123456789" : Str) = [48, 49, 50, 51, 52, 53, 54, 55, 56, 57] := by decide +kernel
  rw [e]
  unfold digitB
  rw [← Bool.decide_and, decide_eq_decide]
  simp only [List.mem_cons, List.not_mem_nil, or_false]
  omega
theorem read_number {w : Str} (h : w.length ≤ 1000000) : m_read_number [.str w] = .ok (dv (encO (numR w))) := by
  have L : lcF (lcS (.gname 1) .yes e_read_number_1 [some (.d (.str w)), none]) (chD w) = .ok (((tl w).map digitB).map D.bl) := by
    rw [chD_map, List.map_map]
    exact lc_map (fun c => D.str ⟨#[c]⟩) (fun c => D.bl (digitB c)) fun c m => by
      unfold e_read_number_1
      walk_at "run"
      rw [digit_in]
  have hl : (chD w).length ≤ 1000000 := by rw [chD_len]; exact h
  unfold m_read_number runF b_read_number numR
  by_cases c1 : 1 ≤ w.length ∧ w.length ≤ 9
  · have d1 : decide ((1 : Int) ≤ (w.length : Nat)) = true := decide_eq_true (by omega)
    have d2 : decide (((w.length : Nat) : Int) ≤ 9) = true := decide_eq_true (by omega)
    have e1 := len_tl w
    cases ht : tl w with
    | nil => rw [ht] at e1; exact absurd e1 (by have := c1.1; simp; omega)
    | cons c r =>
    have hx := o_ixS0 ht (by omega)
    cases c2 : (tl w).all digitB with
    | false =>
      have c2' : ((tl w).map digitB).all id = false := by rw [all_id]; exact c2
      rw [if_neg (fun z => by rw [← ht, c2] at z; exact absurd z.2.1 (by decide))]
      clear e1 ht
      walk_at "all"
    | true =>
      have c2' : ((tl w).map digitB).all id = true := by rw [all_id]; exact c2
      have hi := o_intS c2 (by rw [ht]; exact List.cons_ne_nil _ _) (by omega)
      have e3 : decide ((⟨#[c]⟩ : Str) = "0") = decide (c = 48) := by
        rw [dec_tl, tl_zero, decide_eq_decide]
        show [c] = [48] ↔ _
        simp
      by_cases c3 : c = 48 ∧ w ≠ "0"
      · have d3 : decide (c = 48) = true := decide_eq_true c3.1
        have d4 : decide (w = "0") = false := decide_eq_false c3.2
        rw [if_neg (fun z => z.2.2 ⟨by rw [c3.1]; rfl, c3.2⟩)]
        clear e1 ht c3
        walk_at "all"
      · rw [if_pos ⟨c1, by rw [← ht]; exact c2, fun z => c3 ⟨Option.some.inj z.1, z.2⟩⟩]
        rw [← ht]
        by_cases c4 : c = 48
        · have d3 : decide (c = 48) = true := decide_eq_true c4
          have d4 : decide (w = "0") = true := decide_eq_true (by
            by_cases q : w = "0"
            · exact q
            · exact absurd ⟨c4, q⟩ c3)
          clear e1 ht c3 c4
          walk_at "all"
        · have d3 : decide (c = 48) = false := decide_eq_false c4
          clear e1 ht c3 c4
          walk_at "all"
  · rw [if_neg (fun z => c1 z.1)]
    by_cases c2 : 1 ≤ w.length
    · have d1 : decide ((1 : Int) ≤ (w.length : Nat)) = true := decide_eq_true (by omega)
      have d2 : decide (((w.length : Nat) : Int) ≤ 9) = false := decide_eq_false (by omega)
      walk_at "all"
    · have d1 : decide ((1 : Int) ≤ (w.length : Nat)) = false := decide_eq_false (by omega)
      walk_at "all"
end Lw
end

section
set_option Elab.async false
set_option linter.all false
set_option maxRecDepth 100000
set_option maxHeartbeats 4000000
namespace Lw
open PySem PySem.Spec PyProof.Rows L2 Ci
open Evl (Ex ex_t ex_l sq_of st_of)
local macro_rules | `(tactic| walk_at "all") => `(tactic| simp -implicitDefEqProofs (disch := first | assumption | decide | omega | (simp only [List.length_replicate, List.length_map, List.length_range, List.length_append, List.length_cons, List.length_nil, List.length_take, List.length_drop, List.length_singleton, rollL_len] <;> omega) | fail) only [x_var, x_c, x_kt, x_bin, x_neg, x_andV, x_orV, x_notV, x_chain, x_chain3, x_ife, x_tup, x_lst, x_fld, x_sl, x_cb, x_isi, x_call, x_meth, x_make, x_lc, x_lc2, x_rngv, x_anil, x_acons, x_rnil, x_rcons, x_mnil, x_mcons, x_tst, x_tru, x_andT, x_orT, x_notT, x_yes, x_noP, x_someP, x_seq, x_rng1, x_rng2, x_rng3, x_zip, x_enum, enumF_lst, enumF_tup, x_augI, x_rev, zipF_lst, zipF_tup, revF_lst, x_gname, x_gtup, x_gtl, x_gnil, x_gcons, x_skip, x_sq, x_asgN, x_asgG, x_asgF, x_asgI, x_mut, x_ext, x_lrg, x_nix, x_nset, getN_f, getN_t, putN_f, putN_t, toL_ov, x_popD, x_popG, x_aug, x_drop, x_ret, x_retO, x_retN, x_brk, x_cont, x_raise, x_ifS, x_for, x_while, x_try, x_try2, x_try3, x_frz, x_kill, x_selfS, x_tm, x_fn, x_callv, isFn_d, x_fmt, x_fstr, x_fnil, x_fcons, x_enumK, x_raiseF, x_tryA, tryA_err, tryA_nx, tryA_rt, only_rt, x_xe, x_xf, xf_ok, x_xi, x_xtup, x_xand, x_xnil, x_xcons, x_hret, x_hif, isX_eq, asStr_str, tm_starts, seq_s,
  rd_dv, rd_ov, rd_vw, dat_d, dat_lst, sdat_fv, sdat_obj, toD_sv, toB_dv, toI_dv, mode_f, mode_t, mode_o, mode_v, cd_int, cd_str, cd_bl, cd_non, seq_d, seq_t, seq_o, seq_v, asgNF_sv, retF_sv, sq_nx, sq_rt, sq_err, sq_bk, sq_ct, try_err, try_nx, try_rt, try2_err, try2_nx, try2_rt, try3_err, try3_nx, try3_rt, toR_nx, toR_rt, toR_err, R.bind_ok, R.bind_err, R.bind_bad, R.sr_ok, R.sr_err, R.sr_bad, R.gr_ok, R.gr_err, R.gr_bad,
  o_add, o_sub, o_lt, o_le, o_gt, o_ge, o_eqI, o_neI, o_eqS, o_neS, o_eqB, o_neB, o_is, o_isnot, o_isb, o_notb, k_lenL, k_lenT, k_lenS, k_abs, k_int, k_intB, k_listL, k_listT, k_tupL, k_tupT, k_sum, k_lenset, k_range1, o_shr, o_band, rngVF_dv, k_all, k_any, k_max2, k_min2, k_maxL, k_minL, D.isNon, truD,
  getV, List.getElem?_cons_zero, List.getElem?_cons_succ, List.set_cons_zero, List.set_cons_succ, List.length_cons, List.length_nil, if_true, if_false, Bool.not_true, Bool.not_false, Bool.true_and, Bool.false_and, Bool.and_true, Bool.and_false, reduceIte, reduceCtorEq, Nat.reduceAdd, Nat.reduceSub, Nat.reduceLeDiff, Nat.zero_add, wipeE, startE, padE, List.cons_append, List.nil_append, List.replicate_succ, List.replicate_zero, asgFF, frzF, retOF, SV.isBrw, decide_true, decide_false, Bool.true_eq, Bool.false_eq_true, bool_if_true, bool_if_false, ofString_inj, ofString_beq, String.reduceEq, sq_bad, toR_bad, toI_bad, true_and, and_true, Nat.reduceLT, List.lookup_cons, List.lookup_nil, Int.reduceLT, Int.reduceLE, Int.reduceAdd, Int.reduceSub, Int.reduceMul, Int.reduceNeg, Int.reduceMod, Int.reduceDiv, Int.reducePow, Int.reduceToNat, Int.reduceEq, and_join, or_join, andT_join, orT_join, ixT0, ixT1, ixT2, ixT3, ixT4, ixT5, ixT6, ixL0, ixL1, ixL2, ixL3, ixL4, ixL5, ixL6, wr_nx, wr_ct, wr_bk, wr_rt, wr_err, wr_bad, wr_ite, try_ite, q_ixL, q_ixT, q_ixS, q_ixLast, o_mul, q_mulE, q_mulER, any_rep, q_mulLl, q_mulRl, q_divl, q_modl, q_div, q_mod, q_pow, q_appendM, q_append0, q_append, q_lrg, q_lzip, q_insertM, q_insert, q_line, q_line', q_mil, q_rng1, q_rng2, q_rng3, q_rep1, q_addL, List.length_map, List.length_append, map_snoc, Int.zero_add, getL, getP, putP, extF, forS, lcS, quiet_okS, quiet_ite, q_fldv, fldO_obj, fldO_ins, fvR_d, fvR_lst, dvR_some, augF, selfF, toI_dv, lentR, RV.noL, List.mem_cons, List.not_mem_nil, or_false, true_or, or_true, lk_yes, rng_len, List.length_range, List.length_range', Int.sub_add_cancel, Int.add_sub_cancel, List.length_replicate, Bool.or_false, Bool.or_true, Bool.true_or, Bool.false_or, and_self, Int.toNat_natCast, q_cast, x_seqb', x_lend', lendO_lst, seqbO_brw, i_nb, i_bb, i_ib, i_sb, i_tb, i_lb, i_ns, i_is, i_ss, i_ts, i_ls, i_ni, i_ii, i_ti, i_li, i_tl, i_ll, i_tt, i_lt, eq_self, Bool.not_not, not_true_eq_false, not_false_eq_true, kit_bool, Bool.true_beq, Bool.false_beq, beq_self_eq_true, only_ite, tryA_ite, sq_ite, bind_ite, sr_ite, gr_ite, toR_ite, toI_ite, toI_nx, toI_err, getO_x, putX, Bool.not_eq_true', me_parts, me_first, rd_fold, rf_ways, rf_over, rf_trains, encSt_tup, x_gtup_st, ixSt0, ixSt1, ixSt2, o_eqSg, o_neSg, q_inSt, q_inSl, q_notinSl, isNon_encFt, sg_fold, x_gtup_sg, ixSg0, ixSg1, ixSg2, lo_fold, tn_fold, ms_len, hs_len, br_len, bs_len, fl_segments, fl_metres, fl_heights, fl_begins, fl_brakes, me_total, me_blocks, me_metre, me_height, me_begin, me_brake, me_end, me_cm, me_cb, ft_length, ft_friction, ft_brake, ft_lift, ft_drive, ixTr0, ixTr1, ixTr2, ixTr3, ixTr4, encO_none, encO_some, isNon_encO, repI, repN, consI, q_slF, q_slM, q_slT, zipD_zip, q_inI, encSo_none, encSo_some, encSo_non, in_sign, notin_sign, o_lenStr, o_str, o_fmt, sl1, enumK_ok, read_number, *])
def b__read_slope : P .s :=
  (.sq (.ifS (.notT (.tru (.tm .starts (.var 0) (.c (.str "-"))))) (.ret (.call [false] m_read_number (.mcons false (.var 0) .mnil))) .skip)
  (.sq (.asgG (.gname 1) (.call [false] m_read_number (.mcons false (.sl (.var 0) (.someP (.c (.int 1))) .noP) .mnil)))
  (.sq (.ifS (.orT (.tst (.bin .is (.var 1) (.c .non))) (.tst (.bin .eq (.var 1) (.c (.int 0))))) (.ret (.c .non)) .skip)
  (.ret (.neg (.var 1))))))
def m__read_slope : List D → R RV := runF 2 [false] b__read_slope
--spec read_slope
theorem read_slope {w : Str} (h : w.length ≤ 100000) : m__read_slope [.str w] = .ok (dv (encO (slopeR w))) := by
  have hc : (cutS w (some 1) none).length ≤ 100000 := by
    rw [len_tl, cut1, List.length_drop, ← len_tl]
    omega
  have hs := starts_minus (a := w)
  unfold m__read_slope runF b__read_slope slopeR
  by_cases c : (tl w).head? = some 45
  · have d : decide ((tl w).head? = some 45) = true := decide_eq_true c
    rw [if_pos c]
    rw [d] at hs
    clear c d
    cases e : numR (cutS w (some 1) none) with
    | none => walk_at "all"
    | some k =>
      by_cases c2 : k = 0
      · have d2 : decide (k = 0) = true := decide_eq_true c2
        simp only
        rw [if_pos c2]
        clear c2
        walk_at "all"
      · have d2 : decide (k = 0) = false := decide_eq_false c2
        simp only
        rw [if_neg c2]
        walk_at "all"
  · have d : decide ((tl w).head? = some 45) = false := decide_eq_false c
    rw [if_neg c]
    rw [d] at hs
    walk_at "all"
end Lw
end

section
set_option Elab.async false
set_option linter.all false
set_option maxRecDepth 100000
set_option maxHeartbeats 4000000
namespace Lw
open PySem PySem.Spec PyProof.Rows L2 Ci
open Evl (Ex ex_t ex_l sq_of st_of)
local macro_rules | `(tactic| walk_at "all") => `(tactic| simp -implicitDefEqProofs (disch := first | assumption | decide | omega | (simp only [List.length_replicate, List.length_map, List.length_range, List.length_append, List.length_cons, List.length_nil, List.length_take, List.length_drop, List.length_singleton, rollL_len] <;> omega) | fail) only [x_var, x_c, x_kt, x_bin, x_neg, x_andV, x_orV, x_notV, x_chain, x_chain3, x_ife, x_tup, x_lst, x_fld, x_sl, x_cb, x_isi, x_call, x_meth, x_make, x_lc, x_lc2, x_rngv, x_anil, x_acons, x_rnil, x_rcons, x_mnil, x_mcons, x_tst, x_tru, x_andT, x_orT, x_notT, x_yes, x_noP, x_someP, x_seq, x_rng1, x_rng2, x_rng3, x_zip, x_enum, enumF_lst, enumF_tup, x_augI, x_rev, zipF_lst, zipF_tup, revF_lst, x_gname, x_gtup, x_gtl, x_gnil, x_gcons, x_skip, x_sq, x_asgN, x_asgG, x_asgF, x_asgI, x_mut, x_ext, x_lrg, x_nix, x_nset, getN_f, getN_t, putN_f, putN_t, toL_ov, x_popD, x_popG, x_aug, x_drop, x_ret, x_retO, x_retN, x_brk, x_cont, x_raise, x_ifS, x_for, x_while, x_try, x_try2, x_try3, x_frz, x_kill, x_selfS, x_tm, x_fn, x_callv, isFn_d, x_fmt, x_fstr, x_fnil, x_fcons, x_enumK, x_raiseF, x_tryA, tryA_err, tryA_nx, tryA_rt, only_rt, x_xe, x_xf, xf_ok, x_xi, x_xtup, x_xand, x_xnil, x_xcons, x_hret, x_hif, isX_eq, asStr_str, tm_starts, seq_s,
  rd_dv, rd_ov, rd_vw, dat_d, dat_lst, sdat_fv, sdat_obj, toD_sv, toB_dv, toI_dv, mode_f, mode_t, mode_o, mode_v, cd_int, cd_str, cd_bl, cd_non, seq_d, seq_t, seq_o, seq_v, asgNF_sv, retF_sv, sq_nx, sq_rt, sq_err, sq_bk, sq_ct, try_err, try_nx, try_rt, try2_err, try2_nx, try2_rt, try3_err, try3_nx, try3_rt, toR_nx, toR_rt, toR_err, R.bind_ok, R.bind_err, R.bind_bad, R.sr_ok, R.sr_err, R.sr_bad, R.gr_ok, R.gr_err, R.gr_bad,
  o_add, o_sub, o_lt, o_le, o_gt, o_ge, o_eqI, o_neI, o_eqS, o_neS, o_eqB, o_neB, o_is, o_isnot, o_isb, o_notb, k_lenL, k_lenT, k_lenS, k_abs, k_int, k_intB, k_listL, k_listT, k_tupL, k_tupT, k_sum, k_lenset, k_range1, o_shr, o_band, rngVF_dv, k_all, k_any, k_max2, k_min2, k_maxL, k_minL, D.isNon, truD,
  getV, List.getElem?_cons_zero, List.getElem?_cons_succ, List.set_cons_zero, List.set_cons_succ, List.length_cons, List.length_nil, if_true, if_false, Bool.not_true, Bool.not_false, Bool.true_and, Bool.false_and, Bool.and_true, Bool.and_false, reduceIte, reduceCtorEq, Nat.reduceAdd, Nat.reduceSub, Nat.reduceLeDiff, Nat.zero_add, wipeE, startE, padE, List.cons_append, List.nil_append, List.replicate_succ, List.replicate_zero, asgFF, frzF, retOF, SV.isBrw, decide_true, decide_false, Bool.true_eq, Bool.false_eq_true, bool_if_true, bool_if_false, ofString_inj, ofString_beq, String.reduceEq, sq_bad, toR_bad, toI_bad, true_and, and_true, Nat.reduceLT, List.lookup_cons, List.lookup_nil, Int.reduceLT, Int.reduceLE, Int.reduceAdd, Int.reduceSub, Int.reduceMul, Int.reduceNeg, Int.reduceMod, Int.reduceDiv, Int.reducePow, Int.reduceToNat, Int.reduceEq, and_join, or_join, andT_join, orT_join, ixT0, ixT1, ixT2, ixT3, ixT4, ixT5, ixT6, ixL0, ixL1, ixL2, ixL3, ixL4, ixL5, ixL6, wr_nx, wr_ct, wr_bk, wr_rt, wr_err, wr_bad, wr_ite, try_ite, q_ixL, q_ixT, q_ixS, q_ixLast, o_mul, q_mulE, q_mulER, any_rep, q_mulLl, q_mulRl, q_divl, q_modl, q_div, q_mod, q_pow, q_appendM, q_append0, q_append, q_lrg, q_lzip, q_insertM, q_insert, q_line, q_line', q_mil, q_rng1, q_rng2, q_rng3, q_rep1, q_addL, List.length_map, List.length_append, map_snoc, Int.zero_add, getL, getP, putP, extF, forS, lcS, quiet_okS, quiet_ite, q_fldv, fldO_obj, fldO_ins, fvR_d, fvR_lst, dvR_some, augF, selfF, toI_dv, lentR, RV.noL, List.mem_cons, List.not_mem_nil, or_false, true_or, or_true, lk_yes, rng_len, List.length_range, List.length_range', Int.sub_add_cancel, Int.add_sub_cancel, List.length_replicate, Bool.or_false, Bool.or_true, Bool.true_or, Bool.false_or, and_self, Int.toNat_natCast, q_cast, x_seqb', x_lend', lendO_lst, seqbO_brw, i_nb, i_bb, i_ib, i_sb, i_tb, i_lb, i_ns, i_is, i_ss, i_ts, i_ls, i_ni, i_ii, i_ti, i_li, i_tl, i_ll, i_tt, i_lt, eq_self, Bool.not_not, not_true_eq_false, not_false_eq_true, kit_bool, Bool.true_beq, Bool.false_beq, beq_self_eq_true, only_ite, tryA_ite, sq_ite, bind_ite, sr_ite, gr_ite, toR_ite, toI_ite, toI_nx, toI_err, getO_x, putX, Bool.not_eq_true', me_parts, me_first, rd_fold, rf_ways, rf_over, rf_trains, encSt_tup, x_gtup_st, ixSt0, ixSt1, ixSt2, o_eqSg, o_neSg, q_inSt, q_inSl, q_notinSl, isNon_encFt, sg_fold, x_gtup_sg, ixSg0, ixSg1, ixSg2, lo_fold, tn_fold, ms_len, hs_len, br_len, bs_len, fl_segments, fl_metres, fl_heights, fl_begins, fl_brakes, me_total, me_blocks, me_metre, me_height, me_begin, me_brake, me_end, me_cm, me_cb, ft_length, ft_friction, ft_brake, ft_lift, ft_drive, ixTr0, ixTr1, ixTr2, ixTr3, ixTr4, encO_none, encO_some, isNon_encO, repI, repN, consI, q_slF, q_slM, q_slT, zipD_zip, q_inI, encSo_none, encSo_some, encSo_non, in_sign, notin_sign, o_lenStr, o_str, o_fmt, sl1, enumK_ok, read_number, read_slope, *])
def b__read_segment : P .s :=
  (.sq (.asgG (.gname 1) (.tm .split (.var 0) (.c (.str " "))))
  (.sq (.ifS (.orT (.tst (.bin .ne (.cb .len (.rcons (.var 1) .rnil)) (.c (.int 3)))) (.tst (.bin .notin (.bin .ix (.var 1) (.c (.int 0))) (.kt 0 [(.str "coast"), (.str "lift"), (.str "brake")])))) (.ret (.c .non)) .skip)
  (.sq (.asgG (.gname 2) (.call [false] m_read_number (.mcons false (.bin .ix (.var 1) (.c (.int 1))) .mnil)))
  (.sq (.asgG (.gname 3) (.call [false] m__read_slope (.mcons false (.bin .ix (.var 1) (.c (.int 2))) .mnil)))
  (.sq (.ifS (.orT (.tst (.bin .is (.var 2) (.c .non))) (.tst (.bin .is (.var 3) (.c .non)))) (.ret (.c .non)) .skip)
  (.ret (.tup (.acons (.bin .ix (.var 1) (.c (.int 0))) (.acons (.var 2) (.acons (.var 3) .anil))))))))))
def m__read_segment : List D → R RV := runF 4 [false] b__read_segment
--spec read_segment
theorem segs_notin {s : Str} : B2.fn .notin (.str s) (.tup [.str "coast", .str "lift", .str "brake"]) = .ok (dv (.bl (!kindOk s))) := by
  have e : B2.fn .notin (.str s) (.tup [.str "coast", .str "lift", .str "brake"]) = (inTup (.str s) [.str "coast", .str "lift", .str "brake"]).bind fun b => .ok (dv (.bl (!b))) := by
    simp only [B2.fn, inF, if_true]
  rw [e]
  have h : inTup (.str s) [.str "coast", .str "lift", .str "brake"] = .ok (kindOk s) := by
    show (if _ = true then _ else _) = _
    rw [if_pos (by rfl)]
    rfl
  rw [h]
  rfl
theorem part_len {l w : Str} {n : Nat} (h : l.length ≤ n) (m : w ∈ Txt.split l " ") : w.length ≤ n := by
  have := PyProof.Rows.part_short m
  omega
theorem read_segment {l : Str} (h : l.length ≤ 100000) : m__read_segment [.str l] = .ok (dv (encSo (segR l))) := by
  have hs := tm_split (a := l) (b := " ") ⟨by rw [len_sp]; rfl, by rw [sizeLine_eq]; omega⟩
  have hp := fun w => part_len (w := w) h
  unfold m__read_segment runF b__read_segment segR
  generalize Txt.split l " " = ws at *
  by_cases c : ws.length = 3
  · obtain ⟨a, b, d, rfl⟩ : ∃ a b d, ws = [a, b, d] := by
      rcases ws with _ | ⟨a, _ | ⟨b, _ | ⟨d, _ | _⟩⟩⟩ <;> first | exact ⟨_, _, _, rfl⟩ | (simp at c; done) | (simp at c; omega)
    have hb := hp b (by simp)
    have hd := hp d (by simp)
    have k1 := segs_notin (s := a)
    replace hs : Tm.fn .split l (.str " ") = .ok (ov (.lst [.str a, .str b, .str d])) := hs
    unfold segW
    clear hp c
    cases ka : kindOk a with
    | false => walk_at "all"
    | true =>
      cases nb : numR b with
      | none => walk_at "all"
      | some x =>
        cases nd : slopeR d with
        | none => walk_at "all"
        | some y => walk_at "all"
  · have e : segW ws = none := by
      unfold segW
      split
      · exact absurd rfl c
      · rfl
    have d : decide (((ws.length : Nat) : Int) = 3) = false := decide_eq_false (by omega)
    rw [e]
    clear hp c e
    walk_at "all"
end Lw
end

section
set_option Elab.async false
set_option linter.all false
set_option maxRecDepth 100000
set_option maxHeartbeats 4000000
namespace Lw
open PySem PySem.Spec PyProof.Rows L2 Ci
open Evl (Ex ex_t ex_l sq_of st_of)
local macro_rules | `(tactic| walk_at "all") => `(tactic| simp -implicitDefEqProofs (disch := first | assumption | decide | omega | (simp only [List.length_replicate, List.length_map, List.length_range, List.length_append, List.length_cons, List.length_nil, List.length_take, List.length_drop, List.length_singleton, rollL_len] <;> omega) | fail) only [x_var, x_c, x_kt, x_bin, x_neg, x_andV, x_orV, x_notV, x_chain, x_chain3, x_ife, x_tup, x_lst, x_fld, x_sl, x_cb, x_isi, x_call, x_meth, x_make, x_lc, x_lc2, x_rngv, x_anil, x_acons, x_rnil, x_rcons, x_mnil, x_mcons, x_tst, x_tru, x_andT, x_orT, x_notT, x_yes, x_noP, x_someP, x_seq, x_rng1, x_rng2, x_rng3, x_zip, x_enum, enumF_lst, enumF_tup, x_augI, x_rev, zipF_lst, zipF_tup, revF_lst, x_gname, x_gtup, x_gtl, x_gnil, x_gcons, x_skip, x_sq, x_asgN, x_asgG, x_asgF, x_asgI, x_mut, x_ext, x_lrg, x_nix, x_nset, getN_f, getN_t, putN_f, putN_t, toL_ov, x_popD, x_popG, x_aug, x_drop, x_ret, x_retO, x_retN, x_brk, x_cont, x_raise, x_ifS, x_for, x_while, x_try, x_try2, x_try3, x_frz, x_kill, x_selfS, x_tm, x_fn, x_callv, isFn_d, x_fmt, x_fstr, x_fnil, x_fcons, x_enumK, x_raiseF, x_tryA, tryA_err, tryA_nx, tryA_rt, only_rt, x_xe, x_xf, xf_ok, x_xi, x_xtup, x_xand, x_xnil, x_xcons, x_hret, x_hif, isX_eq, asStr_str, tm_starts, seq_s,
  rd_dv, rd_ov, rd_vw, dat_d, dat_lst, sdat_fv, sdat_obj, toD_sv, toB_dv, toI_dv, mode_f, mode_t, mode_o, mode_v, cd_int, cd_str, cd_bl, cd_non, seq_d, seq_t, seq_o, seq_v, asgNF_sv, retF_sv, sq_nx, sq_rt, sq_err, sq_bk, sq_ct, try_err, try_nx, try_rt, try2_err, try2_nx, try2_rt, try3_err, try3_nx, try3_rt, toR_nx, toR_rt, toR_err, R.bind_ok, R.bind_err, R.bind_bad, R.sr_ok, R.sr_err, R.sr_bad, R.gr_ok, R.gr_err, R.gr_bad,
  o_add, o_sub, o_lt, o_le, o_gt, o_ge, o_eqI, o_neI, o_eqS, o_neS, o_eqB, o_neB, o_is, o_isnot, o_isb, o_notb, k_lenL, k_lenT, k_lenS, k_abs, k_int, k_intB, k_listL, k_listT, k_tupL, k_tupT, k_sum, k_lenset, k_range1, o_shr, o_band, rngVF_dv, k_all, k_any, k_max2, k_min2, k_maxL, k_minL, D.isNon, truD,
  getV, List.getElem?_cons_zero, List.getElem?_cons_succ, List.set_cons_zero, List.set_cons_succ, List.length_cons, List.length_nil, if_true, if_false, Bool.not_true, Bool.not_false, Bool.true_and, Bool.false_and, Bool.and_true, Bool.and_false, reduceIte, reduceCtorEq, Nat.reduceAdd, Nat.reduceSub, Nat.reduceLeDiff, Nat.zero_add, wipeE, startE, padE, List.cons_append, List.nil_append, List.replicate_succ, List.replicate_zero, asgFF, frzF, retOF, SV.isBrw, decide_true, decide_false, Bool.true_eq, Bool.false_eq_true, bool_if_true, bool_if_false, ofString_inj, ofString_beq, String.reduceEq, sq_bad, toR_bad, toI_bad, true_and, and_true, Nat.reduceLT, List.lookup_cons, List.lookup_nil, Int.reduceLT, Int.reduceLE, Int.reduceAdd, Int.reduceSub, Int.reduceMul, Int.reduceNeg, Int.reduceMod, Int.reduceDiv, Int.reducePow, Int.reduceToNat, Int.reduceEq, and_join, or_join, andT_join, orT_join, ixT0, ixT1, ixT2, ixT3, ixT4, ixT5, ixT6, ixL0, ixL1, ixL2, ixL3, ixL4, ixL5, ixL6, wr_nx, wr_ct, wr_bk, wr_rt, wr_err, wr_bad, wr_ite, try_ite, q_ixL, q_ixT, q_ixS, q_ixLast, o_mul, q_mulE, q_mulER, any_rep, q_mulLl, q_mulRl, q_divl, q_modl, q_div, q_mod, q_pow, q_appendM, q_append0, q_append, q_lrg, q_lzip, q_insertM, q_insert, q_line, q_line', q_mil, q_rng1, q_rng2, q_rng3, q_rep1, q_addL, List.length_map, List.length_append, map_snoc, Int.zero_add, getL, getP, putP, extF, forS, lcS, quiet_okS, quiet_ite, q_fldv, fldO_obj, fldO_ins, fvR_d, fvR_lst, dvR_some, augF, selfF, toI_dv, lentR, RV.noL, List.mem_cons, List.not_mem_nil, or_false, true_or, or_true, lk_yes, rng_len, List.length_range, List.length_range', Int.sub_add_cancel, Int.add_sub_cancel, List.length_replicate, Bool.or_false, Bool.or_true, Bool.true_or, Bool.false_or, and_self, Int.toNat_natCast, q_cast, x_seqb', x_lend', lendO_lst, seqbO_brw, i_nb, i_bb, i_ib, i_sb, i_tb, i_lb, i_ns, i_is, i_ss, i_ts, i_ls, i_ni, i_ii, i_ti, i_li, i_tl, i_ll, i_tt, i_lt, eq_self, Bool.not_not, not_true_eq_false, not_false_eq_true, kit_bool, Bool.true_beq, Bool.false_beq, beq_self_eq_true, only_ite, tryA_ite, sq_ite, bind_ite, sr_ite, gr_ite, toR_ite, toI_ite, toI_nx, toI_err, getO_x, putX, Bool.not_eq_true', me_parts, me_first, rd_fold, rf_ways, rf_over, rf_trains, encSt_tup, x_gtup_st, ixSt0, ixSt1, ixSt2, o_eqSg, o_neSg, q_inSt, q_inSl, q_notinSl, isNon_encFt, sg_fold, x_gtup_sg, ixSg0, ixSg1, ixSg2, lo_fold, tn_fold, ms_len, hs_len, br_len, bs_len, fl_segments, fl_metres, fl_heights, fl_begins, fl_brakes, me_total, me_blocks, me_metre, me_height, me_begin, me_brake, me_end, me_cm, me_cb, ft_length, ft_friction, ft_brake, ft_lift, ft_drive, ixTr0, ixTr1, ixTr2, ixTr3, ixTr4, encO_none, encO_some, isNon_encO, repI, repN, consI, q_slF, q_slM, q_slT, zipD_zip, q_inI, encSo_none, encSo_some, encSo_non, in_sign, notin_sign, o_lenStr, o_str, o_fmt, sl1, enumK_ok, read_segment, read_number, read_slope, *])
def l_read_lines_1 : P .s :=
  (.sq (.asgG (.gname 6) (.callv 2 0 [false] m__read_segment (.mcons false (.var 5) .mnil)))
  (.sq (.ifS (.tst (.bin .is (.var 6) (.c .non))) (.raiseF 6 "line" (.var 4)) .skip)
  (.mut .append (.pvar 3) (.acons (.var 6) .anil))))
def b_read_lines : P .s :=
  (.sq (.asgN 3 (.lst .anil))
  (.sq (.for (.enumK (.acons (.var 0) .anil) (.acons (.var 1) .anil)) (.gtup 2 (.gcons (.gname 4) (.gcons (.gname 5) .gnil))) l_read_lines_1 [4, 5, 6])
  (.retO 3)))
def m_read_lines : List D → R RV := runF 7 [false, false, false] b_read_lines
--spec read_lines
theorem rl_turn {l : Str} {k : Int} {acc : List Sg} (h : l.length ≤ 100000) (ha : acc.length ≤ 10000) (a0 a1 : Option SV) :
    wipeR [4, 5, 6] (forS (.gtup 2 (.gcons (.gname 4) (.gcons (.gname 5) .gnil))) l_read_lines_1 (.tup [.int k, .str l]) [a0, a1, some (.d (.fnc 0)), some (.fv (.lst (acc.map encS))), none, none, none]) =
      (match segR l with
      | some s => .nx [a0, a1, some (.d (.fnc 0)), some (.fv (.lst ((acc ++ [s]).map encS))), none, none, none]
      | none => .err 6 (some ("line", .int k)) [a0, a1, some (.d (.fnc 0)), some (.fv (.lst (acc.map encS))), some (.d (.int k)), some (.d (.str l)), some (.d .non)]) := by
  unfold l_read_lines_1
  cases e : segR l with
  | none => walk_at "all"
  | some s =>
    walk_at "all"
    rfl
theorem rl_loop {a0 a1 : Option SV} : ∀ {ls : List Str} {k : Int} {acc : List Sg}, (∀ l ∈ ls, l.length ≤ 100000) → acc.length + ls.length ≤ 10000 →
    ∃ ρ, forF (forS (.gtup 2 (.gcons (.gname 4) (.gcons (.gname 5) .gnil))) l_read_lines_1) [4, 5, 6] (enD k (ls.map D.str)) [a0, a1, some (.d (.fnc 0)), some (.fv (.lst (acc.map encS))), none, none, none] =
      (match rdL segR ls k with
      | .ok ss => .nx [a0, a1, some (.d (.fnc 0)), some (.fv (.lst ((acc ++ ss).map encS))), none, none, none]
      | .error n => .err 6 (some ("line", .int n)) ρ)
  | [], k, acc, _, _ => ⟨[], by rw [List.map_nil]; show SR.nx _ = .nx _; rw [List.append_nil]⟩
  | l :: r, k, acc, h, hl => by
    have t := rl_turn (k := k) (acc := acc) (h l List.mem_cons_self) (by omega) a0 a1
    rw [List.map_cons]
    show ∃ ρ, forF _ _ (.tup [.int k, .str l] :: enD (k + 1) (r.map D.str)) _ = _
    rw [forF_turn, t]
    unfold rdL
    cases e : segR l with
    | none => exact ⟨_, rfl⟩
    | some s =>
      obtain ⟨ρ, q⟩ := rl_loop (a0 := a0) (a1 := a1) (ls := r) (k := k + 1) (acc := acc ++ [s]) (fun x m => h x (List.mem_cons_of_mem _ m)) (by rw [List.length_append, List.length_singleton]; rw [List.length_cons] at hl; omega)
      refine ⟨ρ, ?_⟩
      show forF _ _ _ _ = _
      rw [q]
      cases rdL segR r (k + 1) with
      | error n => rfl
      | ok ss => show SR.nx _ = .nx _; rw [List.append_assoc]; rfl
theorem read_lines {ls : List Str} (h : ∀ l ∈ ls, l.length ≤ 100000) (hl : ls.length ≤ 10000) : m_read_lines [.lst (ls.map D.str), .int 1, .fnc 0] = (match rdL segR ls 1 with
    | .ok ss => .ok (ov (.lst (ss.map encS)))
    | .error n => .err 6 (some ("line", .int n))) := by
  obtain ⟨ρ, q⟩ := rl_loop (a0 := some (.d (.lst (ls.map D.str)))) (a1 := some (.d (.int 1))) (ls := ls) (k := 1) (acc := []) h (by rw [List.length_nil]; omega)
  have q : forF (forS (.gtup 2 (.gcons (.gname 4) (.gcons (.gname 5) .gnil))) l_read_lines_1) [4, 5, 6] (enD 1 (ls.map D.str)) [some (.d (.lst (ls.map D.str))), some (.d (.int 1)), some (.d (.fnc 0)), some (.fv (.lst [])), none, none, none] = _ := q
  unfold m_read_lines runF b_read_lines
  cases e : rdL segR ls 1 with
  | error n =>
    rw [e] at q
    walk_at "all"
  | ok ss =>
    rw [e] at q
    have q : _ = SR.nx [_, _, _, some (.fv (.lst (ss.map encS))), _, _, _] := q
    walk_at "all"
end Lw
end

section
set_option Elab.async false
set_option linter.all false
set_option maxRecDepth 100000
set_option maxHeartbeats 4000000
namespace Lw
open PySem PySem.Spec PyProof.Rows L2 Ci
open Evl (Ex ex_t ex_l sq_of st_of)
local macro_rules | `(tactic| walk_at "run") => `(tactic| simp -implicitDefEqProofs (disch := first | assumption | decide | omega | (simp only [List.length_replicate, List.length_map, List.length_range, List.length_append, List.length_cons, List.length_nil, List.length_take, List.length_drop, List.length_singleton, rollL_len] <;> omega) | fail) only [x_var, x_c, x_kt, x_bin, x_neg, x_andV, x_orV, x_notV, x_chain, x_chain3, x_ife, x_tup, x_lst, x_fld, x_sl, x_cb, x_isi, x_call, x_meth, x_make, x_lc, x_lc2, x_rngv, x_anil, x_acons, x_rnil, x_rcons, x_mnil, x_mcons, x_tst, x_tru, x_andT, x_orT, x_notT, x_yes, x_noP, x_someP, x_seq, x_rng1, x_rng2, x_rng3, x_zip, x_enum, enumF_lst, enumF_tup, x_augI, x_rev, zipF_lst, zipF_tup, revF_lst, x_gname, x_gtup, x_gtl, x_gnil, x_gcons, x_skip, x_sq, x_asgN, x_asgG, x_asgF, x_asgI, x_mut, x_ext, x_lrg, x_nix, x_nset, getN_f, getN_t, putN_f, putN_t, toL_ov, x_popD, x_popG, x_aug, x_drop, x_ret, x_retO, x_retN, x_brk, x_cont, x_raise, x_ifS, x_for, x_while, x_try, x_try2, x_try3, x_frz, x_kill, x_selfS, x_tm, x_fn, x_callv, isFn_d, x_fmt, x_fstr, x_fnil, x_fcons, x_enumK, x_raiseF, x_tryA, tryA_err, tryA_nx, tryA_rt, only_rt, x_xe, x_xf, xf_ok, x_xi, x_xtup, x_xand, x_xnil, x_xcons, x_hret, x_hif, isX_eq, asStr_str, tm_starts, seq_s,
  rd_dv, rd_ov, rd_vw, dat_d, dat_lst, sdat_fv, sdat_obj, toD_sv, toB_dv, toI_dv, mode_f, mode_t, mode_o, mode_v, cd_int, cd_str, cd_bl, cd_non, seq_d, seq_t, seq_o, seq_v, asgNF_sv, retF_sv, sq_nx, sq_rt, sq_err, sq_bk, sq_ct, try_err, try_nx, try_rt, try2_err, try2_nx, try2_rt, try3_err, try3_nx, try3_rt, toR_nx, toR_rt, toR_err, R.bind_ok, R.bind_err, R.bind_bad, R.sr_ok, R.sr_err, R.sr_bad, R.gr_ok, R.gr_err, R.gr_bad,
  o_add, o_sub, o_lt, o_le, o_gt, o_ge, o_eqI, o_neI, o_eqS, o_neS, o_eqB, o_neB, o_is, o_isnot, o_isb, o_notb, k_lenL, k_lenT, k_lenS, k_abs, k_int, k_intB, k_listL, k_listT, k_tupL, k_tupT, k_sum, k_lenset, k_range1, o_shr, o_band, rngVF_dv, k_all, k_any, k_max2, k_min2, k_maxL, k_minL, D.isNon, truD,
  getV, List.getElem?_cons_zero, List.getElem?_cons_succ, List.set_cons_zero, List.set_cons_succ, List.length_cons, List.length_nil, if_true, if_false, Bool.not_true, Bool.not_false, Bool.true_and, Bool.false_and, Bool.and_true, Bool.and_false, reduceIte, reduceCtorEq, Nat.reduceAdd, Nat.reduceSub, Nat.reduceLeDiff, Nat.zero_add, wipeE, startE, padE, List.cons_append, List.nil_append, List.replicate_succ, List.replicate_zero, asgFF, frzF, retOF, SV.isBrw, decide_true, decide_false, Bool.true_eq, Bool.false_eq_true, bool_if_true, bool_if_false, ofString_inj, ofString_beq, String.reduceEq, sq_bad, toR_bad, toI_bad, true_and, and_true, Nat.reduceLT, List.lookup_cons, List.lookup_nil, Int.reduceLT, Int.reduceLE, Int.reduceAdd, Int.reduceSub, Int.reduceMul, Int.reduceNeg, Int.reduceMod, Int.reduceDiv, Int.reducePow, Int.reduceToNat, Int.reduceEq, and_join, or_join, andT_join, orT_join, ixT0, ixT1, ixT2, ixT3, ixT4, ixT5, ixT6, ixL0, ixL1, ixL2, ixL3, ixL4, ixL5, ixL6, wr_nx, wr_ct, wr_bk, wr_rt, wr_err, wr_bad, wr_ite, try_ite, q_ixL, q_ixT, q_ixS, q_ixLast, o_mul, q_mulE, q_mulER, any_rep, q_mulLl, q_mulRl, q_divl, q_modl, q_div, q_mod, q_pow, q_appendM, q_append0, q_append, q_lrg, q_lzip, q_insertM, q_insert, q_line, q_line', q_mil, q_rng1, q_rng2, q_rng3, q_rep1, q_addL, List.length_map, List.length_append, map_snoc, Int.zero_add, getL, getP, putP, extF, forS, lcS, quiet_okS, quiet_ite, q_fldv, fldO_obj, fldO_ins, fvR_d, fvR_lst, dvR_some, augF, selfF, toI_dv, lentR, RV.noL, List.mem_cons, List.not_mem_nil, or_false, true_or, or_true, lk_yes, rng_len, List.length_range, List.length_range', Int.sub_add_cancel, Int.add_sub_cancel, List.length_replicate, Bool.or_false, Bool.or_true, Bool.true_or, Bool.false_or, and_self, Int.toNat_natCast, q_cast, x_seqb', x_lend', lendO_lst, seqbO_brw, i_nb, i_bb, i_ib, i_sb, i_tb, i_lb, i_ns, i_is, i_ss, i_ts, i_ls, i_ni, i_ii, i_ti, i_li, i_tl, i_ll, i_tt, i_lt, eq_self, Bool.not_not, not_true_eq_false, not_false_eq_true, kit_bool, Bool.true_beq, Bool.false_beq, beq_self_eq_true, only_ite, tryA_ite, sq_ite, bind_ite, sr_ite, gr_ite, toR_ite, toI_ite, toI_nx, toI_err, getO_x, putX, Bool.not_eq_true', me_parts, me_first, rd_fold, rf_ways, rf_over, rf_trains, encSt_tup, x_gtup_st, ixSt0, ixSt1, ixSt2, o_eqSg, o_neSg, q_inSt, q_inSl, q_notinSl, isNon_encFt, sg_fold, x_gtup_sg, ixSg0, ixSg1, ixSg2, lo_fold, tn_fold, ms_len, hs_len, br_len, bs_len, fl_segments, fl_metres, fl_heights, fl_begins, fl_brakes, me_total, me_blocks, me_metre, me_height, me_begin, me_brake, me_end, me_cm, me_cb, ft_length, ft_friction, ft_brake, ft_lift, ft_drive, ixTr0, ixTr1, ixTr2, ixTr3, ixTr4, encO_none, encO_some, isNon_encO, repI, repN, consI, q_slF, q_slM, q_slT, zipD_zip, q_inI])
local macro_rules | `(tactic| walk_at "all") => `(tactic| simp -implicitDefEqProofs (disch := first | assumption | decide | omega | (simp only [List.length_replicate, List.length_map, List.length_range, List.length_append, List.length_cons, List.length_nil, List.length_take, List.length_drop, List.length_singleton, rollL_len] <;> omega) | fail) only [x_var, x_c, x_kt, x_bin, x_neg, x_andV, x_orV, x_notV, x_chain, x_chain3, x_ife, x_tup, x_lst, x_fld, x_sl, x_cb, x_isi, x_call, x_meth, x_make, x_lc, x_lc2, x_rngv, x_anil, x_acons, x_rnil, x_rcons, x_mnil, x_mcons, x_tst, x_tru, x_andT, x_orT, x_notT, x_yes, x_noP, x_someP, x_seq, x_rng1, x_rng2, x_rng3, x_zip, x_enum, enumF_lst, enumF_tup, x_augI, x_rev, zipF_lst, zipF_tup, revF_lst, x_gname, x_gtup, x_gtl, x_gnil, x_gcons, x_skip, x_sq, x_asgN, x_asgG, x_asgF, x_asgI, x_mut, x_ext, x_lrg, x_nix, x_nset, getN_f, getN_t, putN_f, putN_t, toL_ov, x_popD, x_popG, x_aug, x_drop, x_ret, x_retO, x_retN, x_brk, x_cont, x_raise, x_ifS, x_for, x_while, x_try, x_try2, x_try3, x_frz, x_kill, x_selfS, x_tm, x_fn, x_callv, isFn_d, x_fmt, x_fstr, x_fnil, x_fcons, x_enumK, x_raiseF, x_tryA, tryA_err, tryA_nx, tryA_rt, only_rt, x_xe, x_xf, xf_ok, x_xi, x_xtup, x_xand, x_xnil, x_xcons, x_hret, x_hif, isX_eq, asStr_str, tm_starts, seq_s,
  rd_dv, rd_ov, rd_vw, dat_d, dat_lst, sdat_fv, sdat_obj, toD_sv, toB_dv, toI_dv, mode_f, mode_t, mode_o, mode_v, cd_int, cd_str, cd_bl, cd_non, seq_d, seq_t, seq_o, seq_v, asgNF_sv, retF_sv, sq_nx, sq_rt, sq_err, sq_bk, sq_ct, try_err, try_nx, try_rt, try2_err, try2_nx, try2_rt, try3_err, try3_nx, try3_rt, toR_nx, toR_rt, toR_err, R.bind_ok, R.bind_err, R.bind_bad, R.sr_ok, R.sr_err, R.sr_bad, R.gr_ok, R.gr_err, R.gr_bad,
  o_add, o_sub, o_lt, o_le, o_gt, o_ge, o_eqI, o_neI, o_eqS, o_neS, o_eqB, o_neB, o_is, o_isnot, o_isb, o_notb, k_lenL, k_lenT, k_lenS, k_abs, k_int, k_intB, k_listL, k_listT, k_tupL, k_tupT, k_sum, k_lenset, k_range1, o_shr, o_band, rngVF_dv, k_all, k_any, k_max2, k_min2, k_maxL, k_minL, D.isNon, truD,
  getV, List.getElem?_cons_zero, List.getElem?_cons_succ, List.set_cons_zero, List.set_cons_succ, List.length_cons, List.length_nil, if_true, if_false, Bool.not_true, Bool.not_false, Bool.true_and, Bool.false_and, Bool.and_true, Bool.and_false, reduceIte, reduceCtorEq, Nat.reduceAdd, Nat.reduceSub, Nat.reduceLeDiff, Nat.zero_add, wipeE, startE, padE, List.cons_append, List.nil_append, List.replicate_succ, List.replicate_zero, asgFF, frzF, retOF, SV.isBrw, decide_true, decide_false, Bool.true_eq, Bool.false_eq_true, bool_if_true, bool_if_false, ofString_inj, ofString_beq, String.reduceEq, sq_bad, toR_bad, toI_bad, true_and, and_true, Nat.reduceLT, List.lookup_cons, List.lookup_nil, Int.reduceLT, Int.reduceLE, Int.reduceAdd, Int.reduceSub, Int.reduceMul, Int.reduceNeg, Int.reduceMod, Int.reduceDiv, Int.reducePow, Int.reduceToNat, Int.reduceEq, and_join, or_join, andT_join, orT_join, ixT0, ixT1, ixT2, ixT3, ixT4, ixT5, ixT6, ixL0, ixL1, ixL2, ixL3, ixL4, ixL5, ixL6, wr_nx, wr_ct, wr_bk, wr_rt, wr_err, wr_bad, wr_ite, try_ite, q_ixL, q_ixT, q_ixS, q_ixLast, o_mul, q_mulE, q_mulER, any_rep, q_mulLl, q_mulRl, q_divl, q_modl, q_div, q_mod, q_pow, q_appendM, q_append0, q_append, q_lrg, q_lzip, q_insertM, q_insert, q_line, q_line', q_mil, q_rng1, q_rng2, q_rng3, q_rep1, q_addL, List.length_map, List.length_append, map_snoc, Int.zero_add, getL, getP, putP, extF, forS, lcS, quiet_okS, quiet_ite, q_fldv, fldO_obj, fldO_ins, fvR_d, fvR_lst, dvR_some, augF, selfF, toI_dv, lentR, RV.noL, List.mem_cons, List.not_mem_nil, or_false, true_or, or_true, lk_yes, rng_len, List.length_range, List.length_range', Int.sub_add_cancel, Int.add_sub_cancel, List.length_replicate, Bool.or_false, Bool.or_true, Bool.true_or, Bool.false_or, and_self, Int.toNat_natCast, q_cast, x_seqb', x_lend', lendO_lst, seqbO_brw, i_nb, i_bb, i_ib, i_sb, i_tb, i_lb, i_ns, i_is, i_ss, i_ts, i_ls, i_ni, i_ii, i_ti, i_li, i_tl, i_ll, i_tt, i_lt, eq_self, Bool.not_not, not_true_eq_false, not_false_eq_true, kit_bool, Bool.true_beq, Bool.false_beq, beq_self_eq_true, only_ite, tryA_ite, sq_ite, bind_ite, sr_ite, gr_ite, toR_ite, toI_ite, toI_nx, toI_err, getO_x, putX, Bool.not_eq_true', me_parts, me_first, rd_fold, rf_ways, rf_over, rf_trains, encSt_tup, x_gtup_st, ixSt0, ixSt1, ixSt2, o_eqSg, o_neSg, q_inSt, q_inSl, q_notinSl, isNon_encFt, sg_fold, x_gtup_sg, ixSg0, ixSg1, ixSg2, lo_fold, tn_fold, ms_len, hs_len, br_len, bs_len, fl_segments, fl_metres, fl_heights, fl_begins, fl_brakes, me_total, me_blocks, me_metre, me_height, me_begin, me_brake, me_end, me_cm, me_cb, ft_length, ft_friction, ft_brake, ft_lift, ft_drive, ixTr0, ixTr1, ixTr2, ixTr3, ixTr4, encO_none, encO_some, isNon_encO, repI, repN, consI, q_slF, q_slM, q_slT, zipD_zip, q_inI, *])
def t__are_a_round_1 : P .t :=
  (.tst (.bin .eq (.var 2) (.c (.str "brake"))))
def e__are_a_round_1 : P .e :=
  (.var 2)
def e__are_a_round_2 : P .e :=
  (.var 3)
def e__are_a_round_3 : P .e :=
  (.bin .mul (.var 3) (.var 4))
def b__are_a_round : P .s :=
  (.sq (.asgG (.gname 1) (.lc (.seqb 0) (.gtup 3 (.gcons (.gname 2) (.gcons (.gname 3) (.gcons (.gname 4) .gnil)))) t__are_a_round_1 e__are_a_round_1 [2, 3, 4]))
  (.sq (.ifS (.orT (.notT (.tst (.chain .le .le (.c (.int (2))) (.cb .len (.rcons (.var 1) .rnil)) (.c (.int (12)))))) (.tst (.bin .ne (.bin .ix (.bin .ix (.var 0) (.neg (.c (.int 1)))) (.c (.int 0))) (.c (.str "brake"))))) (.ret (.c (.bl false))) .skip)
  (.sq (.ifS (.tst (.bin .gt (.cb .sum (.rcons (.lc (.seqb 0) (.gtup 3 (.gcons (.gname 2) (.gcons (.gname 3) (.gcons (.gname 4) .gnil)))) .yes e__are_a_round_2 [2, 3, 4]) .rnil)) (.c (.int (4000))))) (.ret (.c (.bl false))) .skip)
  (.ret (.bin .eq (.cb .sum (.rcons (.lc (.seqb 0) (.gtup 3 (.gcons (.gname 2) (.gcons (.gname 3) (.gcons (.gname 4) .gnil)))) .yes e__are_a_round_3 [2, 3, 4]) .rnil)) (.c (.int 0)))))))
def m__are_a_round : List D → R RV := runF 5 [true] b__are_a_round
--spec are_a_round
theorem lc_sum {g : P .g} {e : P .e} {ρ : En} {l : List Sg} (f : Sg → Int) (h : ∀ s, s ∈ l → lcS g .yes e ρ (encS s) = .ok (some (.int (f s)))) : lcF (lcS g .yes e ρ) (l.map encS) = .ok ((l.map f).map D.int) := by
  rw [lc_map encS (fun s => D.int (f s)) h, List.map_map]
  rfl
theorem are_a_round {l : List Sg} (h1 : segsOk l = true) (h2 : l.length ≤ 100000) : m__are_a_round [.lst (l.map encS)] = .ok (dv (.bl (roundOk l))) := by
  have sok : ∀ s, s ∈ l → segOk s = true := fun s hs => List.all_eq_true.mp h1 s hs
  have L1 : ∀ ρ1 : Option SV, lcF (lcS (.gtup 3 (.gcons (.gname 2) (.gcons (.gname 3) (.gcons (.gname 4) .gnil)))) t__are_a_round_1 e__are_a_round_1 [some (.brw (l.map encS)), ρ1, none, none, none]) (l.map encS) = .ok ((l.filter isBr).map fun s => D.str s.1) := fun ρ1 =>
    lc_filter encS (fun s => D.str s.1) isBr fun s hs => by
      unfold t__are_a_round_1 e__are_a_round_1
      walk_at "run"
      show (if isBr s = true then _ else _) = _
      cases isBr s <;> rfl
  have L2 : ∀ ρ1 : Option SV, lcF (lcS (.gtup 3 (.gcons (.gname 2) (.gcons (.gname 3) (.gcons (.gname 4) .gnil)))) .yes e__are_a_round_2 [some (.brw (l.map encS)), ρ1, none, none, none]) (l.map encS) = .ok ((l.map fun s => s.2.1).map D.int) := fun ρ1 =>
    lc_sum (fun s => s.2.1) fun s hs => by
      unfold e__are_a_round_2
      walk_at "run"
  have L3 : ∀ ρ1 : Option SV, lcF (lcS (.gtup 3 (.gcons (.gname 2) (.gcons (.gname 3) (.gcons (.gname 4) .gnil)))) .yes e__are_a_round_3 [some (.brw (l.map encS)), ρ1, none, none, none]) (l.map encS) = .ok ((l.map fun s => s.2.1 * s.2.2).map D.int) := fun ρ1 =>
    lc_sum (fun s => s.2.1 * s.2.2) fun s hs => by
      have b := segOk_bd (sok s hs)
      have hm : Ci.MulOk s.2.1 s.2.2 := mulR (by omega) (by omega)
      unfold e__are_a_round_3
      walk_at "run"
  unfold m__are_a_round runF b__are_a_round
  walk_at "run"
  simp only [L1]
  walk_at "run"
  have e1 : (l.map fun s => s.2.1).sum = tot l := rfl
  have e2 : (l.map fun s => s.2.1 * s.2.2).sum = clo l := rfl
  have e3 : (l.filter isBr).length = nBr l := rfl
  by_cases c : 2 ≤ nBr l ∧ nBr l ≤ 12
  · have hne : l ≠ [] := fun z => by rw [z] at c; exact absurd c.1 (by decide)
    obtain ⟨s, hs⟩ : ∃ s, l.getLast? = some s := ⟨_, List.getLast?_eq_some_getLast hne⟩
    have hk : lastK l = s.1 := by unfold lastK; rw [hs]; rfl
    have hix : B2.fn .ix (.lst (l.map encS)) (.int (-1)) = .ok (dv (encS s)) := o_ixL (atI_last (by rw [List.getLast?_map, hs]; rfl))
    have d1 : decide ((2 : Int) ≤ (nBr l : Nat)) = true := decide_eq_true (by omega)
    have d2 : decide (((nBr l : Nat) : Int) ≤ 12) = true := decide_eq_true (by omega)
    rw [e3, d1, d2]
    walk_at "all"
    unfold roundOk
    rw [hk, d1, d2]
    have e4 : (s.1 == ("brake" : Str)) = decide (s.1 = ("brake" : Str)) := rfl
    rw [e4]
    simp only [gt_iff_lt]
    cases decide (s.1 = ("brake" : Str)) <;> cases decide (4000 < tot l) <;> cases decide (clo l = 0) <;> rfl
  · have d1 : (decide ((2 : Int) ≤ (nBr l : Nat)) && decide (((nBr l : Nat) : Int) ≤ 12)) = false := by
      rw [Bool.and_eq_false_iff, decide_eq_false_iff_not, decide_eq_false_iff_not]
      omega
    unfold roundOk
    rw [e3, d1]
    rfl
end Lw
end

section
set_option Elab.async false
set_option linter.all false
set_option maxRecDepth 100000
set_option maxHeartbeats 4000000
namespace Lw
open PySem PySem.Spec PyProof.Rows L2 Ci
open Evl (Ex ex_t ex_l sq_of st_of)
local macro_rules | `(tactic| walk_at "run") => `(tactic| simp -implicitDefEqProofs (disch := first | assumption | decide | omega | (simp only [List.length_replicate, List.length_map, List.length_range, List.length_append, List.length_cons, List.length_nil, List.length_take, List.length_drop, List.length_singleton, rollL_len] <;> omega) | fail) only [x_var, x_c, x_kt, x_bin, x_neg, x_andV, x_orV, x_notV, x_chain, x_chain3, x_ife, x_tup, x_lst, x_fld, x_sl, x_cb, x_isi, x_call, x_meth, x_make, x_lc, x_lc2, x_rngv, x_anil, x_acons, x_rnil, x_rcons, x_mnil, x_mcons, x_tst, x_tru, x_andT, x_orT, x_notT, x_yes, x_noP, x_someP, x_seq, x_rng1, x_rng2, x_rng3, x_zip, x_enum, enumF_lst, enumF_tup, x_augI, x_rev, zipF_lst, zipF_tup, revF_lst, x_gname, x_gtup, x_gtl, x_gnil, x_gcons, x_skip, x_sq, x_asgN, x_asgG, x_asgF, x_asgI, x_mut, x_ext, x_lrg, x_nix, x_nset, getN_f, getN_t, putN_f, putN_t, toL_ov, x_popD, x_popG, x_aug, x_drop, x_ret, x_retO, x_retN, x_brk, x_cont, x_raise, x_ifS, x_for, x_while, x_try, x_try2, x_try3, x_frz, x_kill, x_selfS, x_tm, x_fn, x_callv, isFn_d, x_fmt, x_fstr, x_fnil, x_fcons, x_enumK, x_raiseF, x_tryA, tryA_err, tryA_nx, tryA_rt, only_rt, x_xe, x_xf, xf_ok, x_xi, x_xtup, x_xand, x_xnil, x_xcons, x_hret, x_hif, isX_eq, asStr_str, tm_starts, seq_s,
  rd_dv, rd_ov, rd_vw, dat_d, dat_lst, sdat_fv, sdat_obj, toD_sv, toB_dv, toI_dv, mode_f, mode_t, mode_o, mode_v, cd_int, cd_str, cd_bl, cd_non, seq_d, seq_t, seq_o, seq_v, asgNF_sv, retF_sv, sq_nx, sq_rt, sq_err, sq_bk, sq_ct, try_err, try_nx, try_rt, try2_err, try2_nx, try2_rt, try3_err, try3_nx, try3_rt, toR_nx, toR_rt, toR_err, R.bind_ok, R.bind_err, R.bind_bad, R.sr_ok, R.sr_err, R.sr_bad, R.gr_ok, R.gr_err, R.gr_bad,
  o_add, o_sub, o_lt, o_le, o_gt, o_ge, o_eqI, o_neI, o_eqS, o_neS, o_eqB, o_neB, o_is, o_isnot, o_isb, o_notb, k_lenL, k_lenT, k_lenS, k_abs, k_int, k_intB, k_listL, k_listT, k_tupL, k_tupT, k_sum, k_lenset, k_range1, o_shr, o_band, rngVF_dv, k_all, k_any, k_max2, k_min2, k_maxL, k_minL, D.isNon, truD,
  getV, List.getElem?_cons_zero, List.getElem?_cons_succ, List.set_cons_zero, List.set_cons_succ, List.length_cons, List.length_nil, if_true, if_false, Bool.not_true, Bool.not_false, Bool.true_and, Bool.false_and, Bool.and_true, Bool.and_false, reduceIte, reduceCtorEq, Nat.reduceAdd, Nat.reduceSub, Nat.reduceLeDiff, Nat.zero_add, wipeE, startE, padE, List.cons_append, List.nil_append, List.replicate_succ, List.replicate_zero, asgFF, frzF, retOF, SV.isBrw, decide_true, decide_false, Bool.true_eq, Bool.false_eq_true, bool_if_true, bool_if_false, ofString_inj, ofString_beq, String.reduceEq, sq_bad, toR_bad, toI_bad, true_and, and_true, Nat.reduceLT, List.lookup_cons, List.lookup_nil, Int.reduceLT, Int.reduceLE, Int.reduceAdd, Int.reduceSub, Int.reduceMul, Int.reduceNeg, Int.reduceMod, Int.reduceDiv, Int.reducePow, Int.reduceToNat, Int.reduceEq, and_join, or_join, andT_join, orT_join, ixT0, ixT1, ixT2, ixT3, ixT4, ixT5, ixT6, ixL0, ixL1, ixL2, ixL3, ixL4, ixL5, ixL6, wr_nx, wr_ct, wr_bk, wr_rt, wr_err, wr_bad, wr_ite, try_ite, q_ixL, q_ixT, q_ixS, q_ixLast, o_mul, q_mulE, q_mulER, any_rep, q_mulLl, q_mulRl, q_divl, q_modl, q_div, q_mod, q_pow, q_appendM, q_append0, q_append, q_lrg, q_lzip, q_insertM, q_insert, q_line, q_line', q_mil, q_rng1, q_rng2, q_rng3, q_rep1, q_addL, List.length_map, List.length_append, map_snoc, Int.zero_add, getL, getP, putP, extF, forS, lcS, quiet_okS, quiet_ite, q_fldv, fldO_obj, fldO_ins, fvR_d, fvR_lst, dvR_some, augF, selfF, toI_dv, lentR, RV.noL, List.mem_cons, List.not_mem_nil, or_false, true_or, or_true, lk_yes, rng_len, List.length_range, List.length_range', Int.sub_add_cancel, Int.add_sub_cancel, List.length_replicate, Bool.or_false, Bool.or_true, Bool.true_or, Bool.false_or, and_self, Int.toNat_natCast, q_cast, x_seqb', x_lend', lendO_lst, seqbO_brw, i_nb, i_bb, i_ib, i_sb, i_tb, i_lb, i_ns, i_is, i_ss, i_ts, i_ls, i_ni, i_ii, i_ti, i_li, i_tl, i_ll, i_tt, i_lt, eq_self, Bool.not_not, not_true_eq_false, not_false_eq_true, kit_bool, Bool.true_beq, Bool.false_beq, beq_self_eq_true, only_ite, tryA_ite, sq_ite, bind_ite, sr_ite, gr_ite, toR_ite, toI_ite, toI_nx, toI_err, getO_x, putX, Bool.not_eq_true', me_parts, me_first, rd_fold, rf_ways, rf_over, rf_trains, encSt_tup, x_gtup_st, ixSt0, ixSt1, ixSt2, o_eqSg, o_neSg, q_inSt, q_inSl, q_notinSl, isNon_encFt, sg_fold, x_gtup_sg, ixSg0, ixSg1, ixSg2, lo_fold, tn_fold, ms_len, hs_len, br_len, bs_len, fl_segments, fl_metres, fl_heights, fl_begins, fl_brakes, me_total, me_blocks, me_metre, me_height, me_begin, me_brake, me_end, me_cm, me_cb, ft_length, ft_friction, ft_brake, ft_lift, ft_drive, ixTr0, ixTr1, ixTr2, ixTr3, ixTr4, encO_none, encO_some, isNon_encO, repI, repN, consI, q_slF, q_slM, q_slT, zipD_zip, q_inI])
def l__are_segments_1 : P .s :=
  (.sq (.ifS (.tst (.bin .notin (.var 1) (.kt 0 [(.str "coast"), (.str "lift"), (.str "brake")]))) (.ret (.c (.bl false))) .skip)
  (.ifS (.orT (.notT (.tst (.chain .le .le (.c (.int 1)) (.var 2) (.c (.int (500)))))) (.tst (.bin .gt (.cb .abs (.rcons (.var 3) .rnil)) (.c (.int (100)))))) (.ret (.c (.bl false))) .skip))
def b__are_segments : P .s :=
  (.sq (.for (.seqb 0) (.gtup 3 (.gcons (.gname 1) (.gcons (.gname 2) (.gcons (.gname 3) .gnil)))) l__are_segments_1 [1, 2, 3])
  (.ret (.c (.bl true))))
def m__are_segments : List D → R RV := runF 4 [true] b__are_segments
--spec are_segments
theorem notin_tup {s : Str} {ds : List D} : B2.fn .notin (.str s) (.tup ds) = (inTup (.str s) ds).bind fun b => .ok (dv (.bl (!b))) := by
  simp only [B2.fn, inF, if_true]
theorem kinds_in {kd : Str} : B2.fn .notin (.str kd) (.tup [.str "coast", .str "lift", .str "brake"]) = .ok (dv (.bl (!kindOk kd))) := by
  rw [notin_tup]
  have h : inTup (.str kd) [.str "coast", .str "lift", .str "brake"] = .ok (kindOk kd) := by
    show (if _ = true then _ else _) = _
    rw [if_pos (by rfl)]
    rfl
  rw [h]
  rfl
theorem segs_turn {l : List Sg} {s : Sg} : wipeR [1, 2, 3] (forS (.gtup 3 (.gcons (.gname 1) (.gcons (.gname 2) (.gcons (.gname 3) .gnil)))) l__are_segments_1 (encS s) [some (.brw (l.map encS)), none, none, none]) =
    if segOk s = true then .nx [some (.brw (l.map encS)), none, none, none] else .rt (dv (.bl false)) [some (.brw (l.map encS)), some (.d (.str s.1)), some (.d (.int s.2.1)), some (.d (.int s.2.2))] := by
  unfold l__are_segments_1
  walk_at "run"
  simp only [kinds_in]
  walk_at "run"
  unfold segOk rngOk
  cases kindOk s.1 <;> cases (decide (1 ≤ s.2.1) && decide (s.2.1 ≤ 500)) <;> cases (decide (100 < if s.2.2 < 0 then -s.2.2 else s.2.2)) <;> rfl
theorem segs_loop {m : List Sg} : ∀ l : List Sg, (segsOk l = true → forF (forS (.gtup 3 (.gcons (.gname 1) (.gcons (.gname 2) (.gcons (.gname 3) .gnil)))) l__are_segments_1) [1, 2, 3] (l.map encS) [some (.brw (m.map encS)), none, none, none] = .nx [some (.brw (m.map encS)), none, none, none]) ∧
    (segsOk l = false → ∃ ρ, forF (forS (.gtup 3 (.gcons (.gname 1) (.gcons (.gname 2) (.gcons (.gname 3) .gnil)))) l__are_segments_1) [1, 2, 3] (l.map encS) [some (.brw (m.map encS)), none, none, none] = .rt (dv (.bl false)) ρ)
  | [] => ⟨fun _ => rfl, fun h => by cases h⟩
  | s :: r => by
    obtain ⟨h1, h2⟩ := segs_loop (m := m) r
    rw [List.map_cons, forF_turn, segs_turn]
    have e : segsOk (s :: r) = (segOk s && segsOk r) := rfl
    rw [e]
    cases hs : segOk s with
    | true =>
      rw [if_pos rfl]
      simpa using ⟨h1, h2⟩
    | false => exact ⟨fun h => Bool.noConfusion h, fun _ => ⟨_, rfl⟩⟩
theorem are_segments {l : List Sg} : m__are_segments [.lst (l.map encS)] = .ok (dv (.bl (segsOk l))) := by
  obtain ⟨h1, h2⟩ := segs_loop (m := l) l
  unfold m__are_segments runF b__are_segments
  walk_at "run"
  cases h : segsOk l with
  | true =>
    rw [h1 h]
    walk_at "run"
  | false =>
    obtain ⟨ρ, e⟩ := h2 h
    rw [e]
    walk_at "run"
end Lw
end

section
set_option Elab.async false
set_option linter.all false
set_option maxRecDepth 100000
set_option maxHeartbeats 4000000
namespace Lw
open PySem PySem.Spec PyProof.Rows L2 Ci
open Evl (Ex ex_t ex_l sq_of st_of)
local macro_rules | `(tactic| walk_at "run") => `(tactic| simp -implicitDefEqProofs (disch := first | assumption | decide | omega | (simp only [List.length_replicate, List.length_map, List.length_range, List.length_append, List.length_cons, List.length_nil, List.length_take, List.length_drop, List.length_singleton, rollL_len] <;> omega) | fail) only [x_var, x_c, x_kt, x_bin, x_neg, x_andV, x_orV, x_notV, x_chain, x_chain3, x_ife, x_tup, x_lst, x_fld, x_sl, x_cb, x_isi, x_call, x_meth, x_make, x_lc, x_lc2, x_rngv, x_anil, x_acons, x_rnil, x_rcons, x_mnil, x_mcons, x_tst, x_tru, x_andT, x_orT, x_notT, x_yes, x_noP, x_someP, x_seq, x_rng1, x_rng2, x_rng3, x_zip, x_enum, enumF_lst, enumF_tup, x_augI, x_rev, zipF_lst, zipF_tup, revF_lst, x_gname, x_gtup, x_gtl, x_gnil, x_gcons, x_skip, x_sq, x_asgN, x_asgG, x_asgF, x_asgI, x_mut, x_ext, x_lrg, x_nix, x_nset, getN_f, getN_t, putN_f, putN_t, toL_ov, x_popD, x_popG, x_aug, x_drop, x_ret, x_retO, x_retN, x_brk, x_cont, x_raise, x_ifS, x_for, x_while, x_try, x_try2, x_try3, x_frz, x_kill, x_selfS, x_tm, x_fn, x_callv, isFn_d, x_fmt, x_fstr, x_fnil, x_fcons, x_enumK, x_raiseF, x_tryA, tryA_err, tryA_nx, tryA_rt, only_rt, x_xe, x_xf, xf_ok, x_xi, x_xtup, x_xand, x_xnil, x_xcons, x_hret, x_hif, isX_eq, asStr_str, tm_starts, seq_s,
  rd_dv, rd_ov, rd_vw, dat_d, dat_lst, sdat_fv, sdat_obj, toD_sv, toB_dv, toI_dv, mode_f, mode_t, mode_o, mode_v, cd_int, cd_str, cd_bl, cd_non, seq_d, seq_t, seq_o, seq_v, asgNF_sv, retF_sv, sq_nx, sq_rt, sq_err, sq_bk, sq_ct, try_err, try_nx, try_rt, try2_err, try2_nx, try2_rt, try3_err, try3_nx, try3_rt, toR_nx, toR_rt, toR_err, R.bind_ok, R.bind_err, R.bind_bad, R.sr_ok, R.sr_err, R.sr_bad, R.gr_ok, R.gr_err, R.gr_bad,
  o_add, o_sub, o_lt, o_le, o_gt, o_ge, o_eqI, o_neI, o_eqS, o_neS, o_eqB, o_neB, o_is, o_isnot, o_isb, o_notb, k_lenL, k_lenT, k_lenS, k_abs, k_int, k_intB, k_listL, k_listT, k_tupL, k_tupT, k_sum, k_lenset, k_range1, o_shr, o_band, rngVF_dv, k_all, k_any, k_max2, k_min2, k_maxL, k_minL, D.isNon, truD,
  getV, List.getElem?_cons_zero, List.getElem?_cons_succ, List.set_cons_zero, List.set_cons_succ, List.length_cons, List.length_nil, if_true, if_false, Bool.not_true, Bool.not_false, Bool.true_and, Bool.false_and, Bool.and_true, Bool.and_false, reduceIte, reduceCtorEq, Nat.reduceAdd, Nat.reduceSub, Nat.reduceLeDiff, Nat.zero_add, wipeE, startE, padE, List.cons_append, List.nil_append, List.replicate_succ, List.replicate_zero, asgFF, frzF, retOF, SV.isBrw, decide_true, decide_false, Bool.true_eq, Bool.false_eq_true, bool_if_true, bool_if_false, ofString_inj, ofString_beq, String.reduceEq, sq_bad, toR_bad, toI_bad, true_and, and_true, Nat.reduceLT, List.lookup_cons, List.lookup_nil, Int.reduceLT, Int.reduceLE, Int.reduceAdd, Int.reduceSub, Int.reduceMul, Int.reduceNeg, Int.reduceMod, Int.reduceDiv, Int.reducePow, Int.reduceToNat, Int.reduceEq, and_join, or_join, andT_join, orT_join, ixT0, ixT1, ixT2, ixT3, ixT4, ixT5, ixT6, ixL0, ixL1, ixL2, ixL3, ixL4, ixL5, ixL6, wr_nx, wr_ct, wr_bk, wr_rt, wr_err, wr_bad, wr_ite, try_ite, q_ixL, q_ixT, q_ixS, q_ixLast, o_mul, q_mulE, q_mulER, any_rep, q_mulLl, q_mulRl, q_divl, q_modl, q_div, q_mod, q_pow, q_appendM, q_append0, q_append, q_lrg, q_lzip, q_insertM, q_insert, q_line, q_line', q_mil, q_rng1, q_rng2, q_rng3, q_rep1, q_addL, List.length_map, List.length_append, map_snoc, Int.zero_add, getL, getP, putP, extF, forS, lcS, quiet_okS, quiet_ite, q_fldv, fldO_obj, fldO_ins, fvR_d, fvR_lst, dvR_some, augF, selfF, toI_dv, lentR, RV.noL, List.mem_cons, List.not_mem_nil, or_false, true_or, or_true, lk_yes, rng_len, List.length_range, List.length_range', Int.sub_add_cancel, Int.add_sub_cancel, List.length_replicate, Bool.or_false, Bool.or_true, Bool.true_or, Bool.false_or, and_self, Int.toNat_natCast, q_cast, x_seqb', x_lend', lendO_lst, seqbO_brw, i_nb, i_bb, i_ib, i_sb, i_tb, i_lb, i_ns, i_is, i_ss, i_ts, i_ls, i_ni, i_ii, i_ti, i_li, i_tl, i_ll, i_tt, i_lt, eq_self, Bool.not_not, not_true_eq_false, not_false_eq_true, kit_bool, Bool.true_beq, Bool.false_beq, beq_self_eq_true, only_ite, tryA_ite, sq_ite, bind_ite, sr_ite, gr_ite, toR_ite, toI_ite, toI_nx, toI_err, getO_x, putX, Bool.not_eq_true', me_parts, me_first, rd_fold, rf_ways, rf_over, rf_trains, encSt_tup, x_gtup_st, ixSt0, ixSt1, ixSt2, o_eqSg, o_neSg, q_inSt, q_inSl, q_notinSl, isNon_encFt, sg_fold, x_gtup_sg, ixSg0, ixSg1, ixSg2, lo_fold, tn_fold, ms_len, hs_len, br_len, bs_len, fl_segments, fl_metres, fl_heights, fl_begins, fl_brakes, me_total, me_blocks, me_metre, me_height, me_begin, me_brake, me_end, me_cm, me_cb, ft_length, ft_friction, ft_brake, ft_lift, ft_drive, ixTr0, ixTr1, ixTr2, ixTr3, ixTr4, encO_none, encO_some, isNon_encO, repI, repN, consI, q_slF, q_slM, q_slT, zipD_zip, q_inI])
local macro_rules | `(tactic| walk_at "all") => `(tactic| simp -implicitDefEqProofs (disch := first | assumption | decide | omega | (simp only [List.length_replicate, List.length_map, List.length_range, List.length_append, List.length_cons, List.length_nil, List.length_take, List.length_drop, List.length_singleton, rollL_len] <;> omega) | fail) only [x_var, x_c, x_kt, x_bin, x_neg, x_andV, x_orV, x_notV, x_chain, x_chain3, x_ife, x_tup, x_lst, x_fld, x_sl, x_cb, x_isi, x_call, x_meth, x_make, x_lc, x_lc2, x_rngv, x_anil, x_acons, x_rnil, x_rcons, x_mnil, x_mcons, x_tst, x_tru, x_andT, x_orT, x_notT, x_yes, x_noP, x_someP, x_seq, x_rng1, x_rng2, x_rng3, x_zip, x_enum, enumF_lst, enumF_tup, x_augI, x_rev, zipF_lst, zipF_tup, revF_lst, x_gname, x_gtup, x_gtl, x_gnil, x_gcons, x_skip, x_sq, x_asgN, x_asgG, x_asgF, x_asgI, x_mut, x_ext, x_lrg, x_nix, x_nset, getN_f, getN_t, putN_f, putN_t, toL_ov, x_popD, x_popG, x_aug, x_drop, x_ret, x_retO, x_retN, x_brk, x_cont, x_raise, x_ifS, x_for, x_while, x_try, x_try2, x_try3, x_frz, x_kill, x_selfS, x_tm, x_fn, x_callv, isFn_d, x_fmt, x_fstr, x_fnil, x_fcons, x_enumK, x_raiseF, x_tryA, tryA_err, tryA_nx, tryA_rt, only_rt, x_xe, x_xf, xf_ok, x_xi, x_xtup, x_xand, x_xnil, x_xcons, x_hret, x_hif, isX_eq, asStr_str, tm_starts, seq_s,
  rd_dv, rd_ov, rd_vw, dat_d, dat_lst, sdat_fv, sdat_obj, toD_sv, toB_dv, toI_dv, mode_f, mode_t, mode_o, mode_v, cd_int, cd_str, cd_bl, cd_non, seq_d, seq_t, seq_o, seq_v, asgNF_sv, retF_sv, sq_nx, sq_rt, sq_err, sq_bk, sq_ct, try_err, try_nx, try_rt, try2_err, try2_nx, try2_rt, try3_err, try3_nx, try3_rt, toR_nx, toR_rt, toR_err, R.bind_ok, R.bind_err, R.bind_bad, R.sr_ok, R.sr_err, R.sr_bad, R.gr_ok, R.gr_err, R.gr_bad,
  o_add, o_sub, o_lt, o_le, o_gt, o_ge, o_eqI, o_neI, o_eqS, o_neS, o_eqB, o_neB, o_is, o_isnot, o_isb, o_notb, k_lenL, k_lenT, k_lenS, k_abs, k_int, k_intB, k_listL, k_listT, k_tupL, k_tupT, k_sum, k_lenset, k_range1, o_shr, o_band, rngVF_dv, k_all, k_any, k_max2, k_min2, k_maxL, k_minL, D.isNon, truD,
  getV, List.getElem?_cons_zero, List.getElem?_cons_succ, List.set_cons_zero, List.set_cons_succ, List.length_cons, List.length_nil, if_true, if_false, Bool.not_true, Bool.not_false, Bool.true_and, Bool.false_and, Bool.and_true, Bool.and_false, reduceIte, reduceCtorEq, Nat.reduceAdd, Nat.reduceSub, Nat.reduceLeDiff, Nat.zero_add, wipeE, startE, padE, List.cons_append, List.nil_append, List.replicate_succ, List.replicate_zero, asgFF, frzF, retOF, SV.isBrw, decide_true, decide_false, Bool.true_eq, Bool.false_eq_true, bool_if_true, bool_if_false, ofString_inj, ofString_beq, String.reduceEq, sq_bad, toR_bad, toI_bad, true_and, and_true, Nat.reduceLT, List.lookup_cons, List.lookup_nil, Int.reduceLT, Int.reduceLE, Int.reduceAdd, Int.reduceSub, Int.reduceMul, Int.reduceNeg, Int.reduceMod, Int.reduceDiv, Int.reducePow, Int.reduceToNat, Int.reduceEq, and_join, or_join, andT_join, orT_join, ixT0, ixT1, ixT2, ixT3, ixT4, ixT5, ixT6, ixL0, ixL1, ixL2, ixL3, ixL4, ixL5, ixL6, wr_nx, wr_ct, wr_bk, wr_rt, wr_err, wr_bad, wr_ite, try_ite, q_ixL, q_ixT, q_ixS, q_ixLast, o_mul, q_mulE, q_mulER, any_rep, q_mulLl, q_mulRl, q_divl, q_modl, q_div, q_mod, q_pow, q_appendM, q_append0, q_append, q_lrg, q_lzip, q_insertM, q_insert, q_line, q_line', q_mil, q_rng1, q_rng2, q_rng3, q_rep1, q_addL, List.length_map, List.length_append, map_snoc, Int.zero_add, getL, getP, putP, extF, forS, lcS, quiet_okS, quiet_ite, q_fldv, fldO_obj, fldO_ins, fvR_d, fvR_lst, dvR_some, augF, selfF, toI_dv, lentR, RV.noL, List.mem_cons, List.not_mem_nil, or_false, true_or, or_true, lk_yes, rng_len, List.length_range, List.length_range', Int.sub_add_cancel, Int.add_sub_cancel, List.length_replicate, Bool.or_false, Bool.or_true, Bool.true_or, Bool.false_or, and_self, Int.toNat_natCast, q_cast, x_seqb', x_lend', lendO_lst, seqbO_brw, i_nb, i_bb, i_ib, i_sb, i_tb, i_lb, i_ns, i_is, i_ss, i_ts, i_ls, i_ni, i_ii, i_ti, i_li, i_tl, i_ll, i_tt, i_lt, eq_self, Bool.not_not, not_true_eq_false, not_false_eq_true, kit_bool, Bool.true_beq, Bool.false_beq, beq_self_eq_true, only_ite, tryA_ite, sq_ite, bind_ite, sr_ite, gr_ite, toR_ite, toI_ite, toI_nx, toI_err, getO_x, putX, Bool.not_eq_true', me_parts, me_first, rd_fold, rf_ways, rf_over, rf_trains, encSt_tup, x_gtup_st, ixSt0, ixSt1, ixSt2, o_eqSg, o_neSg, q_inSt, q_inSl, q_notinSl, isNon_encFt, sg_fold, x_gtup_sg, ixSg0, ixSg1, ixSg2, lo_fold, tn_fold, ms_len, hs_len, br_len, bs_len, fl_segments, fl_metres, fl_heights, fl_begins, fl_brakes, me_total, me_blocks, me_metre, me_height, me_begin, me_brake, me_end, me_cm, me_cb, ft_length, ft_friction, ft_brake, ft_lift, ft_drive, ixTr0, ixTr1, ixTr2, ixTr3, ixTr4, encO_none, encO_some, isNon_encO, repI, repN, consI, q_slF, q_slM, q_slT, zipD_zip, q_inI, *])
def l_Layout__place_metres_1 : P .s :=
  (.sq (.mut .append (.pfld 0 0 "_metres") (.acons (.tup (.acons (.var 2) (.acons (.var 4) (.acons (.var 5) .anil)))) .anil))
  (.sq (.mut .append (.pfld 0 0 "_heights") (.acons (.var 1) .anil))
  (.asgG (.gname 1) (.bin .add (.var 1) (.var 4)))))
def l_Layout__place_metres_2 : P .s :=
  (.sq (.asgG (.gname 5) (.cb .len (.rcons (.fldv [0] 0 "_brakes") .rnil)))
  (.sq (.ifS (.tst (.bin .eq (.var 2) (.c (.str "brake")))) (.mut .append (.pfld 0 0 "_brakes") (.acons (.cb .len (.rcons (.fldv [0] 0 "_metres") .rnil)) .anil)) .skip)
  (.sq (.for (.rng1 (.acons (.var 3) .anil)) (.gname 6) l_Layout__place_metres_1 [6])
  (.ifS (.tst (.bin .eq (.var 2) (.c (.str "brake")))) (.mut .append (.pfld 0 0 "_begins") (.acons (.cb .len (.rcons (.fldv [0] 0 "_metres") .rnil)) .anil)) .skip))))
def b_Layout__place_metres : P .s :=
  (.sq (.asgG (.gname 1) (.c (.int 0)))
  (.for (.seq (.fldv [0] 0 "segments")) (.gtup 3 (.gcons (.gname 2) (.gcons (.gname 3) (.gcons (.gname 4) .gnil)))) l_Layout__place_metres_2 [2, 3, 4, 5, 6]))
def m_Layout__place_metres : SelfF := runS 0 7 [] b_Layout__place_metres
--spec place_metres
theorem pm_in {l : List Sg} {kd : Str} {ln sl bl : Int} {p : Pl} (n : Nat) (h1 : p.ms.length + n ≤ 100000) (h2 : p.hs.length + n ≤ 100000) :
    forF (forS (.gname 6) l_Layout__place_metres_1) [6] (rng 0 n) [some (.obj true 0 (loV l p)), some (.d (.int p.h)), some (.d (.str kd)), some (.d (.int ln)), some (.d (.int sl)), some (.d (.int bl)), none] =
      .nx [some (.obj true 0 (loV l (inn kd sl bl n p))), some (.d (.int (inn kd sl bl n p).h)), some (.d (.str kd)), some (.d (.int ln)), some (.d (.int sl)), some (.d (.int bl)), none] :=
  for_rng (fun k => [some (.obj true 0 (loV l (inn kd sl bl k p))), some (.d (.int (inn kd sl bl k p).h)), some (.d (.str kd)), some (.d (.int ln)), some (.d (.int sl)), some (.d (.int bl)), none]) fun k hk => by
    obtain ⟨_, _, i3, i4⟩ := inn_br (k := kd) (sl := sl) (b := bl) (p := p) k
    have ei : inn kd sl bl (k + 1) p = { inn kd sl bl k p with ms := (inn kd sl bl k p).ms ++ [(kd, sl, bl)], hs := (inn kd sl bl k p).hs ++ [(inn kd sl bl k p).h], h := (inn kd sl bl k p).h + sl } := rfl
    rw [ei]
    generalize inn kd sl bl k p = w at i3 i4
    unfold l_Layout__place_metres_1 loV
    walk_at "run"
theorem pm_turn {l : List Sg} {s : Sg} {p : Pl} (h1 : p.ms.length + s.2.1.toNat ≤ 100000) (h2 : p.hs.length + s.2.1.toNat ≤ 100000) (h3 : p.br.length ≤ 100000) (h4 : p.bs.length ≤ 100000) (h5 : 0 ≤ s.2.1) (h6 : s.2.1 ≤ 1000) :
    wipeR [2, 3, 4, 5, 6] (forS (.gtup 3 (.gcons (.gname 2) (.gcons (.gname 3) (.gcons (.gname 4) .gnil)))) l_Layout__place_metres_2 (encS s) [some (.obj true 0 (loV l p)), some (.d (.int p.h)), none, none, none, none, none]) =
      .nx [some (.obj true 0 (loV l (pstep p s))), some (.d (.int (pstep p s).h)), none, none, none, none, none] := by
  obtain ⟨o1, o2, o3, o4, o5⟩ := openB_f s p
  have L := pm_in (l := l) (kd := s.1) (ln := s.2.1) (sl := s.2.2) (bl := (p.br.length : Int)) (p := openB s p) s.2.1.toNat (by rw [o1]; exact h1) (by rw [o2]; exact h2)
  obtain ⟨b1, b2, b3, b4⟩ := inn_br (k := s.1) (sl := s.2.2) (b := (p.br.length : Int)) (p := openB s p) s.2.1.toNat
  have ep : pstep p s = shutB s (inn s.1 s.2.2 (p.br.length : Int) s.2.1.toNat (openB s p)) := rfl
  rw [o4] at L
  rw [ep]
  generalize hw : inn s.1 s.2.2 (p.br.length : Int) s.2.1.toNat (openB s p) = w at *
  unfold l_Layout__place_metres_2
  cases hb : isBr s with
  | true =>
    have hd : decide (s.1 = ("brake" : Str)) = true := hb
    have eo : openB s p = { p with br := p.br ++ [(p.ms.length : Int)] } := if_pos hb
    have es : shutB s w = { w with bs := w.bs ++ [(w.ms.length : Int)] } := if_pos hb
    rw [eo] at L b2
    rw [es]
    have b5 : w.bs.length ≤ 100000 := by rw [b2]; exact h4
    clear hw eo es o1 o2 o3 o4 o5 b1 b2
    unfold loV at *
    walk_at "all"
  | false =>
    have hd : decide (s.1 = ("brake" : Str)) = false := hb
    have eo : openB s p = p := if_neg (by rw [hb]; exact Bool.false_ne_true)
    have es : shutB s w = w := if_neg (by rw [hb]; exact Bool.false_ne_true)
    rw [eo] at L b2
    rw [es]
    clear hw eo es o1 o2 o3 o4 o5 b1 b2
    unfold loV at *
    walk_at "all"
theorem place_metres {l : List Sg} (h1 : segsOk l = true) (h2 : mlen l ≤ 4000) : m_Layout__place_metres [("segments", .d (.tup (l.map encS))), ("_metres", .lst []), ("_heights", .lst []), ("_begins", .lst [.int 0]), ("_brakes", .lst [])] [] = .ok (.non, loV l (pls l)) := by
  have sok : ∀ s, s ∈ l → segOk s = true := fun s hs => List.all_eq_true.mp h1 s hs
  obtain ⟨m1, m2⟩ := mlen_tot h1
  have L := for_list (step := forS (.gtup 3 (.gcons (.gname 2) (.gcons (.gname 3) (.gcons (.gname 4) .gnil)))) l_Layout__place_metres_2) (kill := [2, 3, 4, 5, 6]) encS (xs := l) (fun k => [some (.obj true 0 (loV l (pls (l.take k)))), some (.d (.int (pls (l.take k)).h)), none, none, none, none, none]) fun k hk => by
    have et : l.take (k + 1) = l.take k ++ [l[k]] := by rw [List.take_add_one, List.getElem?_eq_getElem hk]; rfl
    have bd := segOk_bd (sok l[k] (List.getElem_mem hk))
    obtain ⟨q1, q2, q3, q4⟩ := pls_len (l.take k)
    have q5 := mlen_take l (k + 1)
    rw [et, mlen_app, mlen_one] at q5
    have q7 : (l.take k).length ≤ l.length := by rw [List.length_take]; omega
    rw [et, pls_app]
    exact pm_turn (by omega) (by omega) (by omega) (by omega) (by omega) (by omega)
  rw [List.take_length] at L
  have L : forF (forS (.gtup 3 (.gcons (.gname 2) (.gcons (.gname 3) (.gcons (.gname 4) .gnil)))) l_Layout__place_metres_2) [2, 3, 4, 5, 6] (l.map encS) [some (.obj true 0 [("segments", .d (.tup (l.map encS))), ("_metres", .lst []), ("_heights", .lst []), ("_begins", .lst [.int 0]), ("_brakes", .lst [])]), some (.d (.int 0)), none, none, none, none, none] = _ := L
  unfold m_Layout__place_metres runS b_Layout__place_metres
  walk_at "all"
  rfl
end Lw
end

section
set_option Elab.async false
set_option linter.all false
set_option maxRecDepth 100000
set_option maxHeartbeats 4000000
namespace Lw
open PySem PySem.Spec PyProof.Rows L2 Ci
open Evl (Ex ex_t ex_l sq_of st_of)
local macro_rules | `(tactic| walk_at "all") => `(tactic| simp -implicitDefEqProofs (disch := first | assumption | decide | omega | (simp only [List.length_replicate, List.length_map, List.length_range, List.length_append, List.length_cons, List.length_nil, List.length_take, List.length_drop, List.length_singleton, rollL_len] <;> omega) | fail) only [x_var, x_c, x_kt, x_bin, x_neg, x_andV, x_orV, x_notV, x_chain, x_chain3, x_ife, x_tup, x_lst, x_fld, x_sl, x_cb, x_isi, x_call, x_meth, x_make, x_lc, x_lc2, x_rngv, x_anil, x_acons, x_rnil, x_rcons, x_mnil, x_mcons, x_tst, x_tru, x_andT, x_orT, x_notT, x_yes, x_noP, x_someP, x_seq, x_rng1, x_rng2, x_rng3, x_zip, x_enum, enumF_lst, enumF_tup, x_augI, x_rev, zipF_lst, zipF_tup, revF_lst, x_gname, x_gtup, x_gtl, x_gnil, x_gcons, x_skip, x_sq, x_asgN, x_asgG, x_asgF, x_asgI, x_mut, x_ext, x_lrg, x_nix, x_nset, getN_f, getN_t, putN_f, putN_t, toL_ov, x_popD, x_popG, x_aug, x_drop, x_ret, x_retO, x_retN, x_brk, x_cont, x_raise, x_ifS, x_for, x_while, x_try, x_try2, x_try3, x_frz, x_kill, x_selfS, x_tm, x_fn, x_callv, isFn_d, x_fmt, x_fstr, x_fnil, x_fcons, x_enumK, x_raiseF, x_tryA, tryA_err, tryA_nx, tryA_rt, only_rt, x_xe, x_xf, xf_ok, x_xi, x_xtup, x_xand, x_xnil, x_xcons, x_hret, x_hif, isX_eq, asStr_str, tm_starts, seq_s,
  rd_dv, rd_ov, rd_vw, dat_d, dat_lst, sdat_fv, sdat_obj, toD_sv, toB_dv, toI_dv, mode_f, mode_t, mode_o, mode_v, cd_int, cd_str, cd_bl, cd_non, seq_d, seq_t, seq_o, seq_v, asgNF_sv, retF_sv, sq_nx, sq_rt, sq_err, sq_bk, sq_ct, try_err, try_nx, try_rt, try2_err, try2_nx, try2_rt, try3_err, try3_nx, try3_rt, toR_nx, toR_rt, toR_err, R.bind_ok, R.bind_err, R.bind_bad, R.sr_ok, R.sr_err, R.sr_bad, R.gr_ok, R.gr_err, R.gr_bad,
  o_add, o_sub, o_lt, o_le, o_gt, o_ge, o_eqI, o_neI, o_eqS, o_neS, o_eqB, o_neB, o_is, o_isnot, o_isb, o_notb, k_lenL, k_lenT, k_lenS, k_abs, k_int, k_intB, k_listL, k_listT, k_tupL, k_tupT, k_sum, k_lenset, k_range1, o_shr, o_band, rngVF_dv, k_all, k_any, k_max2, k_min2, k_maxL, k_minL, D.isNon, truD,
  getV, List.getElem?_cons_zero, List.getElem?_cons_succ, List.set_cons_zero, List.set_cons_succ, List.length_cons, List.length_nil, if_true, if_false, Bool.not_true, Bool.not_false, Bool.true_and, Bool.false_and, Bool.and_true, Bool.and_false, reduceIte, reduceCtorEq, Nat.reduceAdd, Nat.reduceSub, Nat.reduceLeDiff, Nat.zero_add, wipeE, startE, padE, List.cons_append, List.nil_append, List.replicate_succ, List.replicate_zero, asgFF, frzF, retOF, SV.isBrw, decide_true, decide_false, Bool.true_eq, Bool.false_eq_true, bool_if_true, bool_if_false, ofString_inj, ofString_beq, String.reduceEq, sq_bad, toR_bad, toI_bad, true_and, and_true, Nat.reduceLT, List.lookup_cons, List.lookup_nil, Int.reduceLT, Int.reduceLE, Int.reduceAdd, Int.reduceSub, Int.reduceMul, Int.reduceNeg, Int.reduceMod, Int.reduceDiv, Int.reducePow, Int.reduceToNat, Int.reduceEq, and_join, or_join, andT_join, orT_join, ixT0, ixT1, ixT2, ixT3, ixT4, ixT5, ixT6, ixL0, ixL1, ixL2, ixL3, ixL4, ixL5, ixL6, wr_nx, wr_ct, wr_bk, wr_rt, wr_err, wr_bad, wr_ite, try_ite, q_ixL, q_ixT, q_ixS, q_ixLast, o_mul, q_mulE, q_mulER, any_rep, q_mulLl, q_mulRl, q_divl, q_modl, q_div, q_mod, q_pow, q_appendM, q_append0, q_append, q_lrg, q_lzip, q_insertM, q_insert, q_line, q_line', q_mil, q_rng1, q_rng2, q_rng3, q_rep1, q_addL, List.length_map, List.length_append, map_snoc, Int.zero_add, getL, getP, putP, extF, forS, lcS, quiet_okS, quiet_ite, q_fldv, fldO_obj, fldO_ins, fvR_d, fvR_lst, dvR_some, augF, selfF, toI_dv, lentR, RV.noL, List.mem_cons, List.not_mem_nil, or_false, true_or, or_true, lk_yes, rng_len, List.length_range, List.length_range', Int.sub_add_cancel, Int.add_sub_cancel, List.length_replicate, Bool.or_false, Bool.or_true, Bool.true_or, Bool.false_or, and_self, Int.toNat_natCast, q_cast, x_seqb', x_lend', lendO_lst, seqbO_brw, i_nb, i_bb, i_ib, i_sb, i_tb, i_lb, i_ns, i_is, i_ss, i_ts, i_ls, i_ni, i_ii, i_ti, i_li, i_tl, i_ll, i_tt, i_lt, eq_self, Bool.not_not, not_true_eq_false, not_false_eq_true, kit_bool, Bool.true_beq, Bool.false_beq, beq_self_eq_true, only_ite, tryA_ite, sq_ite, bind_ite, sr_ite, gr_ite, toR_ite, toI_ite, toI_nx, toI_err, getO_x, putX, Bool.not_eq_true', me_parts, me_first, rd_fold, rf_ways, rf_over, rf_trains, encSt_tup, x_gtup_st, ixSt0, ixSt1, ixSt2, o_eqSg, o_neSg, q_inSt, q_inSl, q_notinSl, isNon_encFt, sg_fold, x_gtup_sg, ixSg0, ixSg1, ixSg2, lo_fold, tn_fold, ms_len, hs_len, br_len, bs_len, fl_segments, fl_metres, fl_heights, fl_begins, fl_brakes, me_total, me_blocks, me_metre, me_height, me_begin, me_brake, me_end, me_cm, me_cb, ft_length, ft_friction, ft_brake, ft_lift, ft_drive, ixTr0, ixTr1, ixTr2, ixTr3, ixTr4, encO_none, encO_some, isNon_encO, repI, repN, consI, q_slF, q_slM, q_slT, zipD_zip, q_inI, are_a_round, are_segments, place_metres, *])
def b_Layout___init__ : P .s :=
  (.sq (.ifS (.orT (.notT (.tru (.call [true] m__are_segments (.mcons true (.var 1) .mnil)))) (.notT (.tru (.call [true] m__are_a_round (.mcons true (.var 1) .mnil))))) (.raise 2) .skip)
  (.sq (.asgF 0 0 "segments" (.cb .tuple (.rcons (.var 1) .rnil)))
  (.sq (.asgF 0 0 "_metres" (.lst .anil))
  (.sq (.asgF 0 0 "_heights" (.lst .anil))
  (.sq (.asgF 0 0 "_begins" (.lst (.acons (.c (.int 0)) .anil)))
  (.sq (.asgF 0 0 "_brakes" (.lst .anil))
  (.selfS 0 0 "_place_metres" [] m_Layout__place_metres .mnil)))))))
def m_Layout___init__ : List D → R (List (Str × FV)) := runI 0 2 [true] b_Layout___init__
--spec layout_init
theorem layout_init {l : List Sg} (h : l.length ≤ 100000) : m_Layout___init__ [.lst (l.map encS)] = if loOk l = true then .ok (loV l (pls l)) else .err 2 none := by
  unfold m_Layout___init__ runI b_Layout___init__
  unfold loOk
  cases h1 : segsOk l with
  | false => walk_at "all"
  | true =>
    cases h2 : roundOk l with
    | false => walk_at "all"
    | true =>
      have h3 := (mlen_tot h1).1
      have h4 := round_tot h2
      have h5 : mlen l ≤ 4000 := by omega
      walk_at "all"
end Lw
end

section
set_option Elab.async false
set_option linter.all false
set_option maxRecDepth 100000
set_option maxHeartbeats 4000000
namespace Lw
open PySem PySem.Spec PyProof.Rows L2 Ci
open Evl (Ex ex_t ex_l sq_of st_of)
local macro_rules | `(tactic| walk_at "run") => `(tactic| simp -implicitDefEqProofs (disch := first | assumption | decide | omega | (simp only [List.length_replicate, List.length_map, List.length_range, List.length_append, List.length_cons, List.length_nil, List.length_take, List.length_drop, List.length_singleton, rollL_len] <;> omega) | fail) only [x_var, x_c, x_kt, x_bin, x_neg, x_andV, x_orV, x_notV, x_chain, x_chain3, x_ife, x_tup, x_lst, x_fld, x_sl, x_cb, x_isi, x_call, x_meth, x_make, x_lc, x_lc2, x_rngv, x_anil, x_acons, x_rnil, x_rcons, x_mnil, x_mcons, x_tst, x_tru, x_andT, x_orT, x_notT, x_yes, x_noP, x_someP, x_seq, x_rng1, x_rng2, x_rng3, x_zip, x_enum, enumF_lst, enumF_tup, x_augI, x_rev, zipF_lst, zipF_tup, revF_lst, x_gname, x_gtup, x_gtl, x_gnil, x_gcons, x_skip, x_sq, x_asgN, x_asgG, x_asgF, x_asgI, x_mut, x_ext, x_lrg, x_nix, x_nset, getN_f, getN_t, putN_f, putN_t, toL_ov, x_popD, x_popG, x_aug, x_drop, x_ret, x_retO, x_retN, x_brk, x_cont, x_raise, x_ifS, x_for, x_while, x_try, x_try2, x_try3, x_frz, x_kill, x_selfS, x_tm, x_fn, x_callv, isFn_d, x_fmt, x_fstr, x_fnil, x_fcons, x_enumK, x_raiseF, x_tryA, tryA_err, tryA_nx, tryA_rt, only_rt, x_xe, x_xf, xf_ok, x_xi, x_xtup, x_xand, x_xnil, x_xcons, x_hret, x_hif, isX_eq, asStr_str, tm_starts, seq_s,
  rd_dv, rd_ov, rd_vw, dat_d, dat_lst, sdat_fv, sdat_obj, toD_sv, toB_dv, toI_dv, mode_f, mode_t, mode_o, mode_v, cd_int, cd_str, cd_bl, cd_non, seq_d, seq_t, seq_o, seq_v, asgNF_sv, retF_sv, sq_nx, sq_rt, sq_err, sq_bk, sq_ct, try_err, try_nx, try_rt, try2_err, try2_nx, try2_rt, try3_err, try3_nx, try3_rt, toR_nx, toR_rt, toR_err, R.bind_ok, R.bind_err, R.bind_bad, R.sr_ok, R.sr_err, R.sr_bad, R.gr_ok, R.gr_err, R.gr_bad,
  o_add, o_sub, o_lt, o_le, o_gt, o_ge, o_eqI, o_neI, o_eqS, o_neS, o_eqB, o_neB, o_is, o_isnot, o_isb, o_notb, k_lenL, k_lenT, k_lenS, k_abs, k_int, k_intB, k_listL, k_listT, k_tupL, k_tupT, k_sum, k_lenset, k_range1, o_shr, o_band, rngVF_dv, k_all, k_any, k_max2, k_min2, k_maxL, k_minL, D.isNon, truD,
  getV, List.getElem?_cons_zero, List.getElem?_cons_succ, List.set_cons_zero, List.set_cons_succ, List.length_cons, List.length_nil, if_true, if_false, Bool.not_true, Bool.not_false, Bool.true_and, Bool.false_and, Bool.and_true, Bool.and_false, reduceIte, reduceCtorEq, Nat.reduceAdd, Nat.reduceSub, Nat.reduceLeDiff, Nat.zero_add, wipeE, startE, padE, List.cons_append, List.nil_append, List.replicate_succ, List.replicate_zero, asgFF, frzF, retOF, SV.isBrw, decide_true, decide_false, Bool.true_eq, Bool.false_eq_true, bool_if_true, bool_if_false, ofString_inj, ofString_beq, String.reduceEq, sq_bad, toR_bad, toI_bad, true_and, and_true, Nat.reduceLT, List.lookup_cons, List.lookup_nil, Int.reduceLT, Int.reduceLE, Int.reduceAdd, Int.reduceSub, Int.reduceMul, Int.reduceNeg, Int.reduceMod, Int.reduceDiv, Int.reducePow, Int.reduceToNat, Int.reduceEq, and_join, or_join, andT_join, orT_join, ixT0, ixT1, ixT2, ixT3, ixT4, ixT5, ixT6, ixL0, ixL1, ixL2, ixL3, ixL4, ixL5, ixL6, wr_nx, wr_ct, wr_bk, wr_rt, wr_err, wr_bad, wr_ite, try_ite, q_ixL, q_ixT, q_ixS, q_ixLast, o_mul, q_mulE, q_mulER, any_rep, q_mulLl, q_mulRl, q_divl, q_modl, q_div, q_mod, q_pow, q_appendM, q_append0, q_append, q_lrg, q_lzip, q_insertM, q_insert, q_line, q_line', q_mil, q_rng1, q_rng2, q_rng3, q_rep1, q_addL, List.length_map, List.length_append, map_snoc, Int.zero_add, getL, getP, putP, extF, forS, lcS, quiet_okS, quiet_ite, q_fldv, fldO_obj, fldO_ins, fvR_d, fvR_lst, dvR_some, augF, selfF, toI_dv, lentR, RV.noL, List.mem_cons, List.not_mem_nil, or_false, true_or, or_true, lk_yes, rng_len, List.length_range, List.length_range', Int.sub_add_cancel, Int.add_sub_cancel, List.length_replicate, Bool.or_false, Bool.or_true, Bool.true_or, Bool.false_or, and_self, Int.toNat_natCast, q_cast, x_seqb', x_lend', lendO_lst, seqbO_brw, i_nb, i_bb, i_ib, i_sb, i_tb, i_lb, i_ns, i_is, i_ss, i_ts, i_ls, i_ni, i_ii, i_ti, i_li, i_tl, i_ll, i_tt, i_lt, eq_self, Bool.not_not, not_true_eq_false, not_false_eq_true, kit_bool, Bool.true_beq, Bool.false_beq, beq_self_eq_true, only_ite, tryA_ite, sq_ite, bind_ite, sr_ite, gr_ite, toR_ite, toI_ite, toI_nx, toI_err, getO_x, putX, Bool.not_eq_true', me_parts, me_first, rd_fold, rf_ways, rf_over, rf_trains, encSt_tup, x_gtup_st, ixSt0, ixSt1, ixSt2, o_eqSg, o_neSg, q_inSt, q_inSl, q_notinSl, isNon_encFt, sg_fold, x_gtup_sg, ixSg0, ixSg1, ixSg2, lo_fold, tn_fold, ms_len, hs_len, br_len, bs_len, fl_segments, fl_metres, fl_heights, fl_begins, fl_brakes, me_total, me_blocks, me_metre, me_height, me_begin, me_brake, me_end, me_cm, me_cb, ft_length, ft_friction, ft_brake, ft_lift, ft_drive, ixTr0, ixTr1, ixTr2, ixTr3, ixTr4, encO_none, encO_some, isNon_encO, repI, repN, consI, q_slF, q_slM, q_slT, zipD_zip, q_inI])
def b_Layout_total : P .s :=
  (.ret (.cb .len (.rcons (.fldv [0] 0 "_metres") .rnil)))
def m_Layout_total : List D → R RV := runF 1 [false] b_Layout_total
--spec lo_total
theorem lo_total {l : List Sg} : m_Layout_total [loD l] = .ok (dv (.int (nMet l))) := by
  unfold m_Layout_total runF b_Layout_total
  walk_at "run"
end Lw
end

section
set_option Elab.async false
set_option linter.all false
set_option maxRecDepth 100000
set_option maxHeartbeats 4000000
namespace Lw
open PySem PySem.Spec PyProof.Rows L2 Ci
open Evl (Ex ex_t ex_l sq_of st_of)
local macro_rules | `(tactic| walk_at "run") => `(tactic| simp -implicitDefEqProofs (disch := first | assumption | decide | omega | (simp only [List.length_replicate, List.length_map, List.length_range, List.length_append, List.length_cons, List.length_nil, List.length_take, List.length_drop, List.length_singleton, rollL_len] <;> omega) | fail) only [x_var, x_c, x_kt, x_bin, x_neg, x_andV, x_orV, x_notV, x_chain, x_chain3, x_ife, x_tup, x_lst, x_fld, x_sl, x_cb, x_isi, x_call, x_meth, x_make, x_lc, x_lc2, x_rngv, x_anil, x_acons, x_rnil, x_rcons, x_mnil, x_mcons, x_tst, x_tru, x_andT, x_orT, x_notT, x_yes, x_noP, x_someP, x_seq, x_rng1, x_rng2, x_rng3, x_zip, x_enum, enumF_lst, enumF_tup, x_augI, x_rev, zipF_lst, zipF_tup, revF_lst, x_gname, x_gtup, x_gtl, x_gnil, x_gcons, x_skip, x_sq, x_asgN, x_asgG, x_asgF, x_asgI, x_mut, x_ext, x_lrg, x_nix, x_nset, getN_f, getN_t, putN_f, putN_t, toL_ov, x_popD, x_popG, x_aug, x_drop, x_ret, x_retO, x_retN, x_brk, x_cont, x_raise, x_ifS, x_for, x_while, x_try, x_try2, x_try3, x_frz, x_kill, x_selfS, x_tm, x_fn, x_callv, isFn_d, x_fmt, x_fstr, x_fnil, x_fcons, x_enumK, x_raiseF, x_tryA, tryA_err, tryA_nx, tryA_rt, only_rt, x_xe, x_xf, xf_ok, x_xi, x_xtup, x_xand, x_xnil, x_xcons, x_hret, x_hif, isX_eq, asStr_str, tm_starts, seq_s,
  rd_dv, rd_ov, rd_vw, dat_d, dat_lst, sdat_fv, sdat_obj, toD_sv, toB_dv, toI_dv, mode_f, mode_t, mode_o, mode_v, cd_int, cd_str, cd_bl, cd_non, seq_d, seq_t, seq_o, seq_v, asgNF_sv, retF_sv, sq_nx, sq_rt, sq_err, sq_bk, sq_ct, try_err, try_nx, try_rt, try2_err, try2_nx, try2_rt, try3_err, try3_nx, try3_rt, toR_nx, toR_rt, toR_err, R.bind_ok, R.bind_err, R.bind_bad, R.sr_ok, R.sr_err, R.sr_bad, R.gr_ok, R.gr_err, R.gr_bad,
  o_add, o_sub, o_lt, o_le, o_gt, o_ge, o_eqI, o_neI, o_eqS, o_neS, o_eqB, o_neB, o_is, o_isnot, o_isb, o_notb, k_lenL, k_lenT, k_lenS, k_abs, k_int, k_intB, k_listL, k_listT, k_tupL, k_tupT, k_sum, k_lenset, k_range1, o_shr, o_band, rngVF_dv, k_all, k_any, k_max2, k_min2, k_maxL, k_minL, D.isNon, truD,
  getV, List.getElem?_cons_zero, List.getElem?_cons_succ, List.set_cons_zero, List.set_cons_succ, List.length_cons, List.length_nil, if_true, if_false, Bool.not_true, Bool.not_false, Bool.true_and, Bool.false_and, Bool.and_true, Bool.and_false, reduceIte, reduceCtorEq, Nat.reduceAdd, Nat.reduceSub, Nat.reduceLeDiff, Nat.zero_add, wipeE, startE, padE, List.cons_append, List.nil_append, List.replicate_succ, List.replicate_zero, asgFF, frzF, retOF, SV.isBrw, decide_true, decide_false, Bool.true_eq, Bool.false_eq_true, bool_if_true, bool_if_false, ofString_inj, ofString_beq, String.reduceEq, sq_bad, toR_bad, toI_bad, true_and, and_true, Nat.reduceLT, List.lookup_cons, List.lookup_nil, Int.reduceLT, Int.reduceLE, Int.reduceAdd, Int.reduceSub, Int.reduceMul, Int.reduceNeg, Int.reduceMod, Int.reduceDiv, Int.reducePow, Int.reduceToNat, Int.reduceEq, and_join, or_join, andT_join, orT_join, ixT0, ixT1, ixT2, ixT3, ixT4, ixT5, ixT6, ixL0, ixL1, ixL2, ixL3, ixL4, ixL5, ixL6, wr_nx, wr_ct, wr_bk, wr_rt, wr_err, wr_bad, wr_ite, try_ite, q_ixL, q_ixT, q_ixS, q_ixLast, o_mul, q_mulE, q_mulER, any_rep, q_mulLl, q_mulRl, q_divl, q_modl, q_div, q_mod, q_pow, q_appendM, q_append0, q_append, q_lrg, q_lzip, q_insertM, q_insert, q_line, q_line', q_mil, q_rng1, q_rng2, q_rng3, q_rep1, q_addL, List.length_map, List.length_append, map_snoc, Int.zero_add, getL, getP, putP, extF, forS, lcS, quiet_okS, quiet_ite, q_fldv, fldO_obj, fldO_ins, fvR_d, fvR_lst, dvR_some, augF, selfF, toI_dv, lentR, RV.noL, List.mem_cons, List.not_mem_nil, or_false, true_or, or_true, lk_yes, rng_len, List.length_range, List.length_range', Int.sub_add_cancel, Int.add_sub_cancel, List.length_replicate, Bool.or_false, Bool.or_true, Bool.true_or, Bool.false_or, and_self, Int.toNat_natCast, q_cast, x_seqb', x_lend', lendO_lst, seqbO_brw, i_nb, i_bb, i_ib, i_sb, i_tb, i_lb, i_ns, i_is, i_ss, i_ts, i_ls, i_ni, i_ii, i_ti, i_li, i_tl, i_ll, i_tt, i_lt, eq_self, Bool.not_not, not_true_eq_false, not_false_eq_true, kit_bool, Bool.true_beq, Bool.false_beq, beq_self_eq_true, only_ite, tryA_ite, sq_ite, bind_ite, sr_ite, gr_ite, toR_ite, toI_ite, toI_nx, toI_err, getO_x, putX, Bool.not_eq_true', me_parts, me_first, rd_fold, rf_ways, rf_over, rf_trains, encSt_tup, x_gtup_st, ixSt0, ixSt1, ixSt2, o_eqSg, o_neSg, q_inSt, q_inSl, q_notinSl, isNon_encFt, sg_fold, x_gtup_sg, ixSg0, ixSg1, ixSg2, lo_fold, tn_fold, ms_len, hs_len, br_len, bs_len, fl_segments, fl_metres, fl_heights, fl_begins, fl_brakes, me_total, me_blocks, me_metre, me_height, me_begin, me_brake, me_end, me_cm, me_cb, ft_length, ft_friction, ft_brake, ft_lift, ft_drive, ixTr0, ixTr1, ixTr2, ixTr3, ixTr4, encO_none, encO_some, isNon_encO, repI, repN, consI, q_slF, q_slM, q_slT, zipD_zip, q_inI])
def b_Layout_blocks : P .s :=
  (.ret (.cb .len (.rcons (.fldv [0] 0 "_brakes") .rnil)))
def m_Layout_blocks : List D → R RV := runF 1 [false] b_Layout_blocks
--spec lo_blocks
theorem lo_blocks {l : List Sg} : m_Layout_blocks [loD l] = .ok (dv (.int (nBlk l))) := by
  unfold m_Layout_blocks runF b_Layout_blocks
  walk_at "run"
end Lw
end

section
set_option Elab.async false
set_option linter.all false
set_option maxRecDepth 100000
set_option maxHeartbeats 4000000
namespace Lw
open PySem PySem.Spec PyProof.Rows L2 Ci
open Evl (Ex ex_t ex_l sq_of st_of)
local macro_rules | `(tactic| walk_at "all") => `(tactic| simp -implicitDefEqProofs (disch := first | assumption | decide | omega | (simp only [List.length_replicate, List.length_map, List.length_range, List.length_append, List.length_cons, List.length_nil, List.length_take, List.length_drop, List.length_singleton, rollL_len] <;> omega) | fail) only [x_var, x_c, x_kt, x_bin, x_neg, x_andV, x_orV, x_notV, x_chain, x_chain3, x_ife, x_tup, x_lst, x_fld, x_sl, x_cb, x_isi, x_call, x_meth, x_make, x_lc, x_lc2, x_rngv, x_anil, x_acons, x_rnil, x_rcons, x_mnil, x_mcons, x_tst, x_tru, x_andT, x_orT, x_notT, x_yes, x_noP, x_someP, x_seq, x_rng1, x_rng2, x_rng3, x_zip, x_enum, enumF_lst, enumF_tup, x_augI, x_rev, zipF_lst, zipF_tup, revF_lst, x_gname, x_gtup, x_gtl, x_gnil, x_gcons, x_skip, x_sq, x_asgN, x_asgG, x_asgF, x_asgI, x_mut, x_ext, x_lrg, x_nix, x_nset, getN_f, getN_t, putN_f, putN_t, toL_ov, x_popD, x_popG, x_aug, x_drop, x_ret, x_retO, x_retN, x_brk, x_cont, x_raise, x_ifS, x_for, x_while, x_try, x_try2, x_try3, x_frz, x_kill, x_selfS, x_tm, x_fn, x_callv, isFn_d, x_fmt, x_fstr, x_fnil, x_fcons, x_enumK, x_raiseF, x_tryA, tryA_err, tryA_nx, tryA_rt, only_rt, x_xe, x_xf, xf_ok, x_xi, x_xtup, x_xand, x_xnil, x_xcons, x_hret, x_hif, isX_eq, asStr_str, tm_starts, seq_s,
  rd_dv, rd_ov, rd_vw, dat_d, dat_lst, sdat_fv, sdat_obj, toD_sv, toB_dv, toI_dv, mode_f, mode_t, mode_o, mode_v, cd_int, cd_str, cd_bl, cd_non, seq_d, seq_t, seq_o, seq_v, asgNF_sv, retF_sv, sq_nx, sq_rt, sq_err, sq_bk, sq_ct, try_err, try_nx, try_rt, try2_err, try2_nx, try2_rt, try3_err, try3_nx, try3_rt, toR_nx, toR_rt, toR_err, R.bind_ok, R.bind_err, R.bind_bad, R.sr_ok, R.sr_err, R.sr_bad, R.gr_ok, R.gr_err, R.gr_bad,
  o_add, o_sub, o_lt, o_le, o_gt, o_ge, o_eqI, o_neI, o_eqS, o_neS, o_eqB, o_neB, o_is, o_isnot, o_isb, o_notb, k_lenL, k_lenT, k_lenS, k_abs, k_int, k_intB, k_listL, k_listT, k_tupL, k_tupT, k_sum, k_lenset, k_range1, o_shr, o_band, rngVF_dv, k_all, k_any, k_max2, k_min2, k_maxL, k_minL, D.isNon, truD,
  getV, List.getElem?_cons_zero, List.getElem?_cons_succ, List.set_cons_zero, List.set_cons_succ, List.length_cons, List.length_nil, if_true, if_false, Bool.not_true, Bool.not_false, Bool.true_and, Bool.false_and, Bool.and_true, Bool.and_false, reduceIte, reduceCtorEq, Nat.reduceAdd, Nat.reduceSub, Nat.reduceLeDiff, Nat.zero_add, wipeE, startE, padE, List.cons_append, List.nil_append, List.replicate_succ, List.replicate_zero, asgFF, frzF, retOF, SV.isBrw, decide_true, decide_false, Bool.true_eq, Bool.false_eq_true, bool_if_true, bool_if_false, ofString_inj, ofString_beq, String.reduceEq, sq_bad, toR_bad, toI_bad, true_and, and_true, Nat.reduceLT, List.lookup_cons, List.lookup_nil, Int.reduceLT, Int.reduceLE, Int.reduceAdd, Int.reduceSub, Int.reduceMul, Int.reduceNeg, Int.reduceMod, Int.reduceDiv, Int.reducePow, Int.reduceToNat, Int.reduceEq, and_join, or_join, andT_join, orT_join, ixT0, ixT1, ixT2, ixT3, ixT4, ixT5, ixT6, ixL0, ixL1, ixL2, ixL3, ixL4, ixL5, ixL6, wr_nx, wr_ct, wr_bk, wr_rt, wr_err, wr_bad, wr_ite, try_ite, q_ixL, q_ixT, q_ixS, q_ixLast, o_mul, q_mulE, q_mulER, any_rep, q_mulLl, q_mulRl, q_divl, q_modl, q_div, q_mod, q_pow, q_appendM, q_append0, q_append, q_lrg, q_lzip, q_insertM, q_insert, q_line, q_line', q_mil, q_rng1, q_rng2, q_rng3, q_rep1, q_addL, List.length_map, List.length_append, map_snoc, Int.zero_add, getL, getP, putP, extF, forS, lcS, quiet_okS, quiet_ite, q_fldv, fldO_obj, fldO_ins, fvR_d, fvR_lst, dvR_some, augF, selfF, toI_dv, lentR, RV.noL, List.mem_cons, List.not_mem_nil, or_false, true_or, or_true, lk_yes, rng_len, List.length_range, List.length_range', Int.sub_add_cancel, Int.add_sub_cancel, List.length_replicate, Bool.or_false, Bool.or_true, Bool.true_or, Bool.false_or, and_self, Int.toNat_natCast, q_cast, x_seqb', x_lend', lendO_lst, seqbO_brw, i_nb, i_bb, i_ib, i_sb, i_tb, i_lb, i_ns, i_is, i_ss, i_ts, i_ls, i_ni, i_ii, i_ti, i_li, i_tl, i_ll, i_tt, i_lt, eq_self, Bool.not_not, not_true_eq_false, not_false_eq_true, kit_bool, Bool.true_beq, Bool.false_beq, beq_self_eq_true, only_ite, tryA_ite, sq_ite, bind_ite, sr_ite, gr_ite, toR_ite, toI_ite, toI_nx, toI_err, getO_x, putX, Bool.not_eq_true', me_parts, me_first, rd_fold, rf_ways, rf_over, rf_trains, encSt_tup, x_gtup_st, ixSt0, ixSt1, ixSt2, o_eqSg, o_neSg, q_inSt, q_inSl, q_notinSl, isNon_encFt, sg_fold, x_gtup_sg, ixSg0, ixSg1, ixSg2, lo_fold, tn_fold, ms_len, hs_len, br_len, bs_len, fl_segments, fl_metres, fl_heights, fl_begins, fl_brakes, me_total, me_blocks, me_metre, me_height, me_begin, me_brake, me_end, me_cm, me_cb, ft_length, ft_friction, ft_brake, ft_lift, ft_drive, ixTr0, ixTr1, ixTr2, ixTr3, ixTr4, encO_none, encO_some, isNon_encO, repI, repN, consI, q_slF, q_slM, q_slT, zipD_zip, q_inI, lo_total, *])
def b_Layout__check_metre : P .s :=
  (.ifS (.notT (.tst (.chain .le .lt (.c (.int 0)) (.var 1) (.meth 0 "total" [] m_Layout_total (.var 0) .mnil)))) (.raise 1) .skip)
def m_Layout__check_metre : List D → R RV := runF 2 [false, false] b_Layout__check_metre
--spec lo_cm lo_cmx
theorem lo_cm {l : List Sg} {n : Int} (h0 : 0 ≤ n) (h1 : n < (nMet l : Nat)) : m_Layout__check_metre [loD l, .int n] = .ok (dv .non) := by
  have hd : (decide (0 ≤ n) && decide (n < (nMet l : Nat))) = true := by simp; omega
  unfold m_Layout__check_metre runF b_Layout__check_metre
  walk_at "all"
theorem lo_cmx {l : List Sg} {n : Int} (h : n < 0 ∨ (nMet l : Nat) ≤ n) : m_Layout__check_metre [loD l, .int n] = .err 1 none := by
  have hd : (decide (0 ≤ n) && decide (n < (nMet l : Nat))) = false := by simp; omega
  unfold m_Layout__check_metre runF b_Layout__check_metre
  walk_at "all"
end Lw
end

section
set_option Elab.async false
set_option linter.all false
set_option maxRecDepth 100000
set_option maxHeartbeats 4000000
namespace Lw
open PySem PySem.Spec PyProof.Rows L2 Ci
open Evl (Ex ex_t ex_l sq_of st_of)
local macro_rules | `(tactic| walk_at "run") => `(tactic| simp -implicitDefEqProofs (disch := first | assumption | decide | omega | (simp only [List.length_replicate, List.length_map, List.length_range, List.length_append, List.length_cons, List.length_nil, List.length_take, List.length_drop, List.length_singleton, rollL_len] <;> omega) | fail) only [x_var, x_c, x_kt, x_bin, x_neg, x_andV, x_orV, x_notV, x_chain, x_chain3, x_ife, x_tup, x_lst, x_fld, x_sl, x_cb, x_isi, x_call, x_meth, x_make, x_lc, x_lc2, x_rngv, x_anil, x_acons, x_rnil, x_rcons, x_mnil, x_mcons, x_tst, x_tru, x_andT, x_orT, x_notT, x_yes, x_noP, x_someP, x_seq, x_rng1, x_rng2, x_rng3, x_zip, x_enum, enumF_lst, enumF_tup, x_augI, x_rev, zipF_lst, zipF_tup, revF_lst, x_gname, x_gtup, x_gtl, x_gnil, x_gcons, x_skip, x_sq, x_asgN, x_asgG, x_asgF, x_asgI, x_mut, x_ext, x_lrg, x_nix, x_nset, getN_f, getN_t, putN_f, putN_t, toL_ov, x_popD, x_popG, x_aug, x_drop, x_ret, x_retO, x_retN, x_brk, x_cont, x_raise, x_ifS, x_for, x_while, x_try, x_try2, x_try3, x_frz, x_kill, x_selfS, x_tm, x_fn, x_callv, isFn_d, x_fmt, x_fstr, x_fnil, x_fcons, x_enumK, x_raiseF, x_tryA, tryA_err, tryA_nx, tryA_rt, only_rt, x_xe, x_xf, xf_ok, x_xi, x_xtup, x_xand, x_xnil, x_xcons, x_hret, x_hif, isX_eq, asStr_str, tm_starts, seq_s,
  rd_dv, rd_ov, rd_vw, dat_d, dat_lst, sdat_fv, sdat_obj, toD_sv, toB_dv, toI_dv, mode_f, mode_t, mode_o, mode_v, cd_int, cd_str, cd_bl, cd_non, seq_d, seq_t, seq_o, seq_v, asgNF_sv, retF_sv, sq_nx, sq_rt, sq_err, sq_bk, sq_ct, try_err, try_nx, try_rt, try2_err, try2_nx, try2_rt, try3_err, try3_nx, try3_rt, toR_nx, toR_rt, toR_err, R.bind_ok, R.bind_err, R.bind_bad, R.sr_ok, R.sr_err, R.sr_bad, R.gr_ok, R.gr_err, R.gr_bad,
  o_add, o_sub, o_lt, o_le, o_gt, o_ge, o_eqI, o_neI, o_eqS, o_neS, o_eqB, o_neB, o_is, o_isnot, o_isb, o_notb, k_lenL, k_lenT, k_lenS, k_abs, k_int, k_intB, k_listL, k_listT, k_tupL, k_tupT, k_sum, k_lenset, k_range1, o_shr, o_band, rngVF_dv, k_all, k_any, k_max2, k_min2, k_maxL, k_minL, D.isNon, truD,
  getV, List.getElem?_cons_zero, List.getElem?_cons_succ, List.set_cons_zero, List.set_cons_succ, List.length_cons, List.length_nil, if_true, if_false, Bool.not_true, Bool.not_false, Bool.true_and, Bool.false_and, Bool.and_true, Bool.and_false, reduceIte, reduceCtorEq, Nat.reduceAdd, Nat.reduceSub, Nat.reduceLeDiff, Nat.zero_add, wipeE, startE, padE, List.cons_append, List.nil_append, List.replicate_succ, List.replicate_zero, asgFF, frzF, retOF, SV.isBrw, decide_true, decide_false, Bool.true_eq, Bool.false_eq_true, bool_if_true, bool_if_false, ofString_inj, ofString_beq, String.reduceEq, sq_bad, toR_bad, toI_bad, true_and, and_true, Nat.reduceLT, List.lookup_cons, List.lookup_nil, Int.reduceLT, Int.reduceLE, Int.reduceAdd, Int.reduceSub, Int.reduceMul, Int.reduceNeg, Int.reduceMod, Int.reduceDiv, Int.reducePow, Int.reduceToNat, Int.reduceEq, and_join, or_join, andT_join, orT_join, ixT0, ixT1, ixT2, ixT3, ixT4, ixT5, ixT6, ixL0, ixL1, ixL2, ixL3, ixL4, ixL5, ixL6, wr_nx, wr_ct, wr_bk, wr_rt, wr_err, wr_bad, wr_ite, try_ite, q_ixL, q_ixT, q_ixS, q_ixLast, o_mul, q_mulE, q_mulER, any_rep, q_mulLl, q_mulRl, q_divl, q_modl, q_div, q_mod, q_pow, q_appendM, q_append0, q_append, q_lrg, q_lzip, q_insertM, q_insert, q_line, q_line', q_mil, q_rng1, q_rng2, q_rng3, q_rep1, q_addL, List.length_map, List.length_append, map_snoc, Int.zero_add, getL, getP, putP, extF, forS, lcS, quiet_okS, quiet_ite, q_fldv, fldO_obj, fldO_ins, fvR_d, fvR_lst, dvR_some, augF, selfF, toI_dv, lentR, RV.noL, List.mem_cons, List.not_mem_nil, or_false, true_or, or_true, lk_yes, rng_len, List.length_range, List.length_range', Int.sub_add_cancel, Int.add_sub_cancel, List.length_replicate, Bool.or_false, Bool.or_true, Bool.true_or, Bool.false_or, and_self, Int.toNat_natCast, q_cast, x_seqb', x_lend', lendO_lst, seqbO_brw, i_nb, i_bb, i_ib, i_sb, i_tb, i_lb, i_ns, i_is, i_ss, i_ts, i_ls, i_ni, i_ii, i_ti, i_li, i_tl, i_ll, i_tt, i_lt, eq_self, Bool.not_not, not_true_eq_false, not_false_eq_true, kit_bool, Bool.true_beq, Bool.false_beq, beq_self_eq_true, only_ite, tryA_ite, sq_ite, bind_ite, sr_ite, gr_ite, toR_ite, toI_ite, toI_nx, toI_err, getO_x, putX, Bool.not_eq_true', me_parts, me_first, rd_fold, rf_ways, rf_over, rf_trains, encSt_tup, x_gtup_st, ixSt0, ixSt1, ixSt2, o_eqSg, o_neSg, q_inSt, q_inSl, q_notinSl, isNon_encFt, sg_fold, x_gtup_sg, ixSg0, ixSg1, ixSg2, lo_fold, tn_fold, ms_len, hs_len, br_len, bs_len, fl_segments, fl_metres, fl_heights, fl_begins, fl_brakes, me_total, me_blocks, me_metre, me_height, me_begin, me_brake, me_end, me_cm, me_cb, ft_length, ft_friction, ft_brake, ft_lift, ft_drive, ixTr0, ixTr1, ixTr2, ixTr3, ixTr4, encO_none, encO_some, isNon_encO, repI, repN, consI, q_slF, q_slM, q_slT, zipD_zip, q_inI, lo_cm, lo_cmx, lo_total])
def b_Layout_metre : P .s :=
  (.sq (.drop (.meth 0 "_check_metre" [false] m_Layout__check_metre (.var 0) (.mcons false (.var 1) .mnil)))
  (.ret (.bin .ix (.fldv [0] 0 "_metres") (.var 1))))
--spec lo_metre lo_metrex
end Lw
end

section
set_option Elab.async false
set_option linter.all false
set_option maxRecDepth 100000
set_option maxHeartbeats 4000000
namespace Lw
open PySem PySem.Spec PyProof.Rows L2 Ci
open Evl (Ex ex_t ex_l sq_of st_of)
local macro_rules | `(tactic| walk_at "run") => `(tactic| simp -implicitDefEqProofs (disch := first | assumption | decide | omega | (simp only [List.length_replicate, List.length_map, List.length_range, List.length_append, List.length_cons, List.length_nil, List.length_take, List.length_drop, List.length_singleton, rollL_len] <;> omega) | fail) only [x_var, x_c, x_kt, x_bin, x_neg, x_andV, x_orV, x_notV, x_chain, x_chain3, x_ife, x_tup, x_lst, x_fld, x_sl, x_cb, x_isi, x_call, x_meth, x_make, x_lc, x_lc2, x_rngv, x_anil, x_acons, x_rnil, x_rcons, x_mnil, x_mcons, x_tst, x_tru, x_andT, x_orT, x_notT, x_yes, x_noP, x_someP, x_seq, x_rng1, x_rng2, x_rng3, x_zip, x_enum, enumF_lst, enumF_tup, x_augI, x_rev, zipF_lst, zipF_tup, revF_lst, x_gname, x_gtup, x_gtl, x_gnil, x_gcons, x_skip, x_sq, x_asgN, x_asgG, x_asgF, x_asgI, x_mut, x_ext, x_lrg, x_nix, x_nset, getN_f, getN_t, putN_f, putN_t, toL_ov, x_popD, x_popG, x_aug, x_drop, x_ret, x_retO, x_retN, x_brk, x_cont, x_raise, x_ifS, x_for, x_while, x_try, x_try2, x_try3, x_frz, x_kill, x_selfS, x_tm, x_fn, x_callv, isFn_d, x_fmt, x_fstr, x_fnil, x_fcons, x_enumK, x_raiseF, x_tryA, tryA_err, tryA_nx, tryA_rt, only_rt, x_xe, x_xf, xf_ok, x_xi, x_xtup, x_xand, x_xnil, x_xcons, x_hret, x_hif, isX_eq, asStr_str, tm_starts, seq_s,
  rd_dv, rd_ov, rd_vw, dat_d, dat_lst, sdat_fv, sdat_obj, toD_sv, toB_dv, toI_dv, mode_f, mode_t, mode_o, mode_v, cd_int, cd_str, cd_bl, cd_non, seq_d, seq_t, seq_o, seq_v, asgNF_sv, retF_sv, sq_nx, sq_rt, sq_err, sq_bk, sq_ct, try_err, try_nx, try_rt, try2_err, try2_nx, try2_rt, try3_err, try3_nx, try3_rt, toR_nx, toR_rt, toR_err, R.bind_ok, R.bind_err, R.bind_bad, R.sr_ok, R.sr_err, R.sr_bad, R.gr_ok, R.gr_err, R.gr_bad,
  o_add, o_sub, o_lt, o_le, o_gt, o_ge, o_eqI, o_neI, o_eqS, o_neS, o_eqB, o_neB, o_is, o_isnot, o_isb, o_notb, k_lenL, k_lenT, k_lenS, k_abs, k_int, k_intB, k_listL, k_listT, k_tupL, k_tupT, k_sum, k_lenset, k_range1, o_shr, o_band, rngVF_dv, k_all, k_any, k_max2, k_min2, k_maxL, k_minL, D.isNon, truD,
  getV, List.getElem?_cons_zero, List.getElem?_cons_succ, List.set_cons_zero, List.set_cons_succ, List.length_cons, List.length_nil, if_true, if_false, Bool.not_true, Bool.not_false, Bool.true_and, Bool.false_and, Bool.and_true, Bool.and_false, reduceIte, reduceCtorEq, Nat.reduceAdd, Nat.reduceSub, Nat.reduceLeDiff, Nat.zero_add, wipeE, startE, padE, List.cons_append, List.nil_append, List.replicate_succ, List.replicate_zero, asgFF, frzF, retOF, SV.isBrw, decide_true, decide_false, Bool.true_eq, Bool.false_eq_true, bool_if_true, bool_if_false, ofString_inj, ofString_beq, String.reduceEq, sq_bad, toR_bad, toI_bad, true_and, and_true, Nat.reduceLT, List.lookup_cons, List.lookup_nil, Int.reduceLT, Int.reduceLE, Int.reduceAdd, Int.reduceSub, Int.reduceMul, Int.reduceNeg, Int.reduceMod, Int.reduceDiv, Int.reducePow, Int.reduceToNat, Int.reduceEq, and_join, or_join, andT_join, orT_join, ixT0, ixT1, ixT2, ixT3, ixT4, ixT5, ixT6, ixL0, ixL1, ixL2, ixL3, ixL4, ixL5, ixL6, wr_nx, wr_ct, wr_bk, wr_rt, wr_err, wr_bad, wr_ite, try_ite, q_ixL, q_ixT, q_ixS, q_ixLast, o_mul, q_mulE, q_mulER, any_rep, q_mulLl, q_mulRl, q_divl, q_modl, q_div, q_mod, q_pow, q_appendM, q_append0, q_append, q_lrg, q_lzip, q_insertM, q_insert, q_line, q_line', q_mil, q_rng1, q_rng2, q_rng3, q_rep1, q_addL, List.length_map, List.length_append, map_snoc, Int.zero_add, getL, getP, putP, extF, forS, lcS, quiet_okS, quiet_ite, q_fldv, fldO_obj, fldO_ins, fvR_d, fvR_lst, dvR_some, augF, selfF, toI_dv, lentR, RV.noL, List.mem_cons, List.not_mem_nil, or_false, true_or, or_true, lk_yes, rng_len, List.length_range, List.length_range', Int.sub_add_cancel, Int.add_sub_cancel, List.length_replicate, Bool.or_false, Bool.or_true, Bool.true_or, Bool.false_or, and_self, Int.toNat_natCast, q_cast, x_seqb', x_lend', lendO_lst, seqbO_brw, i_nb, i_bb, i_ib, i_sb, i_tb, i_lb, i_ns, i_is, i_ss, i_ts, i_ls, i_ni, i_ii, i_ti, i_li, i_tl, i_ll, i_tt, i_lt, eq_self, Bool.not_not, not_true_eq_false, not_false_eq_true, kit_bool, Bool.true_beq, Bool.false_beq, beq_self_eq_true, only_ite, tryA_ite, sq_ite, bind_ite, sr_ite, gr_ite, toR_ite, toI_ite, toI_nx, toI_err, getO_x, putX, Bool.not_eq_true', me_parts, me_first, rd_fold, rf_ways, rf_over, rf_trains, encSt_tup, x_gtup_st, ixSt0, ixSt1, ixSt2, o_eqSg, o_neSg, q_inSt, q_inSl, q_notinSl, isNon_encFt, sg_fold, x_gtup_sg, ixSg0, ixSg1, ixSg2, lo_fold, tn_fold, ms_len, hs_len, br_len, bs_len, fl_segments, fl_metres, fl_heights, fl_begins, fl_brakes, me_total, me_blocks, me_metre, me_height, me_begin, me_brake, me_end, me_cm, me_cb, ft_length, ft_friction, ft_brake, ft_lift, ft_drive, ixTr0, ixTr1, ixTr2, ixTr3, ixTr4, encO_none, encO_some, isNon_encO, repI, repN, consI, q_slF, q_slM, q_slT, zipD_zip, q_inI, lo_cm, lo_cmx, lo_total])
def b_Layout_height : P .s :=
  (.sq (.drop (.meth 0 "_check_metre" [false] m_Layout__check_metre (.var 0) (.mcons false (.var 1) .mnil)))
  (.ret (.bin .ix (.fldv [0] 0 "_heights") (.var 1))))
--spec lo_height lo_heightx
end Lw
end

section
set_option Elab.async false
set_option linter.all false
set_option maxRecDepth 100000
set_option maxHeartbeats 4000000
namespace Lw
open PySem PySem.Spec PyProof.Rows L2 Ci
open Evl (Ex ex_t ex_l sq_of st_of)
local macro_rules | `(tactic| walk_at "all") => `(tactic| simp -implicitDefEqProofs (disch := first | assumption | decide | omega | (simp only [List.length_replicate, List.length_map, List.length_range, List.length_append, List.length_cons, List.length_nil, List.length_take, List.length_drop, List.length_singleton, rollL_len] <;> omega) | fail) only [x_var, x_c, x_kt, x_bin, x_neg, x_andV, x_orV, x_notV, x_chain, x_chain3, x_ife, x_tup, x_lst, x_fld, x_sl, x_cb, x_isi, x_call, x_meth, x_make, x_lc, x_lc2, x_rngv, x_anil, x_acons, x_rnil, x_rcons, x_mnil, x_mcons, x_tst, x_tru, x_andT, x_orT, x_notT, x_yes, x_noP, x_someP, x_seq, x_rng1, x_rng2, x_rng3, x_zip, x_enum, enumF_lst, enumF_tup, x_augI, x_rev, zipF_lst, zipF_tup, revF_lst, x_gname, x_gtup, x_gtl, x_gnil, x_gcons, x_skip, x_sq, x_asgN, x_asgG, x_asgF, x_asgI, x_mut, x_ext, x_lrg, x_nix, x_nset, getN_f, getN_t, putN_f, putN_t, toL_ov, x_popD, x_popG, x_aug, x_drop, x_ret, x_retO, x_retN, x_brk, x_cont, x_raise, x_ifS, x_for, x_while, x_try, x_try2, x_try3, x_frz, x_kill, x_selfS, x_tm, x_fn, x_callv, isFn_d, x_fmt, x_fstr, x_fnil, x_fcons, x_enumK, x_raiseF, x_tryA, tryA_err, tryA_nx, tryA_rt, only_rt, x_xe, x_xf, xf_ok, x_xi, x_xtup, x_xand, x_xnil, x_xcons, x_hret, x_hif, isX_eq, asStr_str, tm_starts, seq_s,
  rd_dv, rd_ov, rd_vw, dat_d, dat_lst, sdat_fv, sdat_obj, toD_sv, toB_dv, toI_dv, mode_f, mode_t, mode_o, mode_v, cd_int, cd_str, cd_bl, cd_non, seq_d, seq_t, seq_o, seq_v, asgNF_sv, retF_sv, sq_nx, sq_rt, sq_err, sq_bk, sq_ct, try_err, try_nx, try_rt, try2_err, try2_nx, try2_rt, try3_err, try3_nx, try3_rt, toR_nx, toR_rt, toR_err, R.bind_ok, R.bind_err, R.bind_bad, R.sr_ok, R.sr_err, R.sr_bad, R.gr_ok, R.gr_err, R.gr_bad,
  o_add, o_sub, o_lt, o_le, o_gt, o_ge, o_eqI, o_neI, o_eqS, o_neS, o_eqB, o_neB, o_is, o_isnot, o_isb, o_notb, k_lenL, k_lenT, k_lenS, k_abs, k_int, k_intB, k_listL, k_listT, k_tupL, k_tupT, k_sum, k_lenset, k_range1, o_shr, o_band, rngVF_dv, k_all, k_any, k_max2, k_min2, k_maxL, k_minL, D.isNon, truD,
  getV, List.getElem?_cons_zero, List.getElem?_cons_succ, List.set_cons_zero, List.set_cons_succ, List.length_cons, List.length_nil, if_true, if_false, Bool.not_true, Bool.not_false, Bool.true_and, Bool.false_and, Bool.and_true, Bool.and_false, reduceIte, reduceCtorEq, Nat.reduceAdd, Nat.reduceSub, Nat.reduceLeDiff, Nat.zero_add, wipeE, startE, padE, List.cons_append, List.nil_append, List.replicate_succ, List.replicate_zero, asgFF, frzF, retOF, SV.isBrw, decide_true, decide_false, Bool.true_eq, Bool.false_eq_true, bool_if_true, bool_if_false, ofString_inj, ofString_beq, String.reduceEq, sq_bad, toR_bad, toI_bad, true_and, and_true, Nat.reduceLT, List.lookup_cons, List.lookup_nil, Int.reduceLT, Int.reduceLE, Int.reduceAdd, Int.reduceSub, Int.reduceMul, Int.reduceNeg, Int.reduceMod, Int.reduceDiv, Int.reducePow, Int.reduceToNat, Int.reduceEq, and_join, or_join, andT_join, orT_join, ixT0, ixT1, ixT2, ixT3, ixT4, ixT5, ixT6, ixL0, ixL1, ixL2, ixL3, ixL4, ixL5, ixL6, wr_nx, wr_ct, wr_bk, wr_rt, wr_err, wr_bad, wr_ite, try_ite, q_ixL, q_ixT, q_ixS, q_ixLast, o_mul, q_mulE, q_mulER, any_rep, q_mulLl, q_mulRl, q_divl, q_modl, q_div, q_mod, q_pow, q_appendM, q_append0, q_append, q_lrg, q_lzip, q_insertM, q_insert, q_line, q_line', q_mil, q_rng1, q_rng2, q_rng3, q_rep1, q_addL, List.length_map, List.length_append, map_snoc, Int.zero_add, getL, getP, putP, extF, forS, lcS, quiet_okS, quiet_ite, q_fldv, fldO_obj, fldO_ins, fvR_d, fvR_lst, dvR_some, augF, selfF, toI_dv, lentR, RV.noL, List.mem_cons, List.not_mem_nil, or_false, true_or, or_true, lk_yes, rng_len, List.length_range, List.length_range', Int.sub_add_cancel, Int.add_sub_cancel, List.length_replicate, Bool.or_false, Bool.or_true, Bool.true_or, Bool.false_or, and_self, Int.toNat_natCast, q_cast, x_seqb', x_lend', lendO_lst, seqbO_brw, i_nb, i_bb, i_ib, i_sb, i_tb, i_lb, i_ns, i_is, i_ss, i_ts, i_ls, i_ni, i_ii, i_ti, i_li, i_tl, i_ll, i_tt, i_lt, eq_self, Bool.not_not, not_true_eq_false, not_false_eq_true, kit_bool, Bool.true_beq, Bool.false_beq, beq_self_eq_true, only_ite, tryA_ite, sq_ite, bind_ite, sr_ite, gr_ite, toR_ite, toI_ite, toI_nx, toI_err, getO_x, putX, Bool.not_eq_true', me_parts, me_first, rd_fold, rf_ways, rf_over, rf_trains, encSt_tup, x_gtup_st, ixSt0, ixSt1, ixSt2, o_eqSg, o_neSg, q_inSt, q_inSl, q_notinSl, isNon_encFt, sg_fold, x_gtup_sg, ixSg0, ixSg1, ixSg2, lo_fold, tn_fold, ms_len, hs_len, br_len, bs_len, fl_segments, fl_metres, fl_heights, fl_begins, fl_brakes, me_total, me_blocks, me_metre, me_height, me_begin, me_brake, me_end, me_cm, me_cb, ft_length, ft_friction, ft_brake, ft_lift, ft_drive, ixTr0, ixTr1, ixTr2, ixTr3, ixTr4, encO_none, encO_some, isNon_encO, repI, repN, consI, q_slF, q_slM, q_slT, zipD_zip, q_inI, lo_blocks, *])
def b_Layout__check_block : P .s :=
  (.ifS (.notT (.tst (.chain .le .lt (.c (.int 0)) (.var 1) (.meth 0 "blocks" [] m_Layout_blocks (.var 0) .mnil)))) (.raise 1) .skip)
def m_Layout__check_block : List D → R RV := runF 2 [false, false] b_Layout__check_block
--spec lo_cb lo_cbx
theorem lo_cb {l : List Sg} {n : Int} (h0 : 0 ≤ n) (h1 : n < (nBlk l : Nat)) : m_Layout__check_block [loD l, .int n] = .ok (dv .non) := by
  have hd : (decide (0 ≤ n) && decide (n < (nBlk l : Nat))) = true := by simp; omega
  unfold m_Layout__check_block runF b_Layout__check_block
  walk_at "all"
theorem lo_cbx {l : List Sg} {n : Int} (h : n < 0 ∨ (nBlk l : Nat) ≤ n) : m_Layout__check_block [loD l, .int n] = .err 1 none := by
  have hd : (decide (0 ≤ n) && decide (n < (nBlk l : Nat))) = false := by simp; omega
  unfold m_Layout__check_block runF b_Layout__check_block
  walk_at "all"
end Lw
end

section
set_option Elab.async false
set_option linter.all false
set_option maxRecDepth 100000
set_option maxHeartbeats 4000000
namespace Lw
open PySem PySem.Spec PyProof.Rows L2 Ci
open Evl (Ex ex_t ex_l sq_of st_of)
local macro_rules | `(tactic| walk_at "run") => `(tactic| simp -implicitDefEqProofs (disch := first | assumption | decide | omega | (simp only [List.length_replicate, List.length_map, List.length_range, List.length_append, List.length_cons, List.length_nil, List.length_take, List.length_drop, List.length_singleton, rollL_len] <;> omega) | fail) only [x_var, x_c, x_kt, x_bin, x_neg, x_andV, x_orV, x_notV, x_chain, x_chain3, x_ife, x_tup, x_lst, x_fld, x_sl, x_cb, x_isi, x_call, x_meth, x_make, x_lc, x_lc2, x_rngv, x_anil, x_acons, x_rnil, x_rcons, x_mnil, x_mcons, x_tst, x_tru, x_andT, x_orT, x_notT, x_yes, x_noP, x_someP, x_seq, x_rng1, x_rng2, x_rng3, x_zip, x_enum, enumF_lst, enumF_tup, x_augI, x_rev, zipF_lst, zipF_tup, revF_lst, x_gname, x_gtup, x_gtl, x_gnil, x_gcons, x_skip, x_sq, x_asgN, x_asgG, x_asgF, x_asgI, x_mut, x_ext, x_lrg, x_nix, x_nset, getN_f, getN_t, putN_f, putN_t, toL_ov, x_popD, x_popG, x_aug, x_drop, x_ret, x_retO, x_retN, x_brk, x_cont, x_raise, x_ifS, x_for, x_while, x_try, x_try2, x_try3, x_frz, x_kill, x_selfS, x_tm, x_fn, x_callv, isFn_d, x_fmt, x_fstr, x_fnil, x_fcons, x_enumK, x_raiseF, x_tryA, tryA_err, tryA_nx, tryA_rt, only_rt, x_xe, x_xf, xf_ok, x_xi, x_xtup, x_xand, x_xnil, x_xcons, x_hret, x_hif, isX_eq, asStr_str, tm_starts, seq_s,
  rd_dv, rd_ov, rd_vw, dat_d, dat_lst, sdat_fv, sdat_obj, toD_sv, toB_dv, toI_dv, mode_f, mode_t, mode_o, mode_v, cd_int, cd_str, cd_bl, cd_non, seq_d, seq_t, seq_o, seq_v, asgNF_sv, retF_sv, sq_nx, sq_rt, sq_err, sq_bk, sq_ct, try_err, try_nx, try_rt, try2_err, try2_nx, try2_rt, try3_err, try3_nx, try3_rt, toR_nx, toR_rt, toR_err, R.bind_ok, R.bind_err, R.bind_bad, R.sr_ok, R.sr_err, R.sr_bad, R.gr_ok, R.gr_err, R.gr_bad,
  o_add, o_sub, o_lt, o_le, o_gt, o_ge, o_eqI, o_neI, o_eqS, o_neS, o_eqB, o_neB, o_is, o_isnot, o_isb, o_notb, k_lenL, k_lenT, k_lenS, k_abs, k_int, k_intB, k_listL, k_listT, k_tupL, k_tupT, k_sum, k_lenset, k_range1, o_shr, o_band, rngVF_dv, k_all, k_any, k_max2, k_min2, k_maxL, k_minL, D.isNon, truD,
  getV, List.getElem?_cons_zero, List.getElem?_cons_succ, List.set_cons_zero, List.set_cons_succ, List.length_cons, List.length_nil, if_true, if_false, Bool.not_true, Bool.not_false, Bool.true_and, Bool.false_and, Bool.and_true, Bool.and_false, reduceIte, reduceCtorEq, Nat.reduceAdd, Nat.reduceSub, Nat.reduceLeDiff, Nat.zero_add, wipeE, startE, padE, List.cons_append, List.nil_append, List.replicate_succ, List.replicate_zero, asgFF, frzF, retOF, SV.isBrw, decide_true, decide_false, Bool.true_eq, Bool.false_eq_true, bool_if_true, bool_if_false, ofString_inj, ofString_beq, String.reduceEq, sq_bad, toR_bad, toI_bad, true_and, and_true, Nat.reduceLT, List.lookup_cons, List.lookup_nil, Int.reduceLT, Int.reduceLE, Int.reduceAdd, Int.reduceSub, Int.reduceMul, Int.reduceNeg, Int.reduceMod, Int.reduceDiv, Int.reducePow, Int.reduceToNat, Int.reduceEq, and_join, or_join, andT_join, orT_join, ixT0, ixT1, ixT2, ixT3, ixT4, ixT5, ixT6, ixL0, ixL1, ixL2, ixL3, ixL4, ixL5, ixL6, wr_nx, wr_ct, wr_bk, wr_rt, wr_err, wr_bad, wr_ite, try_ite, q_ixL, q_ixT, q_ixS, q_ixLast, o_mul, q_mulE, q_mulER, any_rep, q_mulLl, q_mulRl, q_divl, q_modl, q_div, q_mod, q_pow, q_appendM, q_append0, q_append, q_lrg, q_lzip, q_insertM, q_insert, q_line, q_line', q_mil, q_rng1, q_rng2, q_rng3, q_rep1, q_addL, List.length_map, List.length_append, map_snoc, Int.zero_add, getL, getP, putP, extF, forS, lcS, quiet_okS, quiet_ite, q_fldv, fldO_obj, fldO_ins, fvR_d, fvR_lst, dvR_some, augF, selfF, toI_dv, lentR, RV.noL, List.mem_cons, List.not_mem_nil, or_false, true_or, or_true, lk_yes, rng_len, List.length_range, List.length_range', Int.sub_add_cancel, Int.add_sub_cancel, List.length_replicate, Bool.or_false, Bool.or_true, Bool.true_or, Bool.false_or, and_self, Int.toNat_natCast, q_cast, x_seqb', x_lend', lendO_lst, seqbO_brw, i_nb, i_bb, i_ib, i_sb, i_tb, i_lb, i_ns, i_is, i_ss, i_ts, i_ls, i_ni, i_ii, i_ti, i_li, i_tl, i_ll, i_tt, i_lt, eq_self, Bool.not_not, not_true_eq_false, not_false_eq_true, kit_bool, Bool.true_beq, Bool.false_beq, beq_self_eq_true, only_ite, tryA_ite, sq_ite, bind_ite, sr_ite, gr_ite, toR_ite, toI_ite, toI_nx, toI_err, getO_x, putX, Bool.not_eq_true', me_parts, me_first, rd_fold, rf_ways, rf_over, rf_trains, encSt_tup, x_gtup_st, ixSt0, ixSt1, ixSt2, o_eqSg, o_neSg, q_inSt, q_inSl, q_notinSl, isNon_encFt, sg_fold, x_gtup_sg, ixSg0, ixSg1, ixSg2, lo_fold, tn_fold, ms_len, hs_len, br_len, bs_len, fl_segments, fl_metres, fl_heights, fl_begins, fl_brakes, me_total, me_blocks, me_metre, me_height, me_begin, me_brake, me_end, me_cm, me_cb, ft_length, ft_friction, ft_brake, ft_lift, ft_drive, ixTr0, ixTr1, ixTr2, ixTr3, ixTr4, encO_none, encO_some, isNon_encO, repI, repN, consI, q_slF, q_slM, q_slT, zipD_zip, q_inI, lo_cb, lo_cbx, lo_blocks])
def b_Layout_begin : P .s :=
  (.sq (.drop (.meth 0 "_check_block" [false] m_Layout__check_block (.var 0) (.mcons false (.var 1) .mnil)))
  (.ret (.bin .ix (.fldv [0] 0 "_begins") (.var 1))))
--spec lo_begin lo_beginx
end Lw
end

section
set_option Elab.async false
set_option linter.all false
set_option maxRecDepth 100000
set_option maxHeartbeats 4000000
namespace Lw
open PySem PySem.Spec PyProof.Rows L2 Ci
open Evl (Ex ex_t ex_l sq_of st_of)
local macro_rules | `(tactic| walk_at "run") => `(tactic| simp -implicitDefEqProofs (disch := first | assumption | decide | omega | (simp only [List.length_replicate, List.length_map, List.length_range, List.length_append, List.length_cons, List.length_nil, List.length_take, List.length_drop, List.length_singleton, rollL_len] <;> omega) | fail) only [x_var, x_c, x_kt, x_bin, x_neg, x_andV, x_orV, x_notV, x_chain, x_chain3, x_ife, x_tup, x_lst, x_fld, x_sl, x_cb, x_isi, x_call, x_meth, x_make, x_lc, x_lc2, x_rngv, x_anil, x_acons, x_rnil, x_rcons, x_mnil, x_mcons, x_tst, x_tru, x_andT, x_orT, x_notT, x_yes, x_noP, x_someP, x_seq, x_rng1, x_rng2, x_rng3, x_zip, x_enum, enumF_lst, enumF_tup, x_augI, x_rev, zipF_lst, zipF_tup, revF_lst, x_gname, x_gtup, x_gtl, x_gnil, x_gcons, x_skip, x_sq, x_asgN, x_asgG, x_asgF, x_asgI, x_mut, x_ext, x_lrg, x_nix, x_nset, getN_f, getN_t, putN_f, putN_t, toL_ov, x_popD, x_popG, x_aug, x_drop, x_ret, x_retO, x_retN, x_brk, x_cont, x_raise, x_ifS, x_for, x_while, x_try, x_try2, x_try3, x_frz, x_kill, x_selfS, x_tm, x_fn, x_callv, isFn_d, x_fmt, x_fstr, x_fnil, x_fcons, x_enumK, x_raiseF, x_tryA, tryA_err, tryA_nx, tryA_rt, only_rt, x_xe, x_xf, xf_ok, x_xi, x_xtup, x_xand, x_xnil, x_xcons, x_hret, x_hif, isX_eq, asStr_str, tm_starts, seq_s,
  rd_dv, rd_ov, rd_vw, dat_d, dat_lst, sdat_fv, sdat_obj, toD_sv, toB_dv, toI_dv, mode_f, mode_t, mode_o, mode_v, cd_int, cd_str, cd_bl, cd_non, seq_d, seq_t, seq_o, seq_v, asgNF_sv, retF_sv, sq_nx, sq_rt, sq_err, sq_bk, sq_ct, try_err, try_nx, try_rt, try2_err, try2_nx, try2_rt, try3_err, try3_nx, try3_rt, toR_nx, toR_rt, toR_err, R.bind_ok, R.bind_err, R.bind_bad, R.sr_ok, R.sr_err, R.sr_bad, R.gr_ok, R.gr_err, R.gr_bad,
  o_add, o_sub, o_lt, o_le, o_gt, o_ge, o_eqI, o_neI, o_eqS, o_neS, o_eqB, o_neB, o_is, o_isnot, o_isb, o_notb, k_lenL, k_lenT, k_lenS, k_abs, k_int, k_intB, k_listL, k_listT, k_tupL, k_tupT, k_sum, k_lenset, k_range1, o_shr, o_band, rngVF_dv, k_all, k_any, k_max2, k_min2, k_maxL, k_minL, D.isNon, truD,
  getV, List.getElem?_cons_zero, List.getElem?_cons_succ, List.set_cons_zero, List.set_cons_succ, List.length_cons, List.length_nil, if_true, if_false, Bool.not_true, Bool.not_false, Bool.true_and, Bool.false_and, Bool.and_true, Bool.and_false, reduceIte, reduceCtorEq, Nat.reduceAdd, Nat.reduceSub, Nat.reduceLeDiff, Nat.zero_add, wipeE, startE, padE, List.cons_append, List.nil_append, List.replicate_succ, List.replicate_zero, asgFF, frzF, retOF, SV.isBrw, decide_true, decide_false, Bool.true_eq, Bool.false_eq_true, bool_if_true, bool_if_false, ofString_inj, ofString_beq, String.reduceEq, sq_bad, toR_bad, toI_bad, true_and, and_true, Nat.reduceLT, List.lookup_cons, List.lookup_nil, Int.reduceLT, Int.reduceLE, Int.reduceAdd, Int.reduceSub, Int.reduceMul, Int.reduceNeg, Int.reduceMod, Int.reduceDiv, Int.reducePow, Int.reduceToNat, Int.reduceEq, and_join, or_join, andT_join, orT_join, ixT0, ixT1, ixT2, ixT3, ixT4, ixT5, ixT6, ixL0, ixL1, ixL2, ixL3, ixL4, ixL5, ixL6, wr_nx, wr_ct, wr_bk, wr_rt, wr_err, wr_bad, wr_ite, try_ite, q_ixL, q_ixT, q_ixS, q_ixLast, o_mul, q_mulE, q_mulER, any_rep, q_mulLl, q_mulRl, q_divl, q_modl, q_div, q_mod, q_pow, q_appendM, q_append0, q_append, q_lrg, q_lzip, q_insertM, q_insert, q_line, q_line', q_mil, q_rng1, q_rng2, q_rng3, q_rep1, q_addL, List.length_map, List.length_append, map_snoc, Int.zero_add, getL, getP, putP, extF, forS, lcS, quiet_okS, quiet_ite, q_fldv, fldO_obj, fldO_ins, fvR_d, fvR_lst, dvR_some, augF, selfF, toI_dv, lentR, RV.noL, List.mem_cons, List.not_mem_nil, or_false, true_or, or_true, lk_yes, rng_len, List.length_range, List.length_range', Int.sub_add_cancel, Int.add_sub_cancel, List.length_replicate, Bool.or_false, Bool.or_true, Bool.true_or, Bool.false_or, and_self, Int.toNat_natCast, q_cast, x_seqb', x_lend', lendO_lst, seqbO_brw, i_nb, i_bb, i_ib, i_sb, i_tb, i_lb, i_ns, i_is, i_ss, i_ts, i_ls, i_ni, i_ii, i_ti, i_li, i_tl, i_ll, i_tt, i_lt, eq_self, Bool.not_not, not_true_eq_false, not_false_eq_true, kit_bool, Bool.true_beq, Bool.false_beq, beq_self_eq_true, only_ite, tryA_ite, sq_ite, bind_ite, sr_ite, gr_ite, toR_ite, toI_ite, toI_nx, toI_err, getO_x, putX, Bool.not_eq_true', me_parts, me_first, rd_fold, rf_ways, rf_over, rf_trains, encSt_tup, x_gtup_st, ixSt0, ixSt1, ixSt2, o_eqSg, o_neSg, q_inSt, q_inSl, q_notinSl, isNon_encFt, sg_fold, x_gtup_sg, ixSg0, ixSg1, ixSg2, lo_fold, tn_fold, ms_len, hs_len, br_len, bs_len, fl_segments, fl_metres, fl_heights, fl_begins, fl_brakes, me_total, me_blocks, me_metre, me_height, me_begin, me_brake, me_end, me_cm, me_cb, ft_length, ft_friction, ft_brake, ft_lift, ft_drive, ixTr0, ixTr1, ixTr2, ixTr3, ixTr4, encO_none, encO_some, isNon_encO, repI, repN, consI, q_slF, q_slM, q_slT, zipD_zip, q_inI, lo_cb, lo_cbx, lo_blocks])
def b_Layout_brake : P .s :=
  (.sq (.drop (.meth 0 "_check_block" [false] m_Layout__check_block (.var 0) (.mcons false (.var 1) .mnil)))
  (.ret (.bin .ix (.fldv [0] 0 "_brakes") (.var 1))))
--spec lo_brake lo_brakex
end Lw
end

section
set_option Elab.async false
set_option linter.all false
set_option maxRecDepth 100000
set_option maxHeartbeats 4000000
namespace Lw
open PySem PySem.Spec PyProof.Rows L2 Ci
open Evl (Ex ex_t ex_l sq_of st_of)
local macro_rules | `(tactic| walk_at "run") => `(tactic| simp -implicitDefEqProofs (disch := first | assumption | decide | omega | (simp only [List.length_replicate, List.length_map, List.length_range, List.length_append, List.length_cons, List.length_nil, List.length_take, List.length_drop, List.length_singleton, rollL_len] <;> omega) | fail) only [x_var, x_c, x_kt, x_bin, x_neg, x_andV, x_orV, x_notV, x_chain, x_chain3, x_ife, x_tup, x_lst, x_fld, x_sl, x_cb, x_isi, x_call, x_meth, x_make, x_lc, x_lc2, x_rngv, x_anil, x_acons, x_rnil, x_rcons, x_mnil, x_mcons, x_tst, x_tru, x_andT, x_orT, x_notT, x_yes, x_noP, x_someP, x_seq, x_rng1, x_rng2, x_rng3, x_zip, x_enum, enumF_lst, enumF_tup, x_augI, x_rev, zipF_lst, zipF_tup, revF_lst, x_gname, x_gtup, x_gtl, x_gnil, x_gcons, x_skip, x_sq, x_asgN, x_asgG, x_asgF, x_asgI, x_mut, x_ext, x_lrg, x_nix, x_nset, getN_f, getN_t, putN_f, putN_t, toL_ov, x_popD, x_popG, x_aug, x_drop, x_ret, x_retO, x_retN, x_brk, x_cont, x_raise, x_ifS, x_for, x_while, x_try, x_try2, x_try3, x_frz, x_kill, x_selfS, x_tm, x_fn, x_callv, isFn_d, x_fmt, x_fstr, x_fnil, x_fcons, x_enumK, x_raiseF, x_tryA, tryA_err, tryA_nx, tryA_rt, only_rt, x_xe, x_xf, xf_ok, x_xi, x_xtup, x_xand, x_xnil, x_xcons, x_hret, x_hif, isX_eq, asStr_str, tm_starts, seq_s,
  rd_dv, rd_ov, rd_vw, dat_d, dat_lst, sdat_fv, sdat_obj, toD_sv, toB_dv, toI_dv, mode_f, mode_t, mode_o, mode_v, cd_int, cd_str, cd_bl, cd_non, seq_d, seq_t, seq_o, seq_v, asgNF_sv, retF_sv, sq_nx, sq_rt, sq_err, sq_bk, sq_ct, try_err, try_nx, try_rt, try2_err, try2_nx, try2_rt, try3_err, try3_nx, try3_rt, toR_nx, toR_rt, toR_err, R.bind_ok, R.bind_err, R.bind_bad, R.sr_ok, R.sr_err, R.sr_bad, R.gr_ok, R.gr_err, R.gr_bad,
  o_add, o_sub, o_lt, o_le, o_gt, o_ge, o_eqI, o_neI, o_eqS, o_neS, o_eqB, o_neB, o_is, o_isnot, o_isb, o_notb, k_lenL, k_lenT, k_lenS, k_abs, k_int, k_intB, k_listL, k_listT, k_tupL, k_tupT, k_sum, k_lenset, k_range1, o_shr, o_band, rngVF_dv, k_all, k_any, k_max2, k_min2, k_maxL, k_minL, D.isNon, truD,
  getV, List.getElem?_cons_zero, List.getElem?_cons_succ, List.set_cons_zero, List.set_cons_succ, List.length_cons, List.length_nil, if_true, if_false, Bool.not_true, Bool.not_false, Bool.true_and, Bool.false_and, Bool.and_true, Bool.and_false, reduceIte, reduceCtorEq, Nat.reduceAdd, Nat.reduceSub, Nat.reduceLeDiff, Nat.zero_add, wipeE, startE, padE, List.cons_append, List.nil_append, List.replicate_succ, List.replicate_zero, asgFF, frzF, retOF, SV.isBrw, decide_true, decide_false, Bool.true_eq, Bool.false_eq_true, bool_if_true, bool_if_false, ofString_inj, ofString_beq, String.reduceEq, sq_bad, toR_bad, toI_bad, true_and, and_true, Nat.reduceLT, List.lookup_cons, List.lookup_nil, Int.reduceLT, Int.reduceLE, Int.reduceAdd, Int.reduceSub, Int.reduceMul, Int.reduceNeg, Int.reduceMod, Int.reduceDiv, Int.reducePow, Int.reduceToNat, Int.reduceEq, and_join, or_join, andT_join, orT_join, ixT0, ixT1, ixT2, ixT3, ixT4, ixT5, ixT6, ixL0, ixL1, ixL2, ixL3, ixL4, ixL5, ixL6, wr_nx, wr_ct, wr_bk, wr_rt, wr_err, wr_bad, wr_ite, try_ite, q_ixL, q_ixT, q_ixS, q_ixLast, o_mul, q_mulE, q_mulER, any_rep, q_mulLl, q_mulRl, q_divl, q_modl, q_div, q_mod, q_pow, q_appendM, q_append0, q_append, q_lrg, q_lzip, q_insertM, q_insert, q_line, q_line', q_mil, q_rng1, q_rng2, q_rng3, q_rep1, q_addL, List.length_map, List.length_append, map_snoc, Int.zero_add, getL, getP, putP, extF, forS, lcS, quiet_okS, quiet_ite, q_fldv, fldO_obj, fldO_ins, fvR_d, fvR_lst, dvR_some, augF, selfF, toI_dv, lentR, RV.noL, List.mem_cons, List.not_mem_nil, or_false, true_or, or_true, lk_yes, rng_len, List.length_range, List.length_range', Int.sub_add_cancel, Int.add_sub_cancel, List.length_replicate, Bool.or_false, Bool.or_true, Bool.true_or, Bool.false_or, and_self, Int.toNat_natCast, q_cast, x_seqb', x_lend', lendO_lst, seqbO_brw, i_nb, i_bb, i_ib, i_sb, i_tb, i_lb, i_ns, i_is, i_ss, i_ts, i_ls, i_ni, i_ii, i_ti, i_li, i_tl, i_ll, i_tt, i_lt, eq_self, Bool.not_not, not_true_eq_false, not_false_eq_true, kit_bool, Bool.true_beq, Bool.false_beq, beq_self_eq_true, only_ite, tryA_ite, sq_ite, bind_ite, sr_ite, gr_ite, toR_ite, toI_ite, toI_nx, toI_err, getO_x, putX, Bool.not_eq_true', me_parts, me_first, rd_fold, rf_ways, rf_over, rf_trains, encSt_tup, x_gtup_st, ixSt0, ixSt1, ixSt2, o_eqSg, o_neSg, q_inSt, q_inSl, q_notinSl, isNon_encFt, sg_fold, x_gtup_sg, ixSg0, ixSg1, ixSg2, lo_fold, tn_fold, ms_len, hs_len, br_len, bs_len, fl_segments, fl_metres, fl_heights, fl_begins, fl_brakes, me_total, me_blocks, me_metre, me_height, me_begin, me_brake, me_end, me_cm, me_cb, ft_length, ft_friction, ft_brake, ft_lift, ft_drive, ixTr0, ixTr1, ixTr2, ixTr3, ixTr4, encO_none, encO_some, isNon_encO, repI, repN, consI, q_slF, q_slM, q_slT, zipD_zip, q_inI, lo_cb, lo_cbx, lo_blocks])
def b_Layout_end : P .s :=
  (.sq (.drop (.meth 0 "_check_block" [false] m_Layout__check_block (.var 0) (.mcons false (.var 1) .mnil)))
  (.ret (.bin .ix (.fldv [0] 0 "_begins") (.bin .add (.var 1) (.c (.int 1))))))
--spec lo_end lo_endx
end Lw
end

section
set_option Elab.async false
set_option linter.all false
set_option maxRecDepth 100000
set_option maxHeartbeats 4000000
namespace Lw
open PySem PySem.Spec PyProof.Rows L2 Ci
open Evl (Ex ex_t ex_l sq_of st_of)
local macro_rules | `(tactic| walk_at "all") => `(tactic| simp -implicitDefEqProofs (disch := first | assumption | decide | omega | (simp only [List.length_replicate, List.length_map, List.length_range, List.length_append, List.length_cons, List.length_nil, List.length_take, List.length_drop, List.length_singleton, rollL_len] <;> omega) | fail) only [x_var, x_c, x_kt, x_bin, x_neg, x_andV, x_orV, x_notV, x_chain, x_chain3, x_ife, x_tup, x_lst, x_fld, x_sl, x_cb, x_isi, x_call, x_meth, x_make, x_lc, x_lc2, x_rngv, x_anil, x_acons, x_rnil, x_rcons, x_mnil, x_mcons, x_tst, x_tru, x_andT, x_orT, x_notT, x_yes, x_noP, x_someP, x_seq, x_rng1, x_rng2, x_rng3, x_zip, x_enum, enumF_lst, enumF_tup, x_augI, x_rev, zipF_lst, zipF_tup, revF_lst, x_gname, x_gtup, x_gtl, x_gnil, x_gcons, x_skip, x_sq, x_asgN, x_asgG, x_asgF, x_asgI, x_mut, x_ext, x_lrg, x_nix, x_nset, getN_f, getN_t, putN_f, putN_t, toL_ov, x_popD, x_popG, x_aug, x_drop, x_ret, x_retO, x_retN, x_brk, x_cont, x_raise, x_ifS, x_for, x_while, x_try, x_try2, x_try3, x_frz, x_kill, x_selfS, x_tm, x_fn, x_callv, isFn_d, x_fmt, x_fstr, x_fnil, x_fcons, x_enumK, x_raiseF, x_tryA, tryA_err, tryA_nx, tryA_rt, only_rt, x_xe, x_xf, xf_ok, x_xi, x_xtup, x_xand, x_xnil, x_xcons, x_hret, x_hif, isX_eq, asStr_str, tm_starts, seq_s,
  rd_dv, rd_ov, rd_vw, dat_d, dat_lst, sdat_fv, sdat_obj, toD_sv, toB_dv, toI_dv, mode_f, mode_t, mode_o, mode_v, cd_int, cd_str, cd_bl, cd_non, seq_d, seq_t, seq_o, seq_v, asgNF_sv, retF_sv, sq_nx, sq_rt, sq_err, sq_bk, sq_ct, try_err, try_nx, try_rt, try2_err, try2_nx, try2_rt, try3_err, try3_nx, try3_rt, toR_nx, toR_rt, toR_err, R.bind_ok, R.bind_err, R.bind_bad, R.sr_ok, R.sr_err, R.sr_bad, R.gr_ok, R.gr_err, R.gr_bad,
  o_add, o_sub, o_lt, o_le, o_gt, o_ge, o_eqI, o_neI, o_eqS, o_neS, o_eqB, o_neB, o_is, o_isnot, o_isb, o_notb, k_lenL, k_lenT, k_lenS, k_abs, k_int, k_intB, k_listL, k_listT, k_tupL, k_tupT, k_sum, k_lenset, k_range1, o_shr, o_band, rngVF_dv, k_all, k_any, k_max2, k_min2, k_maxL, k_minL, D.isNon, truD,
  getV, List.getElem?_cons_zero, List.getElem?_cons_succ, List.set_cons_zero, List.set_cons_succ, List.length_cons, List.length_nil, if_true, if_false, Bool.not_true, Bool.not_false, Bool.true_and, Bool.false_and, Bool.and_true, Bool.and_false, reduceIte, reduceCtorEq, Nat.reduceAdd, Nat.reduceSub, Nat.reduceLeDiff, Nat.zero_add, wipeE, startE, padE, List.cons_append, List.nil_append, List.replicate_succ, List.replicate_zero, asgFF, frzF, retOF, SV.isBrw, decide_true, decide_false, Bool.true_eq, Bool.false_eq_true, bool_if_true, bool_if_false, ofString_inj, ofString_beq, String.reduceEq, sq_bad, toR_bad, toI_bad, true_and, and_true, Nat.reduceLT, List.lookup_cons, List.lookup_nil, Int.reduceLT, Int.reduceLE, Int.reduceAdd, Int.reduceSub, Int.reduceMul, Int.reduceNeg, Int.reduceMod, Int.reduceDiv, Int.reducePow, Int.reduceToNat, Int.reduceEq, and_join, or_join, andT_join, orT_join, ixT0, ixT1, ixT2, ixT3, ixT4, ixT5, ixT6, ixL0, ixL1, ixL2, ixL3, ixL4, ixL5, ixL6, wr_nx, wr_ct, wr_bk, wr_rt, wr_err, wr_bad, wr_ite, try_ite, q_ixL, q_ixT, q_ixS, q_ixLast, o_mul, q_mulE, q_mulER, any_rep, q_mulLl, q_mulRl, q_divl, q_modl, q_div, q_mod, q_pow, q_appendM, q_append0, q_append, q_lrg, q_lzip, q_insertM, q_insert, q_line, q_line', q_mil, q_rng1, q_rng2, q_rng3, q_rep1, q_addL, List.length_map, List.length_append, map_snoc, Int.zero_add, getL, getP, putP, extF, forS, lcS, quiet_okS, quiet_ite, q_fldv, fldO_obj, fldO_ins, fvR_d, fvR_lst, dvR_some, augF, selfF, toI_dv, lentR, RV.noL, List.mem_cons, List.not_mem_nil, or_false, true_or, or_true, lk_yes, rng_len, List.length_range, List.length_range', Int.sub_add_cancel, Int.add_sub_cancel, List.length_replicate, Bool.or_false, Bool.or_true, Bool.true_or, Bool.false_or, and_self, Int.toNat_natCast, q_cast, x_seqb', x_lend', lendO_lst, seqbO_brw, i_nb, i_bb, i_ib, i_sb, i_tb, i_lb, i_ns, i_is, i_ss, i_ts, i_ls, i_ni, i_ii, i_ti, i_li, i_tl, i_ll, i_tt, i_lt, eq_self, Bool.not_not, not_true_eq_false, not_false_eq_true, kit_bool, Bool.true_beq, Bool.false_beq, beq_self_eq_true, only_ite, tryA_ite, sq_ite, bind_ite, sr_ite, gr_ite, toR_ite, toI_ite, toI_nx, toI_err, getO_x, putX, Bool.not_eq_true', me_parts, me_first, rd_fold, rf_ways, rf_over, rf_trains, encSt_tup, x_gtup_st, ixSt0, ixSt1, ixSt2, o_eqSg, o_neSg, q_inSt, q_inSl, q_notinSl, isNon_encFt, sg_fold, x_gtup_sg, ixSg0, ixSg1, ixSg2, lo_fold, tn_fold, ms_len, hs_len, br_len, bs_len, fl_segments, fl_metres, fl_heights, fl_begins, fl_brakes, me_total, me_blocks, me_metre, me_height, me_begin, me_brake, me_end, me_cm, me_cb, ft_length, ft_friction, ft_brake, ft_lift, ft_drive, ixTr0, ixTr1, ixTr2, ixTr3, ixTr4, encO_none, encO_some, isNon_encO, repI, repN, consI, q_slF, q_slM, q_slT, zipD_zip, q_inI, encSo_none, encSo_some, encSo_non, in_sign, notin_sign, o_lenStr, o_str, o_fmt, sl1, enumK_ok, *])
def e_format_layout_1 : P .e :=
  (.fstr (.fcons (.fmt (.var 1)) (.fcons (.c (.str " ")) (.fcons (.fmt (.var 2)) (.fcons (.c (.str " ")) (.fcons (.fmt (.var 3)) .fnil))))))
def b_format_layout : P .s :=
  (.ret (.tm .join (.c (.str "\n")) (.lc (.seq (.fldv [0] 0 "segments")) (.gtup 3 (.gcons (.gname 1) (.gcons (.gname 2) (.gcons (.gname 3) .gnil)))) .yes e_format_layout_1 [1, 2, 3])))
def m_format_layout : List D → R RV := runF 4 [false] b_format_layout
--spec format_layout
def segT (s : Sg) : Str := s.1 ++ " " ++ strI s.2.1 ++ " " ++ strI s.2.2
theorem kind_len {s : Str} (h : kindOk s = true) : s.length ≤ 5 ∧ 32 ∉ tl s ∧ 10 ∉ tl s := by
  rcases kindOk_3 h with h | h | h <;> rw [h] <;> decide +kernel
theorem segT_len {s : Sg} (h : segOk s = true) : (segT s).length ≤ 30 := by
  have b := segOk_bd h
  have k := (kind_len b.1).1
  have l1 := strI_len (n := s.2.1) (by omega)
  have l2 := strI_len (n := s.2.2) (by omega)
  unfold segT
  rw [len_app, len_app, len_app, len_app, len_sp]
  omega
theorem fmt_seg {s : Sg} (h : segOk s = true) (a0 : Option SV) : ev e_format_layout_1 [a0, some (.d (.str s.1)), some (.d (.int s.2.1)), some (.d (.int s.2.2))] = .ok (dv (.str (segT s))) := by
  have b := segOk_bd h
  have k := (kind_len b.1).1
  have l1 := strI_len (n := s.2.1) (by omega)
  have l2 := strI_len (n := s.2.2) (by omega)
  have ls := len_sp
  have f0 := fmt_str (s := s.1) (by rw [sizeLine_eq]; omega)
  have f1 := o_fmt (n := s.2.1) (by omega)
  have f2 := o_fmt (n := s.2.2) (by omega)
  have c1 : (Str.empty ++ s.1).length ≤ sizeLine := by rw [emp_app, sizeLine_eq]; omega
  have c2 : (Str.empty ++ s.1 ++ " ").length ≤ sizeLine := by rw [emp_app, len_app, ls, sizeLine_eq]; omega
  have c3 : (Str.empty ++ s.1 ++ " " ++ strI s.2.1).length ≤ sizeLine := by rw [emp_app, len_app, len_app, ls, sizeLine_eq]; omega
  have c4 : (Str.empty ++ s.1 ++ " " ++ strI s.2.1 ++ " ").length ≤ sizeLine := by rw [emp_app, len_app, len_app, len_app, ls, sizeLine_eq]; omega
  have c5 : (Str.empty ++ s.1 ++ " " ++ strI s.2.1 ++ " " ++ strI s.2.2).length ≤ sizeLine := by rw [emp_app, len_app, len_app, len_app, len_app, ls, sizeLine_eq]; omega
  unfold e_format_layout_1 segT
  clear b h
  walk_at "all"
  rw [emp_app]
theorem segs_len {l : List Sg} (h : segsOk l = true) (hl : l.length ≤ 4000) : ((l.map segT).map fun x => x.length).sum + (l.map segT).length * ("\n" : Str).length ≤ 124000 := by
  have := sum_le (ps := l.map segT) (n := 30) fun p m => by
    obtain ⟨s, hs, rfl⟩ := List.mem_map.mp m
    exact segT_len (List.all_eq_true.mp h s hs)
  rw [List.length_map] at this
  rw [len_nl, List.length_map]
  omega
theorem format_layout {l : List Sg} (h : segsOk l = true) (hl : l.length ≤ 4000) : m_format_layout [loD l] = .ok (dv (.str (Txt.join "\n" (l.map segT)))) := by
  have L : lcF (lcS (.gtup 3 (.gcons (.gname 1) (.gcons (.gname 2) (.gcons (.gname 3) .gnil)))) .yes e_format_layout_1 [some (.d (loD l)), none, none, none]) (l.map encS) = .ok ((l.map segT).map D.str) := by
    rw [List.map_map]
    exact lc_map encS (fun s => D.str (segT s)) fun s hs => by
      have f := fun a0 => fmt_seg (List.all_eq_true.mp h s hs) a0
      walk_at "all"
  have j := tm_joinL (a := "\n") (ys := l.map segT) (by have := segs_len h hl; omega)
  unfold m_format_layout runF b_format_layout
  clear h
  walk_at "all"
end Lw
end

section
set_option Elab.async false
set_option linter.all false
set_option maxRecDepth 100000
set_option maxHeartbeats 4000000
namespace Lw
open PySem PySem.Spec PyProof.Rows L2 Ci
open Evl (Ex ex_t ex_l sq_of st_of)
local macro_rules | `(tactic| walk_at "all") => `(tactic| simp -implicitDefEqProofs (disch := first | assumption | decide | omega | (simp only [List.length_replicate, List.length_map, List.length_range, List.length_append, List.length_cons, List.length_nil, List.length_take, List.length_drop, List.length_singleton, rollL_len] <;> omega) | fail) only [x_var, x_c, x_kt, x_bin, x_neg, x_andV, x_orV, x_notV, x_chain, x_chain3, x_ife, x_tup, x_lst, x_fld, x_sl, x_cb, x_isi, x_call, x_meth, x_make, x_lc, x_lc2, x_rngv, x_anil, x_acons, x_rnil, x_rcons, x_mnil, x_mcons, x_tst, x_tru, x_andT, x_orT, x_notT, x_yes, x_noP, x_someP, x_seq, x_rng1, x_rng2, x_rng3, x_zip, x_enum, enumF_lst, enumF_tup, x_augI, x_rev, zipF_lst, zipF_tup, revF_lst, x_gname, x_gtup, x_gtl, x_gnil, x_gcons, x_skip, x_sq, x_asgN, x_asgG, x_asgF, x_asgI, x_mut, x_ext, x_lrg, x_nix, x_nset, getN_f, getN_t, putN_f, putN_t, toL_ov, x_popD, x_popG, x_aug, x_drop, x_ret, x_retO, x_retN, x_brk, x_cont, x_raise, x_ifS, x_for, x_while, x_try, x_try2, x_try3, x_frz, x_kill, x_selfS, x_tm, x_fn, x_callv, isFn_d, x_fmt, x_fstr, x_fnil, x_fcons, x_enumK, x_raiseF, x_tryA, tryA_err, tryA_nx, tryA_rt, only_rt, x_xe, x_xf, xf_ok, x_xi, x_xtup, x_xand, x_xnil, x_xcons, x_hret, x_hif, isX_eq, asStr_str, tm_starts, seq_s,
  rd_dv, rd_ov, rd_vw, dat_d, dat_lst, sdat_fv, sdat_obj, toD_sv, toB_dv, toI_dv, mode_f, mode_t, mode_o, mode_v, cd_int, cd_str, cd_bl, cd_non, seq_d, seq_t, seq_o, seq_v, asgNF_sv, retF_sv, sq_nx, sq_rt, sq_err, sq_bk, sq_ct, try_err, try_nx, try_rt, try2_err, try2_nx, try2_rt, try3_err, try3_nx, try3_rt, toR_nx, toR_rt, toR_err, R.bind_ok, R.bind_err, R.bind_bad, R.sr_ok, R.sr_err, R.sr_bad, R.gr_ok, R.gr_err, R.gr_bad,
  o_add, o_sub, o_lt, o_le, o_gt, o_ge, o_eqI, o_neI, o_eqS, o_neS, o_eqB, o_neB, o_is, o_isnot, o_isb, o_notb, k_lenL, k_lenT, k_lenS, k_abs, k_int, k_intB, k_listL, k_listT, k_tupL, k_tupT, k_sum, k_lenset, k_range1, o_shr, o_band, rngVF_dv, k_all, k_any, k_max2, k_min2, k_maxL, k_minL, D.isNon, truD,
  getV, List.getElem?_cons_zero, List.getElem?_cons_succ, List.set_cons_zero, List.set_cons_succ, List.length_cons, List.length_nil, if_true, if_false, Bool.not_true, Bool.not_false, Bool.true_and, Bool.false_and, Bool.and_true, Bool.and_false, reduceIte, reduceCtorEq, Nat.reduceAdd, Nat.reduceSub, Nat.reduceLeDiff, Nat.zero_add, wipeE, startE, padE, List.cons_append, List.nil_append, List.replicate_succ, List.replicate_zero, asgFF, frzF, retOF, SV.isBrw, decide_true, decide_false, Bool.true_eq, Bool.false_eq_true, bool_if_true, bool_if_false, ofString_inj, ofString_beq, String.reduceEq, sq_bad, toR_bad, toI_bad, true_and, and_true, Nat.reduceLT, List.lookup_cons, List.lookup_nil, Int.reduceLT, Int.reduceLE, Int.reduceAdd, Int.reduceSub, Int.reduceMul, Int.reduceNeg, Int.reduceMod, Int.reduceDiv, Int.reducePow, Int.reduceToNat, Int.reduceEq, and_join, or_join, andT_join, orT_join, ixT0, ixT1, ixT2, ixT3, ixT4, ixT5, ixT6, ixL0, ixL1, ixL2, ixL3, ixL4, ixL5, ixL6, wr_nx, wr_ct, wr_bk, wr_rt, wr_err, wr_bad, wr_ite, try_ite, q_ixL, q_ixT, q_ixS, q_ixLast, o_mul, q_mulE, q_mulER, any_rep, q_mulLl, q_mulRl, q_divl, q_modl, q_div, q_mod, q_pow, q_appendM, q_append0, q_append, q_lrg, q_lzip, q_insertM, q_insert, q_line, q_line', q_mil, q_rng1, q_rng2, q_rng3, q_rep1, q_addL, List.length_map, List.length_append, map_snoc, Int.zero_add, getL, getP, putP, extF, forS, lcS, quiet_okS, quiet_ite, q_fldv, fldO_obj, fldO_ins, fvR_d, fvR_lst, dvR_some, augF, selfF, toI_dv, lentR, RV.noL, List.mem_cons, List.not_mem_nil, or_false, true_or, or_true, lk_yes, rng_len, List.length_range, List.length_range', Int.sub_add_cancel, Int.add_sub_cancel, List.length_replicate, Bool.or_false, Bool.or_true, Bool.true_or, Bool.false_or, and_self, Int.toNat_natCast, q_cast, x_seqb', x_lend', lendO_lst, seqbO_brw, i_nb, i_bb, i_ib, i_sb, i_tb, i_lb, i_ns, i_is, i_ss, i_ts, i_ls, i_ni, i_ii, i_ti, i_li, i_tl, i_ll, i_tt, i_lt, eq_self, Bool.not_not, not_true_eq_false, not_false_eq_true, kit_bool, Bool.true_beq, Bool.false_beq, beq_self_eq_true, only_ite, tryA_ite, sq_ite, bind_ite, sr_ite, gr_ite, toR_ite, toI_ite, toI_nx, toI_err, getO_x, putX, Bool.not_eq_true', me_parts, me_first, rd_fold, rf_ways, rf_over, rf_trains, encSt_tup, x_gtup_st, ixSt0, ixSt1, ixSt2, o_eqSg, o_neSg, q_inSt, q_inSl, q_notinSl, isNon_encFt, sg_fold, x_gtup_sg, ixSg0, ixSg1, ixSg2, lo_fold, tn_fold, ms_len, hs_len, br_len, bs_len, fl_segments, fl_metres, fl_heights, fl_begins, fl_brakes, me_total, me_blocks, me_metre, me_height, me_begin, me_brake, me_end, me_cm, me_cb, ft_length, ft_friction, ft_brake, ft_lift, ft_drive, ixTr0, ixTr1, ixTr2, ixTr3, ixTr4, encO_none, encO_some, isNon_encO, repI, repN, consI, q_slF, q_slM, q_slT, zipD_zip, q_inI, encSo_none, encSo_some, encSo_non, in_sign, notin_sign, o_lenStr, o_str, o_fmt, sl1, enumK_ok, read_lines, read_segment, read_number, read_slope, layout_init, are_a_round, are_segments, place_metres, *])
def b_parse_layout : P .s :=
  (.sq (.asgG (.gname 1) (.tm .split (.var 0) (.c (.str "\n"))))
  (.sq (.asgG (.gname 2) (.call [false, false, false] m_read_lines (.mcons false (.var 1) (.mcons false (.c (.int 1)) (.mcons false (.fn 0) .mnil)))))
  (.try 2 [2] (.ret (.make 0 [true] m_Layout___init__ (.mcons true (.var 2) .mnil))) (.raiseF 6 "line" (.cb .len (.rcons (.var 1) .rnil))))))
def m_parse_layout : List D → R RV := runF 3 [false] b_parse_layout
--spec parse_layout
/-- what lines tell: a layout's segments, or the number of the wrong line -/
def parL (ls : List Str) : Except Int (List Sg) := match rdL segR ls 1 with
  | .ok ss => if loOk ss = true then .ok ss else .error (ls.length : Nat)
  | .error n => .error n
theorem rdL_len {α : Type} {g : Str → Option α} : ∀ {ls : List Str} {k : Int} {ss : List α}, rdL g ls k = .ok ss → ss.length = ls.length
  | [], _, _, h => by cases h; rfl
  | l :: r, k, ss, h => by
    unfold rdL at h
    cases e : g l with
    | none => rw [e] at h; cases h
    | some a =>
      rw [e] at h
      cases e2 : rdL g r (k + 1) with
      | error n => rw [e2] at h; cases h
      | ok as =>
        rw [e2] at h
        cases h
        rw [List.length_cons, rdL_len e2, List.length_cons]
theorem join_lines {ls : List Str} {n m : Nat} (h : ∀ l ∈ ls, l.length ≤ n) (hl : ls.length ≤ m) : (ls.map fun x => x.length).sum + ls.length * ("\n" : Str).length ≤ m * (n + 1) := by
  have := sum_le h
  rw [len_nl]
  have e : ls.length * (n + 1) ≤ m * (n + 1) := Nat.mul_le_mul_right _ hl
  rw [Nat.mul_add] at e
  omega
theorem parse_layout {ls : List Str} (h0 : ls ≠ []) (h1 : ∀ l ∈ ls, l.length ≤ 100) (h2 : ∀ l ∈ ls, 10 ∉ tl l) (h3 : ls.length ≤ 1000) : m_parse_layout [.str (Txt.join "\n" ls)] = (match parL ls with
    | .ok ss => .ok (.sv (.obj false 0 (loV ss (pls ss))))
    | .error n => .err 6 (some ("line", .int n))) := by
  have jl := Nat.le_trans (join_len "\n" ls) (join_lines h1 h3)
  have hs := tm_split (a := Txt.join "\n" ls) (b := "\n") ⟨by rw [len_nl]; rfl, by rw [sizeLine_eq]; omega⟩
  rw [split_nl h0 h2] at hs
  have rl := read_lines (ls := ls) (fun l m => by have := h1 l m; omega) (by omega)
  unfold m_parse_layout runF b_parse_layout parL
  clear h0 h1 h2 jl
  cases e : rdL segR ls 1 with
  | error n =>
    rw [e] at rl
    walk_at "all"
  | ok ss =>
    rw [e] at rl
    have l2 := rdL_len e
    have li := layout_init (l := ss) (by omega)
    cases c : loOk ss with
    | true =>
      rw [c] at li
      simp only [if_true] at li
      walk_at "all"
    | false =>
      rw [c] at li
      simp only [Bool.false_eq_true, if_false] at li
      walk_at "all"
end Lw
end

section
set_option Elab.async false
set_option linter.all false
set_option maxRecDepth 100000
set_option maxHeartbeats 4000000
namespace Lw
open PySem PySem.Spec PyProof.Rows L2 Ci
open Evl (Ex ex_t ex_l sq_of st_of)
local macro_rules | `(tactic| walk_at "run") => `(tactic| simp -implicitDefEqProofs (disch := first | assumption | decide | omega | (simp only [List.length_replicate, List.length_map, List.length_range, List.length_append, List.length_cons, List.length_nil, List.length_take, List.length_drop, List.length_singleton, rollL_len] <;> omega) | fail) only [x_var, x_c, x_kt, x_bin, x_neg, x_andV, x_orV, x_notV, x_chain, x_chain3, x_ife, x_tup, x_lst, x_fld, x_sl, x_cb, x_isi, x_call, x_meth, x_make, x_lc, x_lc2, x_rngv, x_anil, x_acons, x_rnil, x_rcons, x_mnil, x_mcons, x_tst, x_tru, x_andT, x_orT, x_notT, x_yes, x_noP, x_someP, x_seq, x_rng1, x_rng2, x_rng3, x_zip, x_enum, enumF_lst, enumF_tup, x_augI, x_rev, zipF_lst, zipF_tup, revF_lst, x_gname, x_gtup, x_gtl, x_gnil, x_gcons, x_skip, x_sq, x_asgN, x_asgG, x_asgF, x_asgI, x_mut, x_ext, x_lrg, x_nix, x_nset, getN_f, getN_t, putN_f, putN_t, toL_ov, x_popD, x_popG, x_aug, x_drop, x_ret, x_retO, x_retN, x_brk, x_cont, x_raise, x_ifS, x_for, x_while, x_try, x_try2, x_try3, x_frz, x_kill, x_selfS, x_tm, x_fn, x_callv, isFn_d, x_fmt, x_fstr, x_fnil, x_fcons, x_enumK, x_raiseF, x_tryA, tryA_err, tryA_nx, tryA_rt, only_rt, x_xe, x_xf, xf_ok, x_xi, x_xtup, x_xand, x_xnil, x_xcons, x_hret, x_hif, isX_eq, asStr_str, tm_starts, seq_s,
  rd_dv, rd_ov, rd_vw, dat_d, dat_lst, sdat_fv, sdat_obj, toD_sv, toB_dv, toI_dv, mode_f, mode_t, mode_o, mode_v, cd_int, cd_str, cd_bl, cd_non, seq_d, seq_t, seq_o, seq_v, asgNF_sv, retF_sv, sq_nx, sq_rt, sq_err, sq_bk, sq_ct, try_err, try_nx, try_rt, try2_err, try2_nx, try2_rt, try3_err, try3_nx, try3_rt, toR_nx, toR_rt, toR_err, R.bind_ok, R.bind_err, R.bind_bad, R.sr_ok, R.sr_err, R.sr_bad, R.gr_ok, R.gr_err, R.gr_bad,
  o_add, o_sub, o_lt, o_le, o_gt, o_ge, o_eqI, o_neI, o_eqS, o_neS, o_eqB, o_neB, o_is, o_isnot, o_isb, o_notb, k_lenL, k_lenT, k_lenS, k_abs, k_int, k_intB, k_listL, k_listT, k_tupL, k_tupT, k_sum, k_lenset, k_range1, o_shr, o_band, rngVF_dv, k_all, k_any, k_max2, k_min2, k_maxL, k_minL, D.isNon, truD,
  getV, List.getElem?_cons_zero, List.getElem?_cons_succ, List.set_cons_zero, List.set_cons_succ, List.length_cons, List.length_nil, if_true, if_false, Bool.not_true, Bool.not_false, Bool.true_and, Bool.false_and, Bool.and_true, Bool.and_false, reduceIte, reduceCtorEq, Nat.reduceAdd, Nat.reduceSub, Nat.reduceLeDiff, Nat.zero_add, wipeE, startE, padE, List.cons_append, List.nil_append, List.replicate_succ, List.replicate_zero, asgFF, frzF, retOF, SV.isBrw, decide_true, decide_false, Bool.true_eq, Bool.false_eq_true, bool_if_true, bool_if_false, ofString_inj, ofString_beq, String.reduceEq, sq_bad, toR_bad, toI_bad, true_and, and_true, Nat.reduceLT, List.lookup_cons, List.lookup_nil, Int.reduceLT, Int.reduceLE, Int.reduceAdd, Int.reduceSub, Int.reduceMul, Int.reduceNeg, Int.reduceMod, Int.reduceDiv, Int.reducePow, Int.reduceToNat, Int.reduceEq, and_join, or_join, andT_join, orT_join, ixT0, ixT1, ixT2, ixT3, ixT4, ixT5, ixT6, ixL0, ixL1, ixL2, ixL3, ixL4, ixL5, ixL6, wr_nx, wr_ct, wr_bk, wr_rt, wr_err, wr_bad, wr_ite, try_ite, q_ixL, q_ixT, q_ixS, q_ixLast, o_mul, q_mulE, q_mulER, any_rep, q_mulLl, q_mulRl, q_divl, q_modl, q_div, q_mod, q_pow, q_appendM, q_append0, q_append, q_lrg, q_lzip, q_insertM, q_insert, q_line, q_line', q_mil, q_rng1, q_rng2, q_rng3, q_rep1, q_addL, List.length_map, List.length_append, map_snoc, Int.zero_add, getL, getP, putP, extF, forS, lcS, quiet_okS, quiet_ite, q_fldv, fldO_obj, fldO_ins, fvR_d, fvR_lst, dvR_some, augF, selfF, toI_dv, lentR, RV.noL, List.mem_cons, List.not_mem_nil, or_false, true_or, or_true, lk_yes, rng_len, List.length_range, List.length_range', Int.sub_add_cancel, Int.add_sub_cancel, List.length_replicate, Bool.or_false, Bool.or_true, Bool.true_or, Bool.false_or, and_self, Int.toNat_natCast, q_cast, x_seqb', x_lend', lendO_lst, seqbO_brw, i_nb, i_bb, i_ib, i_sb, i_tb, i_lb, i_ns, i_is, i_ss, i_ts, i_ls, i_ni, i_ii, i_ti, i_li, i_tl, i_ll, i_tt, i_lt, eq_self, Bool.not_not, not_true_eq_false, not_false_eq_true, kit_bool, Bool.true_beq, Bool.false_beq, beq_self_eq_true, only_ite, tryA_ite, sq_ite, bind_ite, sr_ite, gr_ite, toR_ite, toI_ite, toI_nx, toI_err, getO_x, putX, Bool.not_eq_true', me_parts, me_first, rd_fold, rf_ways, rf_over, rf_trains, encSt_tup, x_gtup_st, ixSt0, ixSt1, ixSt2, o_eqSg, o_neSg, q_inSt, q_inSl, q_notinSl, isNon_encFt, sg_fold, x_gtup_sg, ixSg0, ixSg1, ixSg2, lo_fold, tn_fold, ms_len, hs_len, br_len, bs_len, fl_segments, fl_metres, fl_heights, fl_begins, fl_brakes, me_total, me_blocks, me_metre, me_height, me_begin, me_brake, me_end, me_cm, me_cb, ft_length, ft_friction, ft_brake, ft_lift, ft_drive, ixTr0, ixTr1, ixTr2, ixTr3, ixTr4, encO_none, encO_some, isNon_encO, repI, repN, consI, q_slF, q_slM, q_slT, zipD_zip, q_inI])
def b__law_cell : P .s :=
  (.sq (.ifS (.tst (.bin .lt (.var 1) (.cb .len (.rcons (.var 0) .rnil)))) (.ret (.cb .abs (.rcons (.cb .int (.rcons (.bin .ix (.var 0) (.var 1)) .rnil)) .rnil))) .skip)
  (.ret (.c (.int 0))))
def m__law_cell : List D → R RV := runF 2 [false, false] b__law_cell
--spec law_cell
/-- what a script holds at a place -/
def cell (ns : List Int) (k : Int) : Int := match ns[k.toNat]? with
  | some x => if x < 0 then -x else x
  | none => 0
theorem cell_nn (ns : List Int) (k : Int) : 0 ≤ cell ns k := by
  unfold cell
  split
  · split <;> omega
  · omega
theorem law_cell {ns : List Int} {k : Int} (h : 0 ≤ k) : m__law_cell [.scr ns, .int k] = .ok (dv (.int (cell ns k))) := by
  unfold m__law_cell runF b__law_cell
  unfold cell
  by_cases c : k < (ns.length : Int)
  · have e := at0_some h c
    walk_at "run"
    rw [if_pos (decide_eq_true c), e]
  · have e : ns[k.toNat]? = none := List.getElem?_eq_none (by omega)
    rw [e]
    walk_at "run"
    rw [if_neg (by simpa using c)]
end Lw
end

section
set_option Elab.async false
set_option linter.all false
set_option maxRecDepth 100000
set_option maxHeartbeats 4000000
namespace Lw
open PySem PySem.Spec PyProof.Rows L2 Ci
open Evl (Ex ex_t ex_l sq_of st_of)
local macro_rules | `(tactic| walk_at "run") => `(tactic| simp -implicitDefEqProofs (disch := first | assumption | decide | omega | (simp only [List.length_replicate, List.length_map, List.length_range, List.length_append, List.length_cons, List.length_nil, List.length_take, List.length_drop, List.length_singleton, rollL_len] <;> omega) | fail) only [x_var, x_c, x_kt, x_bin, x_neg, x_andV, x_orV, x_notV, x_chain, x_chain3, x_ife, x_tup, x_lst, x_fld, x_sl, x_cb, x_isi, x_call, x_meth, x_make, x_lc, x_lc2, x_rngv, x_anil, x_acons, x_rnil, x_rcons, x_mnil, x_mcons, x_tst, x_tru, x_andT, x_orT, x_notT, x_yes, x_noP, x_someP, x_seq, x_rng1, x_rng2, x_rng3, x_zip, x_enum, enumF_lst, enumF_tup, x_augI, x_rev, zipF_lst, zipF_tup, revF_lst, x_gname, x_gtup, x_gtl, x_gnil, x_gcons, x_skip, x_sq, x_asgN, x_asgG, x_asgF, x_asgI, x_mut, x_ext, x_lrg, x_nix, x_nset, getN_f, getN_t, putN_f, putN_t, toL_ov, x_popD, x_popG, x_aug, x_drop, x_ret, x_retO, x_retN, x_brk, x_cont, x_raise, x_ifS, x_for, x_while, x_try, x_try2, x_try3, x_frz, x_kill, x_selfS, x_tm, x_fn, x_callv, isFn_d, x_fmt, x_fstr, x_fnil, x_fcons, x_enumK, x_raiseF, x_tryA, tryA_err, tryA_nx, tryA_rt, only_rt, x_xe, x_xf, xf_ok, x_xi, x_xtup, x_xand, x_xnil, x_xcons, x_hret, x_hif, isX_eq, asStr_str, tm_starts, seq_s,
  rd_dv, rd_ov, rd_vw, dat_d, dat_lst, sdat_fv, sdat_obj, toD_sv, toB_dv, toI_dv, mode_f, mode_t, mode_o, mode_v, cd_int, cd_str, cd_bl, cd_non, seq_d, seq_t, seq_o, seq_v, asgNF_sv, retF_sv, sq_nx, sq_rt, sq_err, sq_bk, sq_ct, try_err, try_nx, try_rt, try2_err, try2_nx, try2_rt, try3_err, try3_nx, try3_rt, toR_nx, toR_rt, toR_err, R.bind_ok, R.bind_err, R.bind_bad, R.sr_ok, R.sr_err, R.sr_bad, R.gr_ok, R.gr_err, R.gr_bad,
  o_add, o_sub, o_lt, o_le, o_gt, o_ge, o_eqI, o_neI, o_eqS, o_neS, o_eqB, o_neB, o_is, o_isnot, o_isb, o_notb, k_lenL, k_lenT, k_lenS, k_abs, k_int, k_intB, k_listL, k_listT, k_tupL, k_tupT, k_sum, k_lenset, k_range1, o_shr, o_band, rngVF_dv, k_all, k_any, k_max2, k_min2, k_maxL, k_minL, D.isNon, truD,
  getV, List.getElem?_cons_zero, List.getElem?_cons_succ, List.set_cons_zero, List.set_cons_succ, List.length_cons, List.length_nil, if_true, if_false, Bool.not_true, Bool.not_false, Bool.true_and, Bool.false_and, Bool.and_true, Bool.and_false, reduceIte, reduceCtorEq, Nat.reduceAdd, Nat.reduceSub, Nat.reduceLeDiff, Nat.zero_add, wipeE, startE, padE, List.cons_append, List.nil_append, List.replicate_succ, List.replicate_zero, asgFF, frzF, retOF, SV.isBrw, decide_true, decide_false, Bool.true_eq, Bool.false_eq_true, bool_if_true, bool_if_false, ofString_inj, ofString_beq, String.reduceEq, sq_bad, toR_bad, toI_bad, true_and, and_true, Nat.reduceLT, List.lookup_cons, List.lookup_nil, Int.reduceLT, Int.reduceLE, Int.reduceAdd, Int.reduceSub, Int.reduceMul, Int.reduceNeg, Int.reduceMod, Int.reduceDiv, Int.reducePow, Int.reduceToNat, Int.reduceEq, and_join, or_join, andT_join, orT_join, ixT0, ixT1, ixT2, ixT3, ixT4, ixT5, ixT6, ixL0, ixL1, ixL2, ixL3, ixL4, ixL5, ixL6, wr_nx, wr_ct, wr_bk, wr_rt, wr_err, wr_bad, wr_ite, try_ite, q_ixL, q_ixT, q_ixS, q_ixLast, o_mul, q_mulE, q_mulER, any_rep, q_mulLl, q_mulRl, q_divl, q_modl, q_div, q_mod, q_pow, q_appendM, q_append0, q_append, q_lrg, q_lzip, q_insertM, q_insert, q_line, q_line', q_mil, q_rng1, q_rng2, q_rng3, q_rep1, q_addL, List.length_map, List.length_append, map_snoc, Int.zero_add, getL, getP, putP, extF, forS, lcS, quiet_okS, quiet_ite, q_fldv, fldO_obj, fldO_ins, fvR_d, fvR_lst, dvR_some, augF, selfF, toI_dv, lentR, RV.noL, List.mem_cons, List.not_mem_nil, or_false, true_or, or_true, lk_yes, rng_len, List.length_range, List.length_range', Int.sub_add_cancel, Int.add_sub_cancel, List.length_replicate, Bool.or_false, Bool.or_true, Bool.true_or, Bool.false_or, and_self, Int.toNat_natCast, q_cast, x_seqb', x_lend', lendO_lst, seqbO_brw, i_nb, i_bb, i_ib, i_sb, i_tb, i_lb, i_ns, i_is, i_ss, i_ts, i_ls, i_ni, i_ii, i_ti, i_li, i_tl, i_ll, i_tt, i_lt, eq_self, Bool.not_not, not_true_eq_false, not_false_eq_true, kit_bool, Bool.true_beq, Bool.false_beq, beq_self_eq_true, only_ite, tryA_ite, sq_ite, bind_ite, sr_ite, gr_ite, toR_ite, toI_ite, toI_nx, toI_err, getO_x, putX, Bool.not_eq_true', me_parts, me_first, rd_fold, rf_ways, rf_over, rf_trains, encSt_tup, x_gtup_st, ixSt0, ixSt1, ixSt2, o_eqSg, o_neSg, q_inSt, q_inSl, q_notinSl, isNon_encFt, sg_fold, x_gtup_sg, ixSg0, ixSg1, ixSg2, lo_fold, tn_fold, ms_len, hs_len, br_len, bs_len, fl_segments, fl_metres, fl_heights, fl_begins, fl_brakes, me_total, me_blocks, me_metre, me_height, me_begin, me_brake, me_end, me_cm, me_cb, ft_length, ft_friction, ft_brake, ft_lift, ft_drive, ixTr0, ixTr1, ixTr2, ixTr3, ixTr4, encO_none, encO_some, isNon_encO, repI, repN, consI, q_slF, q_slM, q_slT, zipD_zip, q_inI])
def l__law_draws_1 : P .s :=
  (.ifS (.andT (.tst (.bin .ge (.var 0) (.bin .pow (.c (.int 10)) (.c (.int 18))))) (.tst (.bin .gt (.var 3) (.c (.int 0))))) (.sq (.mut .append (.pvar 2) (.acons (.bin .mod (.cb .int (.rcons (.var 3) .rnil)) (.c (.int 4096))) .anil))
  (.asgG (.gname 3) (.bin .div (.var 3) (.c (.int 4096))))) (.sq (.asgG (.gname 5) (.bin .mod (.cb .int (.rcons (.bin .add (.bin .mul (.var 0) (.c (.int 48271))) (.bin .mul (.bin .add (.var 4) (.c (.int 1))) (.c (.int 69621)))) .rnil)) (.c (.int 2147483647))))
  (.sq (.asgG (.gname 5) (.bin .mod (.cb .int (.rcons (.bin .add (.bin .add (.bin .mul (.var 5) (.var 5)) (.bin .mul (.var 5) (.c (.int 16807)))) (.bin .mul (.var 4) (.c (.int 7919)))) .rnil)) (.c (.int 2147483629))))
  (.sq (.asgG (.gname 5) (.bin .mod (.cb .int (.rcons (.bin .add (.bin .add (.bin .mul (.var 5) (.var 5)) (.var 0)) (.bin .mul (.c (.int 13)) (.var 4))) .rnil)) (.c (.int 2147483587))))
  (.mut .append (.pvar 2) (.acons (.bin .mod (.bin .div (.var 5) (.c (.int 7))) (.c (.int 4096))) .anil))))))
def b__law_draws : P .s :=
  (.sq (.asgN 2 (.lst .anil))
  (.sq (.asgG (.gname 3) (.var 0))
  (.sq (.for (.rng1 (.acons (.var 1) .anil)) (.gname 4) l__law_draws_1 [4, 5])
  (.retO 2))))
def m__law_draws : List D → R RV := runF 6 [false, false] b__law_draws
--spec law_draws
def drStep (c : Int) (s : List Int × Int) (k : Nat) : List Int × Int :=
  if 1000000000000000000 ≤ c ∧ 0 < s.2 then (s.1 ++ [s.2 % 4096], s.2 / 4096)
  else (s.1 ++ [((((c * 48271 + ((k : Int) + 1) * 69621) % 2147483647 * ((c * 48271 + ((k : Int) + 1) * 69621) % 2147483647) + (c * 48271 + ((k : Int) + 1) * 69621) % 2147483647 * 16807 + (k : Int) * 7919) % 2147483629 * (((c * 48271 + ((k : Int) + 1) * 69621) % 2147483647 * ((c * 48271 + ((k : Int) + 1) * 69621) % 2147483647) + (c * 48271 + ((k : Int) + 1) * 69621) % 2147483647 * 16807 + (k : Int) * 7919) % 2147483629) + c + 13 * (k : Int)) % 2147483587) / 7 % 4096], s.2)
def drN (c : Int) : Nat → List Int × Int
  | 0 => ([], c)
  | k + 1 => drStep c (drN c k) k
/-- the draws from a cell -/
def draws (c : Int) (n : Nat) : List Int := (drN c n).1
theorem drN_inv (c : Int) : ∀ k : Nat, (∀ x ∈ (drN c k).1, 0 ≤ x ∧ x < 4096) ∧ (drN c k).1.length = k
  | 0 => ⟨fun x m => (nomatch m), rfl⟩
  | k + 1 => by
    obtain ⟨h1, h2⟩ := drN_inv c k
    show (∀ x ∈ (drStep c (drN c k) k).1, _) ∧ (drStep c (drN c k) k).1.length = _
    unfold drStep
    split
    all_goals
      refine ⟨fun x m => ?_, by simp [h2]⟩
      rcases List.mem_append.mp m with m | m
      · exact h1 x m
      · rw [List.mem_singleton.mp m]
        omega
theorem draws_bd {c : Int} {n : Nat} : ∀ x ∈ draws c n, 0 ≤ x ∧ x < 4096 := (drN_inv c n).1
theorem draws_len {c : Int} {n : Nat} : (draws c n).length = n := (drN_inv c n).2
theorem draws_turn {c n left : Int} {rows : List Int} {k : Nat} (h0 : 0 ≤ c) (hk : k ≤ 100000) (hl : rows.length ≤ 100000) :
    wipeR [4, 5] (forS (.gname 4) l__law_draws_1 (.int (0 + (k : Int))) [some (.d (.int c)), some (.d (.int n)), some (.fv (.lst (rows.map D.int))), some (.d (.int left)), none, none]) =
      .nx [some (.d (.int c)), some (.d (.int n)), some (.fv (.lst ((drStep c (rows, left) k).1.map D.int))), some (.d (.int (drStep c (rows, left) k).2)), none, none] := by
  unfold l__law_draws_1 drStep
  walk_at "run"
  by_cases h : 1000000000000000000 ≤ c ∧ 0 < left
  · simp only [h.1, h.2, and_self, decide_true, Bool.and_true, if_true, bool_if_true]
  · rw [if_neg h, if_neg (by simpa using h)]
theorem law_draws {c n : Int} (h0 : 0 ≤ c) (h1 : 0 ≤ n) (h2 : n ≤ 100000) : m__law_draws [.int c, .int n] = .ok (ov (.lst ((draws c n.toNat).map D.int))) := by
  have L := for_rng (step := forS (.gname 4) l__law_draws_1) (kill := [4, 5]) (lo := 0) (n := n.toNat) (fun k => [some (.d (.int c)), some (.d (.int n)), some (.fv (.lst ((drN c k).1.map D.int))), some (.d (.int (drN c k).2)), none, none]) fun k hk =>
    draws_turn h0 (by omega) (by rw [(drN_inv c k).2]; omega)
  have L : forF (forS (.gname 4) l__law_draws_1) [4, 5] (rng 0 n.toNat) [some (.d (.int c)), some (.d (.int n)), some (.fv (.lst [])), some (.d (.int c)), none, none] = _ := L
  unfold m__law_draws runF b__law_draws
  walk_at "run"
  rw [L]
  walk_at "run"
  rfl
end Lw
end

section
set_option Elab.async false
set_option linter.all false
set_option maxRecDepth 100000
set_option maxHeartbeats 4000000
namespace Lw
open PySem PySem.Spec PyProof.Rows L2 Ci
open Evl (Ex ex_t ex_l sq_of st_of)
local macro_rules | `(tactic| walk_at "go") => `(tactic| simp -implicitDefEqProofs (disch := first | assumption | decide | omega | (simp only [List.length_replicate, List.length_map, List.length_range, List.length_append, List.length_cons, List.length_nil, List.length_take, List.length_drop, List.length_singleton, rollL_len] <;> omega) | fail) only [x_var, x_c, x_kt, x_bin, x_neg, x_andV, x_orV, x_notV, x_chain, x_chain3, x_ife, x_tup, x_lst, x_fld, x_sl, x_cb, x_isi, x_call, x_meth, x_make, x_lc, x_lc2, x_rngv, x_anil, x_acons, x_rnil, x_rcons, x_mnil, x_mcons, x_tst, x_tru, x_andT, x_orT, x_notT, x_yes, x_noP, x_someP, x_seq, x_rng1, x_rng2, x_rng3, x_zip, x_enum, enumF_lst, enumF_tup, x_augI, x_rev, zipF_lst, zipF_tup, revF_lst, x_gname, x_gtup, x_gtl, x_gnil, x_gcons, x_skip, x_sq, x_asgN, x_asgG, x_asgF, x_asgI, x_mut, x_ext, x_lrg, x_nix, x_nset, getN_f, getN_t, putN_f, putN_t, toL_ov, x_popD, x_popG, x_aug, x_drop, x_ret, x_retO, x_retN, x_brk, x_cont, x_raise, x_ifS, x_for, x_while, x_try, x_try2, x_try3, x_frz, x_kill, x_selfS, x_tm, x_fn, x_callv, isFn_d, x_fmt, x_fstr, x_fnil, x_fcons, x_enumK, x_raiseF, x_tryA, tryA_err, tryA_nx, tryA_rt, only_rt, x_xe, x_xf, xf_ok, x_xi, x_xtup, x_xand, x_xnil, x_xcons, x_hret, x_hif, isX_eq, asStr_str, tm_starts, seq_s,
  rd_dv, rd_ov, rd_vw, dat_d, dat_lst, sdat_fv, sdat_obj, toD_sv, toB_dv, toI_dv, mode_f, mode_t, mode_o, mode_v, cd_int, cd_str, cd_bl, cd_non, seq_d, seq_t, seq_o, seq_v, asgNF_sv, retF_sv, sq_nx, sq_rt, sq_err, sq_bk, sq_ct, try_err, try_nx, try_rt, try2_err, try2_nx, try2_rt, try3_err, try3_nx, try3_rt, toR_nx, toR_rt, toR_err, R.bind_ok, R.bind_err, R.bind_bad, R.sr_ok, R.sr_err, R.sr_bad, R.gr_ok, R.gr_err, R.gr_bad,
  o_add, o_sub, o_lt, o_le, o_gt, o_ge, o_eqI, o_neI, o_eqS, o_neS, o_eqB, o_neB, o_is, o_isnot, o_isb, o_notb, k_lenL, k_lenT, k_lenS, k_abs, k_int, k_intB, k_listL, k_listT, k_tupL, k_tupT, k_sum, k_lenset, k_range1, o_shr, o_band, rngVF_dv, k_all, k_any, k_max2, k_min2, k_maxL, k_minL, D.isNon, truD,
  getV, List.getElem?_cons_zero, List.getElem?_cons_succ, List.set_cons_zero, List.set_cons_succ, List.length_cons, List.length_nil, if_true, if_false, Bool.not_true, Bool.not_false, Bool.true_and, Bool.false_and, Bool.and_true, Bool.and_false, reduceIte, reduceCtorEq, Nat.reduceAdd, Nat.reduceSub, Nat.reduceLeDiff, Nat.zero_add, wipeE, startE, padE, List.cons_append, List.nil_append, List.replicate_succ, List.replicate_zero, asgFF, frzF, retOF, SV.isBrw, decide_true, decide_false, Bool.true_eq, Bool.false_eq_true, bool_if_true, bool_if_false, ofString_inj, ofString_beq, String.reduceEq, sq_bad, toR_bad, toI_bad, true_and, and_true, Nat.reduceLT, List.lookup_cons, List.lookup_nil, Int.reduceLT, Int.reduceLE, Int.reduceAdd, Int.reduceSub, Int.reduceMul, Int.reduceNeg, Int.reduceMod, Int.reduceDiv, Int.reducePow, Int.reduceToNat, Int.reduceEq, and_join, or_join, andT_join, orT_join, ixT0, ixT1, ixT2, ixT3, ixT4, ixT5, ixT6, ixL0, ixL1, ixL2, ixL3, ixL4, ixL5, ixL6, wr_nx, wr_ct, wr_bk, wr_rt, wr_err, wr_bad, wr_ite, try_ite, q_ixL, q_ixT, q_ixS, q_ixLast, o_mul, q_mulE, q_mulER, any_rep, q_mulLl, q_mulRl, q_divl, q_modl, q_div, q_mod, q_pow, q_appendM, q_append0, q_append, q_lrg, q_lzip, q_insertM, q_insert, q_line, q_line', q_mil, q_rng1, q_rng2, q_rng3, q_rep1, q_addL, List.length_map, List.length_append, map_snoc, Int.zero_add, getL, getP, putP, extF, forS, lcS, quiet_okS, quiet_ite, q_fldv, fldO_obj, fldO_ins, fvR_d, fvR_lst, dvR_some, augF, selfF, toI_dv, lentR, RV.noL, List.mem_cons, List.not_mem_nil, or_false, true_or, or_true, lk_yes, rng_len, List.length_range, List.length_range', Int.sub_add_cancel, Int.add_sub_cancel, List.length_replicate, Bool.or_false, Bool.or_true, Bool.true_or, Bool.false_or, and_self, Int.toNat_natCast, q_cast, x_seqb', x_lend', lendO_lst, seqbO_brw, i_nb, i_bb, i_ib, i_sb, i_tb, i_lb, i_ns, i_is, i_ss, i_ts, i_ls, i_ni, i_ii, i_ti, i_li, i_tl, i_ll, i_tt, i_lt, eq_self, Bool.not_not, not_true_eq_false, not_false_eq_true, kit_bool, Bool.true_beq, Bool.false_beq, beq_self_eq_true])
local macro_rules | `(tactic| walk_at "run") => `(tactic| simp -implicitDefEqProofs (disch := first | assumption | decide | omega | (simp only [List.length_replicate, List.length_map, List.length_range, List.length_append, List.length_cons, List.length_nil, List.length_take, List.length_drop, List.length_singleton, rollL_len] <;> omega) | fail) only [x_var, x_c, x_kt, x_bin, x_neg, x_andV, x_orV, x_notV, x_chain, x_chain3, x_ife, x_tup, x_lst, x_fld, x_sl, x_cb, x_isi, x_call, x_meth, x_make, x_lc, x_lc2, x_rngv, x_anil, x_acons, x_rnil, x_rcons, x_mnil, x_mcons, x_tst, x_tru, x_andT, x_orT, x_notT, x_yes, x_noP, x_someP, x_seq, x_rng1, x_rng2, x_rng3, x_zip, x_enum, enumF_lst, enumF_tup, x_augI, x_rev, zipF_lst, zipF_tup, revF_lst, x_gname, x_gtup, x_gtl, x_gnil, x_gcons, x_skip, x_sq, x_asgN, x_asgG, x_asgF, x_asgI, x_mut, x_ext, x_lrg, x_nix, x_nset, getN_f, getN_t, putN_f, putN_t, toL_ov, x_popD, x_popG, x_aug, x_drop, x_ret, x_retO, x_retN, x_brk, x_cont, x_raise, x_ifS, x_for, x_while, x_try, x_try2, x_try3, x_frz, x_kill, x_selfS, x_tm, x_fn, x_callv, isFn_d, x_fmt, x_fstr, x_fnil, x_fcons, x_enumK, x_raiseF, x_tryA, tryA_err, tryA_nx, tryA_rt, only_rt, x_xe, x_xf, xf_ok, x_xi, x_xtup, x_xand, x_xnil, x_xcons, x_hret, x_hif, isX_eq, asStr_str, tm_starts, seq_s,
  rd_dv, rd_ov, rd_vw, dat_d, dat_lst, sdat_fv, sdat_obj, toD_sv, toB_dv, toI_dv, mode_f, mode_t, mode_o, mode_v, cd_int, cd_str, cd_bl, cd_non, seq_d, seq_t, seq_o, seq_v, asgNF_sv, retF_sv, sq_nx, sq_rt, sq_err, sq_bk, sq_ct, try_err, try_nx, try_rt, try2_err, try2_nx, try2_rt, try3_err, try3_nx, try3_rt, toR_nx, toR_rt, toR_err, R.bind_ok, R.bind_err, R.bind_bad, R.sr_ok, R.sr_err, R.sr_bad, R.gr_ok, R.gr_err, R.gr_bad,
  o_add, o_sub, o_lt, o_le, o_gt, o_ge, o_eqI, o_neI, o_eqS, o_neS, o_eqB, o_neB, o_is, o_isnot, o_isb, o_notb, k_lenL, k_lenT, k_lenS, k_abs, k_int, k_intB, k_listL, k_listT, k_tupL, k_tupT, k_sum, k_lenset, k_range1, o_shr, o_band, rngVF_dv, k_all, k_any, k_max2, k_min2, k_maxL, k_minL, D.isNon, truD,
  getV, List.getElem?_cons_zero, List.getElem?_cons_succ, List.set_cons_zero, List.set_cons_succ, List.length_cons, List.length_nil, if_true, if_false, Bool.not_true, Bool.not_false, Bool.true_and, Bool.false_and, Bool.and_true, Bool.and_false, reduceIte, reduceCtorEq, Nat.reduceAdd, Nat.reduceSub, Nat.reduceLeDiff, Nat.zero_add, wipeE, startE, padE, List.cons_append, List.nil_append, List.replicate_succ, List.replicate_zero, asgFF, frzF, retOF, SV.isBrw, decide_true, decide_false, Bool.true_eq, Bool.false_eq_true, bool_if_true, bool_if_false, ofString_inj, ofString_beq, String.reduceEq, sq_bad, toR_bad, toI_bad, true_and, and_true, Nat.reduceLT, List.lookup_cons, List.lookup_nil, Int.reduceLT, Int.reduceLE, Int.reduceAdd, Int.reduceSub, Int.reduceMul, Int.reduceNeg, Int.reduceMod, Int.reduceDiv, Int.reducePow, Int.reduceToNat, Int.reduceEq, and_join, or_join, andT_join, orT_join, ixT0, ixT1, ixT2, ixT3, ixT4, ixT5, ixT6, ixL0, ixL1, ixL2, ixL3, ixL4, ixL5, ixL6, wr_nx, wr_ct, wr_bk, wr_rt, wr_err, wr_bad, wr_ite, try_ite, q_ixL, q_ixT, q_ixS, q_ixLast, o_mul, q_mulE, q_mulER, any_rep, q_mulLl, q_mulRl, q_divl, q_modl, q_div, q_mod, q_pow, q_appendM, q_append0, q_append, q_lrg, q_lzip, q_insertM, q_insert, q_line, q_line', q_mil, q_rng1, q_rng2, q_rng3, q_rep1, q_addL, List.length_map, List.length_append, map_snoc, Int.zero_add, getL, getP, putP, extF, forS, lcS, quiet_okS, quiet_ite, q_fldv, fldO_obj, fldO_ins, fvR_d, fvR_lst, dvR_some, augF, selfF, toI_dv, lentR, RV.noL, List.mem_cons, List.not_mem_nil, or_false, true_or, or_true, lk_yes, rng_len, List.length_range, List.length_range', Int.sub_add_cancel, Int.add_sub_cancel, List.length_replicate, Bool.or_false, Bool.or_true, Bool.true_or, Bool.false_or, and_self, Int.toNat_natCast, q_cast, x_seqb', x_lend', lendO_lst, seqbO_brw, i_nb, i_bb, i_ib, i_sb, i_tb, i_lb, i_ns, i_is, i_ss, i_ts, i_ls, i_ni, i_ii, i_ti, i_li, i_tl, i_ll, i_tt, i_lt, eq_self, Bool.not_not, not_true_eq_false, not_false_eq_true, kit_bool, Bool.true_beq, Bool.false_beq, beq_self_eq_true, only_ite, tryA_ite, sq_ite, bind_ite, sr_ite, gr_ite, toR_ite, toI_ite, toI_nx, toI_err, getO_x, putX, Bool.not_eq_true', me_parts, me_first, rd_fold, rf_ways, rf_over, rf_trains, encSt_tup, x_gtup_st, ixSt0, ixSt1, ixSt2, o_eqSg, o_neSg, q_inSt, q_inSl, q_notinSl, isNon_encFt, sg_fold, x_gtup_sg, ixSg0, ixSg1, ixSg2, lo_fold, tn_fold, ms_len, hs_len, br_len, bs_len, fl_segments, fl_metres, fl_heights, fl_begins, fl_brakes, me_total, me_blocks, me_metre, me_height, me_begin, me_brake, me_end, me_cm, me_cb, ft_length, ft_friction, ft_brake, ft_lift, ft_drive, ixTr0, ixTr1, ixTr2, ixTr3, ixTr4, encO_none, encO_some, isNon_encO, repI, repN, consI, q_slF, q_slM, q_slT, zipD_zip, q_inI])
def e__law_like_1 (self_ : List D → R RV) : P .e :=
  (.call [false, false] self_ (.mcons false (.bin .ix (.var 0) (.var 2)) (.mcons false (.bin .ix (.var 1) (.var 2)) .mnil)))
def b__law_like (self_ : List D → R RV) : P .s :=
  (.sq (.ifS (.tst (.bin .is (.var 1) (.c .non))) (.ret (.bin .is (.var 0) (.c .non))) .skip)
  (.sq (.ifS (.tru (.isi (.var 1) "bool")) (.ret (.andV (.isi (.var 0) "bool") (.bin .eq (.var 0) (.var 1)))) .skip)
  (.sq (.ifS (.tru (.isi (.var 1) "str")) (.ret (.andV (.isi (.var 0) "str") (.bin .eq (.var 0) (.var 1)))) .skip)
  (.sq (.ifS (.tru (.isi (.var 1) "int")) (.ret (.andV (.isi (.var 0) "int") (.andV (.notV (.isi (.var 0) "bool")) (.bin .eq (.var 0) (.var 1))))) .skip)
  (.sq (.ifS (.orT (.tst (.bin .ne (.isi (.var 1) "list") (.isi (.var 0) "list"))) (.tst (.bin .ne (.isi (.var 1) "tuple") (.isi (.var 0) "tuple")))) (.ret (.c (.bl false))) .skip)
  (.sq (.ifS (.tst (.bin .ne (.cb .len (.rcons (.var 0) .rnil)) (.cb .len (.rcons (.var 1) .rnil)))) (.ret (.c (.bl false))) .skip)
  (.ret (.cb .all (.rcons (.lc (.rng1 (.acons (.cb .len (.rcons (.var 1) .rnil)) .anil)) (.gname 2) .yes (e__law_like_1 self_) [2]) .rnil)))))))))
def n__law_like : Nat → List D → R RV
  | 0 => fun _ => .bad
  | n + 1 => runF 3 [false, false] (b__law_like (n__law_like n))
def m__law_like : List D → R RV := n__law_like 12
--spec law_like law_like_int law_like_bl law_like_non law_like_ints law_like_intl
/-- data that is like itself, so deep -/
def liked : Nat → D → Bool
  | 0, _ => false
  | _ + 1, .non => true
  | _ + 1, .bl _ => true
  | _ + 1, .int _ => true
  | _ + 1, .str _ => true
  | n + 1, .tup ds => decide (ds.length ≤ 1000000) && ds.all (liked n)
  | n + 1, .lst ds => decide (ds.length ≤ 1000000) && ds.all (liked n)
  | _, _ => false
theorem like_elems {f : List D → R RV} {ds : List D} {ix : List D → D} (hz : ds.length ≤ 1000000) (h : ∀ d ∈ ds, f [d, d] = .ok (dv (.bl true))) (hix : ∀ (k : Nat) (d : D), ds[k]? = some d → B2.fn .ix (ix ds) (.int (k : Int)) = .ok (dv d)) :
    lcF (lcS (.gname 2) .yes (e__law_like_1 f) [some (.d (ix ds)), some (.d (ix ds)), none]) (rng 0 ds.length) = .ok ((List.replicate ds.length true).map D.bl) := by
  rw [lc_rng (f := fun _ => D.bl true)]
  · congr 1
    rw [List.map_replicate]
    generalize ds.length = n
    induction n with
    | zero => rfl
    | succ n ih => rw [List.range_succ, List.map_append, ih, List.replicate_succ']; rfl
  · intro k hk
    have e := List.getElem?_eq_getElem hk
    unfold lcS e__law_like_1
    walk_at "go"
    simp only [hix k _ e]
    walk_at "go"
    rw [h _ (List.mem_of_getElem? e)]
    walk_at "go"
theorem all_rep (n : Nat) : (List.replicate n true).all id = true := by simp
theorem law_like_n : ∀ {n : Nat} {d : D}, liked n d = true → n__law_like n [d, d] = .ok (dv (.bl true))
  | 0, d, h => by cases h
  | n + 1, d, h => by
    unfold n__law_like runF b__law_like
    cases d with
    | non =>
      walk_at "run"
    | bl b =>
      walk_at "run"
    | int b =>
      walk_at "run"
    | str b =>
      walk_at "run"
    | tup ds =>
      unfold liked at h
      rw [Bool.and_eq_true, decide_eq_true_eq, List.all_eq_true] at h
      have L := like_elems (ix := D.tup) h.1 (fun d m => law_like_n (h.2 d m)) (fun k d e => o_ixT (by rw [at_nat (List.getElem?_eq_some_iff.mp e).1]; exact e))
      have hz := h.1
      walk_at "run"
      rw [L]
      walk_at "run"
      rw [all_rep]
    | lst ds =>
      unfold liked at h
      rw [Bool.and_eq_true, decide_eq_true_eq, List.all_eq_true] at h
      have L := like_elems (ix := D.lst) h.1 (fun d m => law_like_n (h.2 d m)) (fun k d e => o_ixL (by rw [at_nat (List.getElem?_eq_some_iff.mp e).1]; exact e))
      have hz := h.1
      walk_at "run"
      rw [L]
      walk_at "run"
      rw [all_rep]
    | _ => cases h
theorem law_like {d : D} (h : liked 12 d = true) : m__law_like [d, d] = .ok (dv (.bl true)) := law_like_n h
theorem law_like_int {m n : Int} : m__law_like [.int m, .int n] = .ok (dv (.bl (decide (m = n)))) := by
  show n__law_like (11 + 1) _ = _
  unfold n__law_like runF b__law_like
  walk_at "run"
theorem law_like_bl {m n : Bool} : m__law_like [.bl m, .bl n] = .ok (dv (.bl (m == n))) := by
  show n__law_like (11 + 1) _ = _
  unfold n__law_like runF b__law_like
  walk_at "run"
theorem law_like_non : m__law_like [.non, .non] = .ok (dv (.bl true)) := law_like rfl
theorem liked_map {α : Type} {n : Nat} {f : α → D} {xs : List α} (hz : xs.length ≤ 1000000) (h : ∀ x ∈ xs, liked n (f x) = true) : liked (n + 1) (.lst (xs.map f)) = true := by
  unfold liked
  rw [Bool.and_eq_true, decide_eq_true_eq, List.length_map, List.all_map, List.all_eq_true]
  exact ⟨hz, h⟩
theorem liked_mapT {α : Type} {n : Nat} {f : α → D} {xs : List α} (hz : xs.length ≤ 1000000) (h : ∀ x ∈ xs, liked n (f x) = true) : liked (n + 1) (.tup (xs.map f)) = true := by
  unfold liked
  rw [Bool.and_eq_true, decide_eq_true_eq, List.length_map, List.all_map, List.all_eq_true]
  exact ⟨hz, h⟩
theorem law_like_ints {xs : List Int} (hz : xs.length ≤ 1000000) : m__law_like [.lst (xs.map D.int), .lst (xs.map D.int)] = .ok (dv (.bl true)) := law_like (liked_map hz fun _ _ => rfl)
theorem law_like_intl {s : Sg} : m__law_like [encS s, encS s] = .ok (dv (.bl true)) := law_like (by
  show liked (11 + 1) (.tup _) = true
  unfold liked
  rfl)
end Lw
end

section
set_option Elab.async false
set_option linter.all false
set_option maxRecDepth 100000
set_option maxHeartbeats 4000000
namespace Lw
open PySem PySem.Spec PyProof.Rows L2 Ci
open Evl (Ex ex_t ex_l sq_of st_of)
local macro_rules | `(tactic| walk_at "all") => `(tactic| simp -implicitDefEqProofs (disch := first | assumption | decide | omega | (simp only [List.length_replicate, List.length_map, List.length_range, List.length_append, List.length_cons, List.length_nil, List.length_take, List.length_drop, List.length_singleton, rollL_len] <;> omega) | fail) only [x_var, x_c, x_kt, x_bin, x_neg, x_andV, x_orV, x_notV, x_chain, x_chain3, x_ife, x_tup, x_lst, x_fld, x_sl, x_cb, x_isi, x_call, x_meth, x_make, x_lc, x_lc2, x_rngv, x_anil, x_acons, x_rnil, x_rcons, x_mnil, x_mcons, x_tst, x_tru, x_andT, x_orT, x_notT, x_yes, x_noP, x_someP, x_seq, x_rng1, x_rng2, x_rng3, x_zip, x_enum, enumF_lst, enumF_tup, x_augI, x_rev, zipF_lst, zipF_tup, revF_lst, x_gname, x_gtup, x_gtl, x_gnil, x_gcons, x_skip, x_sq, x_asgN, x_asgG, x_asgF, x_asgI, x_mut, x_ext, x_lrg, x_nix, x_nset, getN_f, getN_t, putN_f, putN_t, toL_ov, x_popD, x_popG, x_aug, x_drop, x_ret, x_retO, x_retN, x_brk, x_cont, x_raise, x_ifS, x_for, x_while, x_try, x_try2, x_try3, x_frz, x_kill, x_selfS, x_tm, x_fn, x_callv, isFn_d, x_fmt, x_fstr, x_fnil, x_fcons, x_enumK, x_raiseF, x_tryA, tryA_err, tryA_nx, tryA_rt, only_rt, x_xe, x_xf, xf_ok, x_xi, x_xtup, x_xand, x_xnil, x_xcons, x_hret, x_hif, isX_eq, asStr_str, tm_starts, seq_s,
  rd_dv, rd_ov, rd_vw, dat_d, dat_lst, sdat_fv, sdat_obj, toD_sv, toB_dv, toI_dv, mode_f, mode_t, mode_o, mode_v, cd_int, cd_str, cd_bl, cd_non, seq_d, seq_t, seq_o, seq_v, asgNF_sv, retF_sv, sq_nx, sq_rt, sq_err, sq_bk, sq_ct, try_err, try_nx, try_rt, try2_err, try2_nx, try2_rt, try3_err, try3_nx, try3_rt, toR_nx, toR_rt, toR_err, R.bind_ok, R.bind_err, R.bind_bad, R.sr_ok, R.sr_err, R.sr_bad, R.gr_ok, R.gr_err, R.gr_bad,
  o_add, o_sub, o_lt, o_le, o_gt, o_ge, o_eqI, o_neI, o_eqS, o_neS, o_eqB, o_neB, o_is, o_isnot, o_isb, o_notb, k_lenL, k_lenT, k_lenS, k_abs, k_int, k_intB, k_listL, k_listT, k_tupL, k_tupT, k_sum, k_lenset, k_range1, o_shr, o_band, rngVF_dv, k_all, k_any, k_max2, k_min2, k_maxL, k_minL, D.isNon, truD,
  getV, List.getElem?_cons_zero, List.getElem?_cons_succ, List.set_cons_zero, List.set_cons_succ, List.length_cons, List.length_nil, if_true, if_false, Bool.not_true, Bool.not_false, Bool.true_and, Bool.false_and, Bool.and_true, Bool.and_false, reduceIte, reduceCtorEq, Nat.reduceAdd, Nat.reduceSub, Nat.reduceLeDiff, Nat.zero_add, wipeE, startE, padE, List.cons_append, List.nil_append, List.replicate_succ, List.replicate_zero, asgFF, frzF, retOF, SV.isBrw, decide_true, decide_false, Bool.true_eq, Bool.false_eq_true, bool_if_true, bool_if_false, ofString_inj, ofString_beq, String.reduceEq, sq_bad, toR_bad, toI_bad, true_and, and_true, Nat.reduceLT, List.lookup_cons, List.lookup_nil, Int.reduceLT, Int.reduceLE, Int.reduceAdd, Int.reduceSub, Int.reduceMul, Int.reduceNeg, Int.reduceMod, Int.reduceDiv, Int.reducePow, Int.reduceToNat, Int.reduceEq, and_join, or_join, andT_join, orT_join, ixT0, ixT1, ixT2, ixT3, ixT4, ixT5, ixT6, ixL0, ixL1, ixL2, ixL3, ixL4, ixL5, ixL6, wr_nx, wr_ct, wr_bk, wr_rt, wr_err, wr_bad, wr_ite, try_ite, q_ixL, q_ixT, q_ixS, q_ixLast, o_mul, q_mulE, q_mulER, any_rep, q_mulLl, q_mulRl, q_divl, q_modl, q_div, q_mod, q_pow, q_appendM, q_append0, q_append, q_lrg, q_lzip, q_insertM, q_insert, q_line, q_line', q_mil, q_rng1, q_rng2, q_rng3, q_rep1, q_addL, List.length_map, List.length_append, map_snoc, Int.zero_add, getL, getP, putP, extF, forS, lcS, quiet_okS, quiet_ite, q_fldv, fldO_obj, fldO_ins, fvR_d, fvR_lst, dvR_some, augF, selfF, toI_dv, lentR, RV.noL, List.mem_cons, List.not_mem_nil, or_false, true_or, or_true, lk_yes, rng_len, List.length_range, List.length_range', Int.sub_add_cancel, Int.add_sub_cancel, List.length_replicate, Bool.or_false, Bool.or_true, Bool.true_or, Bool.false_or, and_self, Int.toNat_natCast, q_cast, x_seqb', x_lend', lendO_lst, seqbO_brw, i_nb, i_bb, i_ib, i_sb, i_tb, i_lb, i_ns, i_is, i_ss, i_ts, i_ls, i_ni, i_ii, i_ti, i_li, i_tl, i_ll, i_tt, i_lt, eq_self, Bool.not_not, not_true_eq_false, not_false_eq_true, kit_bool, Bool.true_beq, Bool.false_beq, beq_self_eq_true, only_ite, tryA_ite, sq_ite, bind_ite, sr_ite, gr_ite, toR_ite, toI_ite, toI_nx, toI_err, getO_x, putX, Bool.not_eq_true', me_parts, me_first, rd_fold, rf_ways, rf_over, rf_trains, encSt_tup, x_gtup_st, ixSt0, ixSt1, ixSt2, o_eqSg, o_neSg, q_inSt, q_inSl, q_notinSl, isNon_encFt, sg_fold, x_gtup_sg, ixSg0, ixSg1, ixSg2, lo_fold, tn_fold, ms_len, hs_len, br_len, bs_len, fl_segments, fl_metres, fl_heights, fl_begins, fl_brakes, me_total, me_blocks, me_metre, me_height, me_begin, me_brake, me_end, me_cm, me_cb, ft_length, ft_friction, ft_brake, ft_lift, ft_drive, ixTr0, ixTr1, ixTr2, ixTr3, ixTr4, encO_none, encO_some, isNon_encO, repI, repN, consI, q_slF, q_slM, q_slT, zipD_zip, q_inI, *])
def l__law_drawn_segments_1 : P .s :=
  (.sq (.asgG (.gname 7) (.bin .ix (.var 0) (.bin .add (.bin .add (.c (.int 4)) (.bin .mul (.c (.int 3)) (.var 5))) (.var 6))))
  (.sq (.asgG (.gname 8) (.bin .ix (.lst (.acons (.c (.str "coast")) (.acons (.c (.str "coast")) (.acons (.c (.str "lift")) .anil)))) (.bin .mod (.var 7) (.c (.int 3)))))
  (.sq (.asgG (.gname 9) (.bin .sub (.bin .mod (.bin .div (.var 7) (.c (.int 3))) (.c (.int 61))) (.c (.int 30))))
  (.sq (.asgG (.gname 10) (.bin .add (.c (.int 1)) (.bin .mod (.bin .div (.var 7) (.c (.int 200))) (.var 1))))
  (.sq (.mut .append (.pvar 3) (.acons (.tup (.acons (.var 8) (.acons (.var 10) (.acons (.var 9) .anil)))) .anil))
  (.asgG (.gname 4) (.bin .add (.var 4) (.bin .mul (.var 10) (.var 9)))))))))
def l__law_drawn_segments_2 : P .s :=
  (.sq (.for (.rng1 (.acons (.bin .mod (.bin .ix (.var 0) (.bin .add (.c (.int 1)) (.var 5))) (.c (.int 3))) .anil)) (.gname 6) l__law_drawn_segments_1 [6, 7, 8, 9, 10])
  (.sq (.asgG (.gname 11) (.bin .sub (.bin .mod (.bin .ix (.var 0) (.bin .add (.c (.int 17)) (.var 5))) (.c (.int 5))) (.c (.int 2))))
  (.sq (.mut .append (.pvar 3) (.acons (.tup (.acons (.c (.str "brake")) (.acons (.bin .add (.c (.int 1)) (.bin .mod (.bin .ix (.var 0) (.bin .add (.c (.int 14)) (.var 5))) (.c (.int 6)))) (.acons (.var 11) .anil)))) .anil))
  (.asgG (.gname 4) (.bin .add (.var 4) (.bin .mul (.bin .ix (.bin .ix (.var 3) (.neg (.c (.int 1)))) (.c (.int 1))) (.var 11)))))))
def l__law_drawn_segments_3 : P .s :=
  (.ifS (.tst (.bin .ne (.var 12) (.c (.int 0)))) (.sq (.asgG (.gname 9) (.cb .max2 (.rcons (.neg (.c (.int 90))) (.rcons (.cb .min2 (.rcons (.c (.int 90)) (.rcons (.var 12) .rnil))) .rnil))))
  (.sq (.mut .insert (.pvar 3) (.acons (.c (.int 0)) (.acons (.tup (.acons (.bin .ix (.lst (.acons (.bin .ix (.tup (.acons (.c (.str "coast")) (.acons (.c (.str "lift")) .anil))) (.cb .int (.rcons (.bin .gt (.var 9) (.c (.int 0))) .rnil))) (.acons (.c (.str "coast")) .anil))) (.bin .mod (.bin .ix (.var 0) (.c (.int 21))) (.c (.int 2)))) (.acons (.c (.int 1)) (.acons (.var 9) .anil)))) .anil)))
  (.asgG (.gname 12) (.bin .sub (.var 12) (.var 9))))) .skip)
def b__law_drawn_segments : P .s :=
  (.sq (.asgG (.gname 2) (.bin .add (.c (.int 2)) (.bin .mod (.bin .ix (.var 0) (.c (.int 0))) (.c (.int 2)))))
  (.sq (.asgN 3 (.lst .anil))
  (.sq (.asgG (.gname 4) (.c (.int 0)))
  (.sq (.for (.rng1 (.acons (.var 2) .anil)) (.gname 5) l__law_drawn_segments_2 [5, 6, 7, 8, 9, 10, 11])
  (.sq (.mut .insert (.pvar 3) (.acons (.bin .mod (.bin .ix (.var 0) (.c (.int 20))) (.cb .len (.rcons (.var 3) .rnil))) (.acons (.tup (.acons (.c (.str "coast")) (.acons (.c (.int 1)) (.acons (.c (.int 0)) .anil)))) .anil)))
  (.sq (.asgG (.gname 12) (.neg (.var 4)))
  (.sq (.for (.rng1 (.acons (.c (.int 40)) .anil)) (.gname 6) l__law_drawn_segments_3 [6, 9])
  (.retO 3))))))))
def m__law_drawn_segments : List D → R RV := runF 13 [false, false] b__law_drawn_segments
--spec law_drawn_segments
theorem q_gt {dr : List Int} (h : drOk dr = true) {n : Int} {i : Nat} (e : n = (i : Int)) (hi : i < 22) : B2.fn .ix (.lst (dr.map D.int)) (.int n) = .ok (dv (.int (gt dr i))) := o_ixL (gt_at h e hi)
theorem kd_ix {x : Int} : B2.fn .ix (.lst [.str "coast", .str "coast", .str "lift"]) (.int (x % 3)) = .ok (dv (.str (kdOf x))) := o_ixL (by
  have h3 : x % 3 = 0 ∨ x % 3 = 1 ∨ x % 3 = 2 := by omega
  unfold kdOf
  rcases h3 with h | h | h <;> rw [h] <;> rfl)
theorem ds_in_turn {dr : List Int} {m : Int} {b k : Nat} {c : Int} {w : List Sg} (ho : drOk dr = true) (m1 : 1 ≤ m) (m2 : m ≤ 40) (hb : b < 3) (hk : k < 2) (hl : w.length ≤ 100) :
    wipeR [6, 7, 8, 9, 10] (forS (.gname 6) l__law_drawn_segments_1 (.int (0 + (k : Int))) [some (.d (.lst (dr.map D.int))), some (.d (.int m)), some (.d (.int c)), some (.fv (.lst (w.map encS))), some (.d (.int (clo w))), some (.d (.int (b : Int))), none, none, none, none, none, none, none]) =
      .nx [some (.d (.lst (dr.map D.int))), some (.d (.int m)), some (.d (.int c)), some (.fv (.lst ((w ++ [sgOf m (gt dr (4 + 3 * b + k))]).map encS))), some (.d (.int (clo (w ++ [sgOf m (gt dr (4 + 3 * b + k))])))), some (.d (.int (b : Int))), none, none, none, none, none, none, none] := by
  have e1 := q_gt ho (n := 4 + 3 * (b : Int) + (k : Int)) (i := 4 + 3 * b + k) (by omega) (by omega)
  have zx := gt_bd ho (i := 4 + 3 * b + k) (by omega)
  obtain ⟨q1, q2, q3, q4, q5, q6⟩ := sgOf_ok m1 m2 zx.1
  rw [clo_app, clo_one]
  generalize gt dr (4 + 3 * b + k) = x at *
  have q3 : 1 ≤ 1 + x / 200 % m := q3
  have q4 : 1 + x / 200 % m ≤ ((40 : Nat) : Int) := q4
  have hm : Ci.MulOk (1 + x / 200 % m) (x / 3 % 61 - 30) := mulR (by omega) (by omega)
  have es : sgOf m x = (kdOf x, 1 + x / 200 % m, x / 3 % 61 - 30) := rfl
  rw [es]
  have hk := kd_ix (x := x)
  clear q1 q2 q5 q6 es
  unfold l__law_drawn_segments_1
  walk_at "all"
theorem ds_turn {dr : List Int} {m : Int} {b : Nat} {c : Int} {w : List Sg} (ho : drOk dr = true) (m1 : 1 ≤ m) (m2 : m ≤ 40) (hb : b < 3) (hl : w.length ≤ 50) :
    wipeR [5, 6, 7, 8, 9, 10, 11] (forS (.gname 5) l__law_drawn_segments_2 (.int (0 + (b : Int))) [some (.d (.lst (dr.map D.int))), some (.d (.int m)), some (.d (.int c)), some (.fv (.lst (w.map encS))), some (.d (.int (clo w))), none, none, none, none, none, none, none, none]) =
      .nx [some (.d (.lst (dr.map D.int))), some (.d (.int m)), some (.d (.int c)), some (.fv (.lst ((segIn dr m b (gt dr (1 + b) % 3).toNat w ++ [brkOf dr b]).map encS))), some (.d (.int (clo (segIn dr m b (gt dr (1 + b) % 3).toNat w ++ [brkOf dr b])))), none, none, none, none, none, none, none, none] := by
  have z1 := gt_bd ho (i := 1 + b) (by omega)
  have e1 := q_gt ho (n := 1 + (b : Int)) (i := 1 + b) (by omega) (by omega)
  have e2 := q_gt ho (n := 17 + (b : Int)) (i := 17 + b) (by omega) (by omega)
  have e3 := q_gt ho (n := 14 + (b : Int)) (i := 14 + b) (by omega) (by omega)
  obtain ⟨q1, q2, q3, q4, q5, q6⟩ := brkOf_ok ho hb
  have ll : ∀ n, (segIn dr m b n w).length = w.length + n := fun n => by
    induction n with
    | zero => rfl
    | succ n ih =>
      show (segIn dr m b n w ++ [_]).length = _
      rw [List.length_append, ih, List.length_singleton]
      omega
  have L := for_rng (step := forS (.gname 6) l__law_drawn_segments_1) (kill := [6, 7, 8, 9, 10]) (lo := 0) (n := (gt dr (1 + b) % 3).toNat) (fun k => [some (.d (.lst (dr.map D.int))), some (.d (.int m)), some (.d (.int c)), some (.fv (.lst ((segIn dr m b k w).map encS))), some (.d (.int (clo (segIn dr m b k w)))), some (.d (.int (b : Int))), none, none, none, none, none, none, none]) fun k hk => by
    have hl := ll k
    exact ds_in_turn ho m1 m2 hb (by omega) (by omega)
  have hl2 := ll (gt dr (1 + b) % 3).toNat
  have L : forF (forS (.gname 6) l__law_drawn_segments_1) [6, 7, 8, 9, 10] (rng 0 (gt dr (1 + b) % 3).toNat) [some (.d (.lst (dr.map D.int))), some (.d (.int m)), some (.d (.int c)), some (.fv (.lst (w.map encS))), some (.d (.int (clo w))), some (.d (.int (b : Int))), none, none, none, none, none, none, none] = _ := L
  rw [clo_app, clo_one]
  generalize segIn dr m b (gt dr (1 + b) % 3).toNat w = v at *
  have eb : brkOf dr b = (("brake" : Str), 1 + gt dr (14 + b) % 6, gt dr (17 + b) % 5 - 2) := rfl
  have q3 : 1 ≤ 1 + gt dr (14 + b) % 6 := q3
  have q4 : 1 + gt dr (14 + b) % 6 ≤ ((6 : Nat) : Int) := q4
  rw [eb]
  have hm : Ci.MulOk (1 + gt dr (14 + b) % 6) (gt dr (17 + b) % 5 - 2) := mulR (by omega) (by omega)
  have hx : B2.fn .ix (.lst ((v ++ [((("brake" : Str), 1 + gt dr (14 + b) % 6, gt dr (17 + b) % 5 - 2) : Sg)]).map encS)) (.int (-1)) = .ok (dv (encS (("brake" : Str), 1 + gt dr (14 + b) % 6, gt dr (17 + b) % 5 - 2))) := o_ixL (atI_last (by rw [List.getLast?_map, List.getLast?_concat]; rfl))
  clear q1 q2 q5 q6 eb ll
  unfold l__law_drawn_segments_2
  walk_at "all"
theorem fix_turn {dr : List Int} {m c : Int} {k : Nat} {v : List Sg} {h9 : Option SV} (ho : drOk dr = true) (hl : v.length ≤ 1000) :
    wipeR [6, 9] (forS (.gname 6) l__law_drawn_segments_3 (.int (0 + (k : Int))) [some (.d (.lst (dr.map D.int))), some (.d (.int m)), some (.d (.int c)), some (.fv (.lst (v.map encS))), h9, none, none, none, none, none, none, none, some (.d (.int (-clo v)))]) =
      .nx [some (.d (.lst (dr.map D.int))), some (.d (.int m)), some (.d (.int c)), some (.fv (.lst ((fixSt dr v).map encS))), h9, none, none, none, none, none, none, none, some (.d (.int (-clo (fixSt dr v))))] := by
  have e1 := q_gt ho (n := 21) (i := 21) (by omega) (by omega)
  have cb := clam_bd (-clo v)
  have ec : ∀ x : Int, max (-90) (min 90 x) = clam x := fun x => by
    unfold clam
    (repeat' split) <;> omega
  unfold l__law_drawn_segments_3 fixSt
  by_cases hc : clo v = 0
  · have hd : decide (-clo v = 0) = true := decide_eq_true (by omega)
    rw [if_neg (by omega)]
    walk_at "all"
  · have hd : decide (-clo v = 0) = false := decide_eq_false (by omega)
    rw [if_pos (by omega)]
    generalize hs : clam (-clo v) = s at *
    have i1 : B2.fn .ix (.tup [.str "coast", .str "lift"]) (.int (if decide (0 < s) = true then 1 else 0)) = .ok (dv (.str (if s > 0 then "lift" else "coast"))) := by
      by_cases h : s > 0
      · rw [if_pos h, if_pos (decide_eq_true h)]; exact ixT1
      · rw [if_neg h, if_neg (by simpa using h)]; exact ixT0
    have i2 : B2.fn .ix (.lst [.str (if s > 0 then ("lift" : Str) else "coast"), .str "coast"]) (.int (gt dr 21 % 2)) = .ok (dv (.str (kdFix (gt dr 21) s))) := by
      unfold kdFix
      have h2 : gt dr 21 % 2 = 0 ∨ gt dr 21 % 2 = 1 := by omega
      rcases h2 with h | h
      · rw [h, if_pos (show (0 : Int) = 0 from rfl)]; exact ixL0
      · rw [h, if_neg (show ¬ ((1 : Int) = 0) by decide)]; exact ixL1
    have e3 : -clo v - s = -clo ((kdFix (gt dr 21) s, 1, s) :: v) := by
      have : clo ((kdFix (gt dr 21) s, 1, s) :: v) = 1 * s + clo v := by
        rw [← clo_one (kdFix (gt dr 21) s, 1, s), ← clo_app]
        rfl
      rw [this]
      omega
    rw [← e3]
    have z0 : (0 : Int).toNat = 0 := rfl
    walk_at "all"
    simp only [List.take_zero, List.drop_zero, List.nil_append, List.singleton_append, map_consf]
theorem law_drawn_segments {dr : List Int} {m : Int} (ho : drOk dr = true) (m1 : 1 ≤ m) (m2 : m ≤ 40) : m__law_drawn_segments [.lst (dr.map D.int), .int m] = .ok (ov (.lst ((drSeg dr m).map encS))) := by
  have cb := cnt_bd dr
  have e0 := q_gt ho (n := 0) (i := 0) (by omega) (by omega)
  have e20 := q_gt ho (n := 20) (i := 20) (by omega) (by omega)
  have L1 := for_rng (step := forS (.gname 5) l__law_drawn_segments_2) (kill := [5, 6, 7, 8, 9, 10, 11]) (lo := 0) (n := cnt dr) (fun b => [some (.d (.lst (dr.map D.int))), some (.d (.int m)), some (.d (.int (2 + gt dr 0 % 2))), some (.fv (.lst ((segOut dr m b).map encS))), some (.d (.int (clo (segOut dr m b)))), none, none, none, none, none, none, none, none]) fun b hb => by
    have gl := (segOut_gd ho m1 m2 b (by omega)).ln
    exact ds_turn ho m1 m2 (by omega) (by omega)
  have L1 : forF (forS (.gname 5) l__law_drawn_segments_2) [5, 6, 7, 8, 9, 10, 11] (rng 0 (2 + gt dr 0 % 2).toNat) [some (.d (.lst (dr.map D.int))), some (.d (.int m)), some (.d (.int (2 + gt dr 0 % 2))), some (.fv (.lst [])), some (.d (.int 0)), none, none, none, none, none, none, none, none] = _ := L1
  have g0 := segOut_gd ho m1 m2 (cnt dr) cb.2
  obtain ⟨_, hne⟩ := segOut_last (dr := dr) (m := m) (b := cnt dr) (by omega)
  have e1 : rows1 dr m = insAt (insIx dr (segOut dr m (cnt dr))).toNat ("coast", 1, 0) (segOut dr m (cnt dr)) := rfl
  have ec : clo (rows1 dr m) = clo (segOut dr m (cnt dr)) := by rw [e1, clo_ins]; show _ + 1 * 0 = _; omega
  have g1 := rows1_gd ho m1 m2
  have L2 := for_rng (step := forS (.gname 6) l__law_drawn_segments_3) (kill := [6, 9]) (lo := 0) (n := 40) (fun k => [some (.d (.lst (dr.map D.int))), some (.d (.int m)), some (.d (.int (2 + gt dr 0 % 2))), some (.fv (.lst ((fixN dr k (rows1 dr m)).map encS))), some (.d (.int (clo (segOut dr m (cnt dr))))), none, none, none, none, none, none, none, some (.d (.int (-clo (fixN dr k (rows1 dr m)))))]) fun k hk => by
    have gk := (fixN_gd (dr := dr) g1 k).ln
    exact fix_turn ho (by omega)
  have L2 : forF (forS (.gname 6) l__law_drawn_segments_3) [6, 9] (rng 0 40) [some (.d (.lst (dr.map D.int))), some (.d (.int m)), some (.d (.int (2 + gt dr 0 % 2))), some (.fv (.lst ((rows1 dr m).map encS))), some (.d (.int (clo (segOut dr m (cnt dr))))), none, none, none, none, none, none, none, some (.d (.int (-clo (rows1 dr m))))] = .nx [some (.d (.lst (dr.map D.int))), some (.d (.int m)), some (.d (.int (2 + gt dr 0 % 2))), some (.fv (.lst ((drSeg dr m).map encS))), some (.d (.int (clo (segOut dr m (cnt dr))))), none, none, none, none, none, none, none, some (.d (.int (-clo (drSeg dr m))))] := L2
  rw [ec] at L2
  generalize segOut dr m (cnt dr) = w at *
  have hl : 0 < w.length := List.length_pos_iff.mpr hne
  have hli : 0 < (w.length : Int) := by omega
  have b1 := Int.emod_nonneg (gt dr 20) (show (w.length : Int) ≠ 0 by omega)
  have b2 := Int.emod_lt_of_pos (gt dr 20) (show 0 < (w.length : Int) by omega)
  have bl := g0.ln
  have hi : List.take (gt dr 20 % (w.length : Int)).toNat (w.map encS) ++ [encS ("coast", 1, 0)] ++ List.drop (gt dr 20 % (w.length : Int)).toNat (w.map encS) = (rows1 dr m).map encS := by rw [e1]; exact ins_map _ _ _
  have bi : gt dr 20 % (w.length : Int) ≤ 1000000 := by omega
  have t40 : (40 : Int).toNat = 40 := rfl
  clear e1 ec g0 g1 hne
  unfold m__law_drawn_segments runF b__law_drawn_segments
  walk_at "all"
end Lw
end

section
set_option Elab.async false
set_option linter.all false
set_option maxRecDepth 100000
set_option maxHeartbeats 4000000
namespace Lw
open PySem PySem.Spec PyProof.Rows L2 Ci
open Evl (Ex ex_t ex_l sq_of st_of)
local macro_rules | `(tactic| walk_at "run") => `(tactic| simp -implicitDefEqProofs (disch := first | assumption | decide | omega | (simp only [List.length_replicate, List.length_map, List.length_range, List.length_append, List.length_cons, List.length_nil, List.length_take, List.length_drop, List.length_singleton, rollL_len] <;> omega) | fail) only [x_var, x_c, x_kt, x_bin, x_neg, x_andV, x_orV, x_notV, x_chain, x_chain3, x_ife, x_tup, x_lst, x_fld, x_sl, x_cb, x_isi, x_call, x_meth, x_make, x_lc, x_lc2, x_rngv, x_anil, x_acons, x_rnil, x_rcons, x_mnil, x_mcons, x_tst, x_tru, x_andT, x_orT, x_notT, x_yes, x_noP, x_someP, x_seq, x_rng1, x_rng2, x_rng3, x_zip, x_enum, enumF_lst, enumF_tup, x_augI, x_rev, zipF_lst, zipF_tup, revF_lst, x_gname, x_gtup, x_gtl, x_gnil, x_gcons, x_skip, x_sq, x_asgN, x_asgG, x_asgF, x_asgI, x_mut, x_ext, x_lrg, x_nix, x_nset, getN_f, getN_t, putN_f, putN_t, toL_ov, x_popD, x_popG, x_aug, x_drop, x_ret, x_retO, x_retN, x_brk, x_cont, x_raise, x_ifS, x_for, x_while, x_try, x_try2, x_try3, x_frz, x_kill, x_selfS, x_tm, x_fn, x_callv, isFn_d, x_fmt, x_fstr, x_fnil, x_fcons, x_enumK, x_raiseF, x_tryA, tryA_err, tryA_nx, tryA_rt, only_rt, x_xe, x_xf, xf_ok, x_xi, x_xtup, x_xand, x_xnil, x_xcons, x_hret, x_hif, isX_eq, asStr_str, tm_starts, seq_s,
  rd_dv, rd_ov, rd_vw, dat_d, dat_lst, sdat_fv, sdat_obj, toD_sv, toB_dv, toI_dv, mode_f, mode_t, mode_o, mode_v, cd_int, cd_str, cd_bl, cd_non, seq_d, seq_t, seq_o, seq_v, asgNF_sv, retF_sv, sq_nx, sq_rt, sq_err, sq_bk, sq_ct, try_err, try_nx, try_rt, try2_err, try2_nx, try2_rt, try3_err, try3_nx, try3_rt, toR_nx, toR_rt, toR_err, R.bind_ok, R.bind_err, R.bind_bad, R.sr_ok, R.sr_err, R.sr_bad, R.gr_ok, R.gr_err, R.gr_bad,
  o_add, o_sub, o_lt, o_le, o_gt, o_ge, o_eqI, o_neI, o_eqS, o_neS, o_eqB, o_neB, o_is, o_isnot, o_isb, o_notb, k_lenL, k_lenT, k_lenS, k_abs, k_int, k_intB, k_listL, k_listT, k_tupL, k_tupT, k_sum, k_lenset, k_range1, o_shr, o_band, rngVF_dv, k_all, k_any, k_max2, k_min2, k_maxL, k_minL, D.isNon, truD,
  getV, List.getElem?_cons_zero, List.getElem?_cons_succ, List.set_cons_zero, List.set_cons_succ, List.length_cons, List.length_nil, if_true, if_false, Bool.not_true, Bool.not_false, Bool.true_and, Bool.false_and, Bool.and_true, Bool.and_false, reduceIte, reduceCtorEq, Nat.reduceAdd, Nat.reduceSub, Nat.reduceLeDiff, Nat.zero_add, wipeE, startE, padE, List.cons_append, List.nil_append, List.replicate_succ, List.replicate_zero, asgFF, frzF, retOF, SV.isBrw, decide_true, decide_false, Bool.true_eq, Bool.false_eq_true, bool_if_true, bool_if_false, ofString_inj, ofString_beq, String.reduceEq, sq_bad, toR_bad, toI_bad, true_and, and_true, Nat.reduceLT, List.lookup_cons, List.lookup_nil, Int.reduceLT, Int.reduceLE, Int.reduceAdd, Int.reduceSub, Int.reduceMul, Int.reduceNeg, Int.reduceMod, Int.reduceDiv, Int.reducePow, Int.reduceToNat, Int.reduceEq, and_join, or_join, andT_join, orT_join, ixT0, ixT1, ixT2, ixT3, ixT4, ixT5, ixT6, ixL0, ixL1, ixL2, ixL3, ixL4, ixL5, ixL6, wr_nx, wr_ct, wr_bk, wr_rt, wr_err, wr_bad, wr_ite, try_ite, q_ixL, q_ixT, q_ixS, q_ixLast, o_mul, q_mulE, q_mulER, any_rep, q_mulLl, q_mulRl, q_divl, q_modl, q_div, q_mod, q_pow, q_appendM, q_append0, q_append, q_lrg, q_lzip, q_insertM, q_insert, q_line, q_line', q_mil, q_rng1, q_rng2, q_rng3, q_rep1, q_addL, List.length_map, List.length_append, map_snoc, Int.zero_add, getL, getP, putP, extF, forS, lcS, quiet_okS, quiet_ite, q_fldv, fldO_obj, fldO_ins, fvR_d, fvR_lst, dvR_some, augF, selfF, toI_dv, lentR, RV.noL, List.mem_cons, List.not_mem_nil, or_false, true_or, or_true, lk_yes, rng_len, List.length_range, List.length_range', Int.sub_add_cancel, Int.add_sub_cancel, List.length_replicate, Bool.or_false, Bool.or_true, Bool.true_or, Bool.false_or, and_self, Int.toNat_natCast, q_cast, x_seqb', x_lend', lendO_lst, seqbO_brw, i_nb, i_bb, i_ib, i_sb, i_tb, i_lb, i_ns, i_is, i_ss, i_ts, i_ls, i_ni, i_ii, i_ti, i_li, i_tl, i_ll, i_tt, i_lt, eq_self, Bool.not_not, not_true_eq_false, not_false_eq_true, kit_bool, Bool.true_beq, Bool.false_beq, beq_self_eq_true, only_ite, tryA_ite, sq_ite, bind_ite, sr_ite, gr_ite, toR_ite, toI_ite, toI_nx, toI_err, getO_x, putX, Bool.not_eq_true', me_parts, me_first, rd_fold, rf_ways, rf_over, rf_trains, encSt_tup, x_gtup_st, ixSt0, ixSt1, ixSt2, o_eqSg, o_neSg, q_inSt, q_inSl, q_notinSl, isNon_encFt, sg_fold, x_gtup_sg, ixSg0, ixSg1, ixSg2, lo_fold, tn_fold, ms_len, hs_len, br_len, bs_len, fl_segments, fl_metres, fl_heights, fl_begins, fl_brakes, me_total, me_blocks, me_metre, me_height, me_begin, me_brake, me_end, me_cm, me_cb, ft_length, ft_friction, ft_brake, ft_lift, ft_drive, ixTr0, ixTr1, ixTr2, ixTr3, ixTr4, encO_none, encO_some, isNon_encO, repI, repN, consI, q_slF, q_slM, q_slT, zipD_zip, q_inI, law_drawn_segments])
local macro_rules | `(tactic| walk_at "all") => `(tactic| simp -implicitDefEqProofs (disch := first | assumption | decide | omega | (simp only [List.length_replicate, List.length_map, List.length_range, List.length_append, List.length_cons, List.length_nil, List.length_take, List.length_drop, List.length_singleton, rollL_len] <;> omega) | fail) only [x_var, x_c, x_kt, x_bin, x_neg, x_andV, x_orV, x_notV, x_chain, x_chain3, x_ife, x_tup, x_lst, x_fld, x_sl, x_cb, x_isi, x_call, x_meth, x_make, x_lc, x_lc2, x_rngv, x_anil, x_acons, x_rnil, x_rcons, x_mnil, x_mcons, x_tst, x_tru, x_andT, x_orT, x_notT, x_yes, x_noP, x_someP, x_seq, x_rng1, x_rng2, x_rng3, x_zip, x_enum, enumF_lst, enumF_tup, x_augI, x_rev, zipF_lst, zipF_tup, revF_lst, x_gname, x_gtup, x_gtl, x_gnil, x_gcons, x_skip, x_sq, x_asgN, x_asgG, x_asgF, x_asgI, x_mut, x_ext, x_lrg, x_nix, x_nset, getN_f, getN_t, putN_f, putN_t, toL_ov, x_popD, x_popG, x_aug, x_drop, x_ret, x_retO, x_retN, x_brk, x_cont, x_raise, x_ifS, x_for, x_while, x_try, x_try2, x_try3, x_frz, x_kill, x_selfS, x_tm, x_fn, x_callv, isFn_d, x_fmt, x_fstr, x_fnil, x_fcons, x_enumK, x_raiseF, x_tryA, tryA_err, tryA_nx, tryA_rt, only_rt, x_xe, x_xf, xf_ok, x_xi, x_xtup, x_xand, x_xnil, x_xcons, x_hret, x_hif, isX_eq, asStr_str, tm_starts, seq_s,
  rd_dv, rd_ov, rd_vw, dat_d, dat_lst, sdat_fv, sdat_obj, toD_sv, toB_dv, toI_dv, mode_f, mode_t, mode_o, mode_v, cd_int, cd_str, cd_bl, cd_non, seq_d, seq_t, seq_o, seq_v, asgNF_sv, retF_sv, sq_nx, sq_rt, sq_err, sq_bk, sq_ct, try_err, try_nx, try_rt, try2_err, try2_nx, try2_rt, try3_err, try3_nx, try3_rt, toR_nx, toR_rt, toR_err, R.bind_ok, R.bind_err, R.bind_bad, R.sr_ok, R.sr_err, R.sr_bad, R.gr_ok, R.gr_err, R.gr_bad,
  o_add, o_sub, o_lt, o_le, o_gt, o_ge, o_eqI, o_neI, o_eqS, o_neS, o_eqB, o_neB, o_is, o_isnot, o_isb, o_notb, k_lenL, k_lenT, k_lenS, k_abs, k_int, k_intB, k_listL, k_listT, k_tupL, k_tupT, k_sum, k_lenset, k_range1, o_shr, o_band, rngVF_dv, k_all, k_any, k_max2, k_min2, k_maxL, k_minL, D.isNon, truD,
  getV, List.getElem?_cons_zero, List.getElem?_cons_succ, List.set_cons_zero, List.set_cons_succ, List.length_cons, List.length_nil, if_true, if_false, Bool.not_true, Bool.not_false, Bool.true_and, Bool.false_and, Bool.and_true, Bool.and_false, reduceIte, reduceCtorEq, Nat.reduceAdd, Nat.reduceSub, Nat.reduceLeDiff, Nat.zero_add, wipeE, startE, padE, List.cons_append, List.nil_append, List.replicate_succ, List.replicate_zero, asgFF, frzF, retOF, SV.isBrw, decide_true, decide_false, Bool.true_eq, Bool.false_eq_true, bool_if_true, bool_if_false, ofString_inj, ofString_beq, String.reduceEq, sq_bad, toR_bad, toI_bad, true_and, and_true, Nat.reduceLT, List.lookup_cons, List.lookup_nil, Int.reduceLT, Int.reduceLE, Int.reduceAdd, Int.reduceSub, Int.reduceMul, Int.reduceNeg, Int.reduceMod, Int.reduceDiv, Int.reducePow, Int.reduceToNat, Int.reduceEq, and_join, or_join, andT_join, orT_join, ixT0, ixT1, ixT2, ixT3, ixT4, ixT5, ixT6, ixL0, ixL1, ixL2, ixL3, ixL4, ixL5, ixL6, wr_nx, wr_ct, wr_bk, wr_rt, wr_err, wr_bad, wr_ite, try_ite, q_ixL, q_ixT, q_ixS, q_ixLast, o_mul, q_mulE, q_mulER, any_rep, q_mulLl, q_mulRl, q_divl, q_modl, q_div, q_mod, q_pow, q_appendM, q_append0, q_append, q_lrg, q_lzip, q_insertM, q_insert, q_line, q_line', q_mil, q_rng1, q_rng2, q_rng3, q_rep1, q_addL, List.length_map, List.length_append, map_snoc, Int.zero_add, getL, getP, putP, extF, forS, lcS, quiet_okS, quiet_ite, q_fldv, fldO_obj, fldO_ins, fvR_d, fvR_lst, dvR_some, augF, selfF, toI_dv, lentR, RV.noL, List.mem_cons, List.not_mem_nil, or_false, true_or, or_true, lk_yes, rng_len, List.length_range, List.length_range', Int.sub_add_cancel, Int.add_sub_cancel, List.length_replicate, Bool.or_false, Bool.or_true, Bool.true_or, Bool.false_or, and_self, Int.toNat_natCast, q_cast, x_seqb', x_lend', lendO_lst, seqbO_brw, i_nb, i_bb, i_ib, i_sb, i_tb, i_lb, i_ns, i_is, i_ss, i_ts, i_ls, i_ni, i_ii, i_ti, i_li, i_tl, i_ll, i_tt, i_lt, eq_self, Bool.not_not, not_true_eq_false, not_false_eq_true, kit_bool, Bool.true_beq, Bool.false_beq, beq_self_eq_true, only_ite, tryA_ite, sq_ite, bind_ite, sr_ite, gr_ite, toR_ite, toI_ite, toI_nx, toI_err, getO_x, putX, Bool.not_eq_true', me_parts, me_first, rd_fold, rf_ways, rf_over, rf_trains, encSt_tup, x_gtup_st, ixSt0, ixSt1, ixSt2, o_eqSg, o_neSg, q_inSt, q_inSl, q_notinSl, isNon_encFt, sg_fold, x_gtup_sg, ixSg0, ixSg1, ixSg2, lo_fold, tn_fold, ms_len, hs_len, br_len, bs_len, fl_segments, fl_metres, fl_heights, fl_begins, fl_brakes, me_total, me_blocks, me_metre, me_height, me_begin, me_brake, me_end, me_cm, me_cb, ft_length, ft_friction, ft_brake, ft_lift, ft_drive, ixTr0, ixTr1, ixTr2, ixTr3, ixTr4, encO_none, encO_some, isNon_encO, repI, repN, consI, q_slF, q_slM, q_slT, zipD_zip, q_inI, law_drawn_segments, *])
def e__law_drawn_layout_1 : P .e :=
  (.bin .mul (.var 4) (.var 5))
def b__law_drawn_layout : P .s :=
  (.sq (.asgG (.gname 1) (.call [false, false] m__law_drawn_segments (.mcons false (.var 0) (.mcons false (.c (.int 5)) .mnil))))
  (.sq (.asgG (.gname 2) (.cb .sum (.rcons (.lc (.seq (.var 1)) (.gtup 3 (.gcons (.gname 3) (.gcons (.gname 4) (.gcons (.gname 5) .gnil)))) .yes e__law_drawn_layout_1 [3, 4, 5]) .rnil)))
  (.sq (.ifS (.tst (.bin .ne (.var 2) (.c (.int 0)))) (.asgG (.gname 1) (.lst (.acons (.tup (.acons (.c (.str "lift")) (.acons (.c (.int 6)) (.acons (.c (.int 25)) .anil)))) (.acons (.tup (.acons (.c (.str "coast")) (.acons (.c (.int 5)) (.acons (.neg (.c (.int 30))) .anil)))) (.acons (.tup (.acons (.c (.str "brake")) (.acons (.c (.int 3)) (.acons (.c (.int 0)) .anil)))) (.acons (.tup (.acons (.c (.str "coast")) (.acons (.c (.int 3)) (.acons (.c (.int 0)) .anil)))) (.acons (.tup (.acons (.c (.str "brake")) (.acons (.c (.int 4)) (.acons (.c (.int 0)) .anil)))) .anil))))))) .skip)
  (.ret (.var 1)))))
def m__law_drawn_layout : List D → R RV := runF 6 [false] b__law_drawn_layout
--spec law_drawn_layout
theorem law_drawn_layout {dr : List Int} (h : drOk dr = true) : m__law_drawn_layout [.lst (dr.map D.int)] = .ok (dv (.lst ((drLay dr).map encS))) := by
  have g := drSeg_gd (m := 5) h (by decide) (by decide)
  have sok : ∀ s, s ∈ drSeg dr 5 → segOk s = true := fun s hs => List.all_eq_true.mp g.ok s hs
  have hl := g.ln
  have L : lcF (lcS (.gtup 3 (.gcons (.gname 3) (.gcons (.gname 4) (.gcons (.gname 5) .gnil)))) .yes e__law_drawn_layout_1 [some (.d (.lst (dr.map D.int))), some (.d (.lst ((drSeg dr 5).map encS))), none, none, none, none]) ((drSeg dr 5).map encS) = .ok (((drSeg dr 5).map fun s => s.2.1 * s.2.2).map D.int) := by
    rw [List.map_map]
    exact lc_map encS (fun s => D.int (s.2.1 * s.2.2)) fun s hs => by
      have b := segOk_bd (sok s hs)
      have hm : Ci.MulOk s.2.1 s.2.2 := mulR (by omega) (by omega)
      unfold e__law_drawn_layout_1
      walk_at "run"
  unfold drLay
  have e : ((drSeg dr 5).map fun s => s.2.1 * s.2.2).sum = clo (drSeg dr 5) := rfl
  unfold m__law_drawn_layout runF b__law_drawn_layout
  by_cases c : clo (drSeg dr 5) = 0
  · have hd : decide (clo (drSeg dr 5) = 0) = true := decide_eq_true c
    rw [if_neg (by omega)]
    walk_at "all"
  · have hd : decide (clo (drSeg dr 5) = 0) = false := decide_eq_false c
    rw [if_pos (by omega)]
    walk_at "all"
    rfl
end Lw
end

section
set_option Elab.async false
set_option linter.all false
set_option maxRecDepth 100000
set_option maxHeartbeats 4000000
namespace Lw
open PySem PySem.Spec PyProof.Rows L2 Ci
open Evl (Ex ex_t ex_l sq_of st_of)
local macro_rules | `(tactic| walk_at "all") => `(tactic| simp -implicitDefEqProofs (disch := first | assumption | decide | omega | (simp only [List.length_replicate, List.length_map, List.length_range, List.length_append, List.length_cons, List.length_nil, List.length_take, List.length_drop, List.length_singleton, rollL_len] <;> omega) | fail) only [x_var, x_c, x_kt, x_bin, x_neg, x_andV, x_orV, x_notV, x_chain, x_chain3, x_ife, x_tup, x_lst, x_fld, x_sl, x_cb, x_isi, x_call, x_meth, x_make, x_lc, x_lc2, x_rngv, x_anil, x_acons, x_rnil, x_rcons, x_mnil, x_mcons, x_tst, x_tru, x_andT, x_orT, x_notT, x_yes, x_noP, x_someP, x_seq, x_rng1, x_rng2, x_rng3, x_zip, x_enum, enumF_lst, enumF_tup, x_augI, x_rev, zipF_lst, zipF_tup, revF_lst, x_gname, x_gtup, x_gtl, x_gnil, x_gcons, x_skip, x_sq, x_asgN, x_asgG, x_asgF, x_asgI, x_mut, x_ext, x_lrg, x_nix, x_nset, getN_f, getN_t, putN_f, putN_t, toL_ov, x_popD, x_popG, x_aug, x_drop, x_ret, x_retO, x_retN, x_brk, x_cont, x_raise, x_ifS, x_for, x_while, x_try, x_try2, x_try3, x_frz, x_kill, x_selfS, x_tm, x_fn, x_callv, isFn_d, x_fmt, x_fstr, x_fnil, x_fcons, x_enumK, x_raiseF, x_tryA, tryA_err, tryA_nx, tryA_rt, only_rt, x_xe, x_xf, xf_ok, x_xi, x_xtup, x_xand, x_xnil, x_xcons, x_hret, x_hif, isX_eq, asStr_str, tm_starts, seq_s,
  rd_dv, rd_ov, rd_vw, dat_d, dat_lst, sdat_fv, sdat_obj, toD_sv, toB_dv, toI_dv, mode_f, mode_t, mode_o, mode_v, cd_int, cd_str, cd_bl, cd_non, seq_d, seq_t, seq_o, seq_v, asgNF_sv, retF_sv, sq_nx, sq_rt, sq_err, sq_bk, sq_ct, try_err, try_nx, try_rt, try2_err, try2_nx, try2_rt, try3_err, try3_nx, try3_rt, toR_nx, toR_rt, toR_err, R.bind_ok, R.bind_err, R.bind_bad, R.sr_ok, R.sr_err, R.sr_bad, R.gr_ok, R.gr_err, R.gr_bad,
  o_add, o_sub, o_lt, o_le, o_gt, o_ge, o_eqI, o_neI, o_eqS, o_neS, o_eqB, o_neB, o_is, o_isnot, o_isb, o_notb, k_lenL, k_lenT, k_lenS, k_abs, k_int, k_intB, k_listL, k_listT, k_tupL, k_tupT, k_sum, k_lenset, k_range1, o_shr, o_band, rngVF_dv, k_all, k_any, k_max2, k_min2, k_maxL, k_minL, D.isNon, truD,
  getV, List.getElem?_cons_zero, List.getElem?_cons_succ, List.set_cons_zero, List.set_cons_succ, List.length_cons, List.length_nil, if_true, if_false, Bool.not_true, Bool.not_false, Bool.true_and, Bool.false_and, Bool.and_true, Bool.and_false, reduceIte, reduceCtorEq, Nat.reduceAdd, Nat.reduceSub, Nat.reduceLeDiff, Nat.zero_add, wipeE, startE, padE, List.cons_append, List.nil_append, List.replicate_succ, List.replicate_zero, asgFF, frzF, retOF, SV.isBrw, decide_true, decide_false, Bool.true_eq, Bool.false_eq_true, bool_if_true, bool_if_false, ofString_inj, ofString_beq, String.reduceEq, sq_bad, toR_bad, toI_bad, true_and, and_true, Nat.reduceLT, List.lookup_cons, List.lookup_nil, Int.reduceLT, Int.reduceLE, Int.reduceAdd, Int.reduceSub, Int.reduceMul, Int.reduceNeg, Int.reduceMod, Int.reduceDiv, Int.reducePow, Int.reduceToNat, Int.reduceEq, and_join, or_join, andT_join, orT_join, ixT0, ixT1, ixT2, ixT3, ixT4, ixT5, ixT6, ixL0, ixL1, ixL2, ixL3, ixL4, ixL5, ixL6, wr_nx, wr_ct, wr_bk, wr_rt, wr_err, wr_bad, wr_ite, try_ite, q_ixL, q_ixT, q_ixS, q_ixLast, o_mul, q_mulE, q_mulER, any_rep, q_mulLl, q_mulRl, q_divl, q_modl, q_div, q_mod, q_pow, q_appendM, q_append0, q_append, q_lrg, q_lzip, q_insertM, q_insert, q_line, q_line', q_mil, q_rng1, q_rng2, q_rng3, q_rep1, q_addL, List.length_map, List.length_append, map_snoc, Int.zero_add, getL, getP, putP, extF, forS, lcS, quiet_okS, quiet_ite, q_fldv, fldO_obj, fldO_ins, fvR_d, fvR_lst, dvR_some, augF, selfF, toI_dv, lentR, RV.noL, List.mem_cons, List.not_mem_nil, or_false, true_or, or_true, lk_yes, rng_len, List.length_range, List.length_range', Int.sub_add_cancel, Int.add_sub_cancel, List.length_replicate, Bool.or_false, Bool.or_true, Bool.true_or, Bool.false_or, and_self, Int.toNat_natCast, q_cast, x_seqb', x_lend', lendO_lst, seqbO_brw, i_nb, i_bb, i_ib, i_sb, i_tb, i_lb, i_ns, i_is, i_ss, i_ts, i_ls, i_ni, i_ii, i_ti, i_li, i_tl, i_ll, i_tt, i_lt, eq_self, Bool.not_not, not_true_eq_false, not_false_eq_true, kit_bool, Bool.true_beq, Bool.false_beq, beq_self_eq_true, only_ite, tryA_ite, sq_ite, bind_ite, sr_ite, gr_ite, toR_ite, toI_ite, toI_nx, toI_err, getO_x, putX, Bool.not_eq_true', me_parts, me_first, rd_fold, rf_ways, rf_over, rf_trains, encSt_tup, x_gtup_st, ixSt0, ixSt1, ixSt2, o_eqSg, o_neSg, q_inSt, q_inSl, q_notinSl, isNon_encFt, sg_fold, x_gtup_sg, ixSg0, ixSg1, ixSg2, lo_fold, tn_fold, ms_len, hs_len, br_len, bs_len, fl_segments, fl_metres, fl_heights, fl_begins, fl_brakes, me_total, me_blocks, me_metre, me_height, me_begin, me_brake, me_end, me_cm, me_cb, ft_length, ft_friction, ft_brake, ft_lift, ft_drive, ixTr0, ixTr1, ixTr2, ixTr3, ixTr4, encO_none, encO_some, isNon_encO, repI, repN, consI, q_slF, q_slM, q_slT, zipD_zip, q_inI, encSo_none, encSo_some, encSo_non, in_sign, notin_sign, o_lenStr, o_str, o_fmt, sl1, enumK_ok, parse_layout, read_lines, read_segment, read_number, read_slope, layout_init, are_a_round, are_segments, place_metres, *])
def b__law_told : P .s :=
  (.tryA 6 1 [6] (.ret (.fld [0] (.call [false] m_parse_layout (.mcons false (.tm .join (.c (.str "\n")) (.var 0)) .mnil)) "segments")) (.hret (.xf 6 "line")))
def m__law_told : List D → R RV := runF 2 [false] b__law_told
--spec law_told map_app2 map_consf
/-- what is told of lines -/
def toldD (ls : List Str) : D := match parL ls with
  | .ok ss => .tup (ss.map encS)
  | .error n => .int n
theorem law_told {ls : List Str} (h0 : ls ≠ []) (h1 : ∀ l ∈ ls, l.length ≤ 100) (h2 : ∀ l ∈ ls, 10 ∉ tl l) (h3 : ls.length ≤ 1000) : m__law_told [.lst (ls.map D.str)] = .ok (dv (toldD ls)) := by
  have j := tm_joinL (a := "\n") (ys := ls) (by have := join_lines h1 h3; omega)
  have p := parse_layout h0 h1 h2 h3
  unfold m__law_told runF b__law_told toldD
  clear h0 h1 h2 h3
  cases e : parL ls with
  | error n =>
    rw [e] at p
    walk_at "all"
  | ok ss =>
    rw [e] at p
    have f : fldF [0] "segments" (.sv (.obj false 0 (loV ss (pls ss)))) = .ok (dv (.tup (ss.map encS))) := rfl
    walk_at "all"
end Lw
end

section
set_option Elab.async false
set_option linter.all false
set_option maxRecDepth 100000
set_option maxHeartbeats 4000000
namespace Lw
open PySem PySem.Spec PyProof.Rows L2 Ci
open Evl (Ex ex_t ex_l sq_of st_of)
local macro_rules | `(tactic| walk_at "all") => `(tactic| simp -implicitDefEqProofs (disch := first | assumption | decide | omega | (simp only [List.length_replicate, List.length_map, List.length_range, List.length_append, List.length_cons, List.length_nil, List.length_take, List.length_drop, List.length_singleton, rollL_len] <;> omega) | fail) only [x_var, x_c, x_kt, x_bin, x_neg, x_andV, x_orV, x_notV, x_chain, x_chain3, x_ife, x_tup, x_lst, x_fld, x_sl, x_cb, x_isi, x_call, x_meth, x_make, x_lc, x_lc2, x_rngv, x_anil, x_acons, x_rnil, x_rcons, x_mnil, x_mcons, x_tst, x_tru, x_andT, x_orT, x_notT, x_yes, x_noP, x_someP, x_seq, x_rng1, x_rng2, x_rng3, x_zip, x_enum, enumF_lst, enumF_tup, x_augI, x_rev, zipF_lst, zipF_tup, revF_lst, x_gname, x_gtup, x_gtl, x_gnil, x_gcons, x_skip, x_sq, x_asgN, x_asgG, x_asgF, x_asgI, x_mut, x_ext, x_lrg, x_nix, x_nset, getN_f, getN_t, putN_f, putN_t, toL_ov, x_popD, x_popG, x_aug, x_drop, x_ret, x_retO, x_retN, x_brk, x_cont, x_raise, x_ifS, x_for, x_while, x_try, x_try2, x_try3, x_frz, x_kill, x_selfS, x_tm, x_fn, x_callv, isFn_d, x_fmt, x_fstr, x_fnil, x_fcons, x_enumK, x_raiseF, x_tryA, tryA_err, tryA_nx, tryA_rt, only_rt, x_xe, x_xf, xf_ok, x_xi, x_xtup, x_xand, x_xnil, x_xcons, x_hret, x_hif, isX_eq, asStr_str, tm_starts, seq_s,
  rd_dv, rd_ov, rd_vw, dat_d, dat_lst, sdat_fv, sdat_obj, toD_sv, toB_dv, toI_dv, mode_f, mode_t, mode_o, mode_v, cd_int, cd_str, cd_bl, cd_non, seq_d, seq_t, seq_o, seq_v, asgNF_sv, retF_sv, sq_nx, sq_rt, sq_err, sq_bk, sq_ct, try_err, try_nx, try_rt, try2_err, try2_nx, try2_rt, try3_err, try3_nx, try3_rt, toR_nx, toR_rt, toR_err, R.bind_ok, R.bind_err, R.bind_bad, R.sr_ok, R.sr_err, R.sr_bad, R.gr_ok, R.gr_err, R.gr_bad,
  o_add, o_sub, o_lt, o_le, o_gt, o_ge, o_eqI, o_neI, o_eqS, o_neS, o_eqB, o_neB, o_is, o_isnot, o_isb, o_notb, k_lenL, k_lenT, k_lenS, k_abs, k_int, k_intB, k_listL, k_listT, k_tupL, k_tupT, k_sum, k_lenset, k_range1, o_shr, o_band, rngVF_dv, k_all, k_any, k_max2, k_min2, k_maxL, k_minL, D.isNon, truD,
  getV, List.getElem?_cons_zero, List.getElem?_cons_succ, List.set_cons_zero, List.set_cons_succ, List.length_cons, List.length_nil, if_true, if_false, Bool.not_true, Bool.not_false, Bool.true_and, Bool.false_and, Bool.and_true, Bool.and_false, reduceIte, reduceCtorEq, Nat.reduceAdd, Nat.reduceSub, Nat.reduceLeDiff, Nat.zero_add, wipeE, startE, padE, List.cons_append, List.nil_append, List.replicate_succ, List.replicate_zero, asgFF, frzF, retOF, SV.isBrw, decide_true, decide_false, Bool.true_eq, Bool.false_eq_true, bool_if_true, bool_if_false, ofString_inj, ofString_beq, String.reduceEq, sq_bad, toR_bad, toI_bad, true_and, and_true, Nat.reduceLT, List.lookup_cons, List.lookup_nil, Int.reduceLT, Int.reduceLE, Int.reduceAdd, Int.reduceSub, Int.reduceMul, Int.reduceNeg, Int.reduceMod, Int.reduceDiv, Int.reducePow, Int.reduceToNat, Int.reduceEq, and_join, or_join, andT_join, orT_join, ixT0, ixT1, ixT2, ixT3, ixT4, ixT5, ixT6, ixL0, ixL1, ixL2, ixL3, ixL4, ixL5, ixL6, wr_nx, wr_ct, wr_bk, wr_rt, wr_err, wr_bad, wr_ite, try_ite, q_ixL, q_ixT, q_ixS, q_ixLast, o_mul, q_mulE, q_mulER, any_rep, q_mulLl, q_mulRl, q_divl, q_modl, q_div, q_mod, q_pow, q_appendM, q_append0, q_append, q_lrg, q_lzip, q_insertM, q_insert, q_line, q_line', q_mil, q_rng1, q_rng2, q_rng3, q_rep1, q_addL, List.length_map, List.length_append, map_snoc, Int.zero_add, getL, getP, putP, extF, forS, lcS, quiet_okS, quiet_ite, q_fldv, fldO_obj, fldO_ins, fvR_d, fvR_lst, dvR_some, augF, selfF, toI_dv, lentR, RV.noL, List.mem_cons, List.not_mem_nil, or_false, true_or, or_true, lk_yes, rng_len, List.length_range, List.length_range', Int.sub_add_cancel, Int.add_sub_cancel, List.length_replicate, Bool.or_false, Bool.or_true, Bool.true_or, Bool.false_or, and_self, Int.toNat_natCast, q_cast, x_seqb', x_lend', lendO_lst, seqbO_brw, i_nb, i_bb, i_ib, i_sb, i_tb, i_lb, i_ns, i_is, i_ss, i_ts, i_ls, i_ni, i_ii, i_ti, i_li, i_tl, i_ll, i_tt, i_lt, eq_self, Bool.not_not, not_true_eq_false, not_false_eq_true, kit_bool, Bool.true_beq, Bool.false_beq, beq_self_eq_true, only_ite, tryA_ite, sq_ite, bind_ite, sr_ite, gr_ite, toR_ite, toI_ite, toI_nx, toI_err, getO_x, putX, Bool.not_eq_true', me_parts, me_first, rd_fold, rf_ways, rf_over, rf_trains, encSt_tup, x_gtup_st, ixSt0, ixSt1, ixSt2, o_eqSg, o_neSg, q_inSt, q_inSl, q_notinSl, isNon_encFt, sg_fold, x_gtup_sg, ixSg0, ixSg1, ixSg2, lo_fold, tn_fold, ms_len, hs_len, br_len, bs_len, fl_segments, fl_metres, fl_heights, fl_begins, fl_brakes, me_total, me_blocks, me_metre, me_height, me_begin, me_brake, me_end, me_cm, me_cb, ft_length, ft_friction, ft_brake, ft_lift, ft_drive, ixTr0, ixTr1, ixTr2, ixTr3, ixTr4, encO_none, encO_some, isNon_encO, repI, repN, consI, q_slF, q_slM, q_slT, zipD_zip, q_inI, encSo_none, encSo_some, encSo_non, in_sign, notin_sign, o_lenStr, o_str, o_fmt, sl1, enumK_ok, law_draws, law_cell, law_drawn_layout, law_drawn_segments, law_like, law_like_int, law_like_bl, law_like_non, law_like_ints, law_like_intl, law_told, map_app2, map_consf, parse_layout, read_lines, read_segment, read_number, read_slope, layout_init, are_a_round, are_segments, place_metres, format_layout, *])
def e_law_1 : P .e :=
  (.bin .add (.bin .add (.bin .add (.bin .add (.var 4) (.c (.str " "))) (.cb .str (.rcons (.var 5) .rnil))) (.c (.str " "))) (.cb .str (.rcons (.var 6) .rnil)))
def l_law_1 : P .s :=
  (.sq (.asgG (.gname 10) (.bin .ix (.var 8) (.bin .mod (.bin .ix (.var 1) (.bin .add (.c (.int 26)) (.var 9))) (.cb .len (.rcons (.var 8) .rnil)))))
  (.sq (.ifS (.notT (.tru (.call [false, false] m__law_like (.mcons false (.call [false] m__law_told (.mcons false (.bin .add (.bin .add (.sl (.var 3) .noP (.someP (.var 7))) (.lst (.acons (.var 10) .anil))) (.sl (.var 3) (.someP (.var 7)) .noP)) .mnil)) (.mcons false (.bin .add (.var 7) (.c (.int 1))) .mnil))))) (.ret (.c (.bl false))) .skip)
  (.ifS (.notT (.tru (.call [false, false] m__law_like (.mcons false (.call [false] m__law_told (.mcons false (.bin .add (.bin .add (.bin .add (.sl (.var 3) .noP (.someP (.var 7))) (.lst (.acons (.var 10) .anil))) (.sl (.var 3) (.someP (.var 7)) .noP)) (.lst (.acons (.c (.str "x")) .anil))) .mnil)) (.mcons false (.bin .add (.var 7) (.c (.int 1))) .mnil))))) (.ret (.c (.bl false))) .skip)))
def l_law_2 : P .s :=
  (.ifS (.notT (.tru (.call [false, false] m__law_like (.mcons false (.call [false] m__law_told (.mcons false (.var 11) .mnil)) (.mcons false (.cb .len (.rcons (.var 11) .rnil)) .mnil))))) (.ret (.c (.bl false))) .skip)
def b_law : P .s :=
  (.sq (.asgG (.gname 1) (.call [false, false] m__law_draws (.mcons false (.call [false, false] m__law_cell (.mcons false (.var 0) (.mcons false (.c (.int 0)) .mnil))) (.mcons false (.c (.int 30)) .mnil))))
  (.sq (.asgG (.gname 2) (.call [false] m__law_drawn_layout (.mcons false (.var 1) .mnil)))
  (.sq (.asgG (.gname 3) (.lc (.seq (.var 2)) (.gtup 3 (.gcons (.gname 4) (.gcons (.gname 5) (.gcons (.gname 6) .gnil)))) .yes e_law_1 [4, 5, 6]))
  (.sq (.ifS (.orT (.notT (.tru (.call [false, false] m__law_like (.mcons false (.call [false] m_format_layout (.mcons false (.make 0 [true] m_Layout___init__ (.mcons true (.var 2) .mnil)) .mnil)) (.mcons false (.tm .join (.c (.str "\n")) (.var 3)) .mnil))))) (.notT (.tru (.call [false, false] m__law_like (.mcons false (.call [false] m__law_told (.mcons false (.var 3) .mnil)) (.mcons false (.cb .tuple (.rcons (.var 2) .rnil)) .mnil)))))) (.ret (.c (.bl false))) .skip)
  (.sq (.asgG (.gname 7) (.bin .mod (.bin .ix (.var 1) (.c (.int 25))) (.cb .len (.rcons (.var 3) .rnil))))
  (.sq (.asgG (.gname 8) (.lst (.acons (.c (.str "")) (.acons (.c (.str "coast")) (.acons (.c (.str "coast 1")) (.acons (.c (.str "coast 1 0 0")) (.acons (.c (.str "coast  1 0")) (.acons (.c (.str " coast 1 0")) (.acons (.c (.str "coast 1 0 ")) (.acons (.c (.str "coast 01 0")) (.acons (.c (.str "coast -1 0")) (.acons (.c (.str "coast 1 -0")) (.acons (.c (.str "coast 1 +0")) (.acons (.c (.str "coast 1 00")) .anil))))))))))))))
  (.sq (.asgG (.gname 8) (.bin .add (.var 8) (.lst (.acons (.c (.str "coast 1 -01")) (.acons (.c (.str "Coast 1 0")) (.acons (.c (.str "loop 1 0")) (.acons (.c (.str "coast x 0")) (.acons (.c (.str "coast 1 -")) (.acons (.c (.str "coast 1234567890 0")) (.acons (.c (.str "coast 1 1234567890")) (.acons (.c (.str "brake 1 --1")) .anil)))))))))))
  (.sq (.for (.rng1 (.acons (.c (.int 3)) .anil)) (.gname 9) l_law_1 [9, 10])
  (.sq (.for (.seq (.lst (.acons (.bin .add (.var 3) (.lst (.acons (.c (.str "coast 1 0")) .anil))) (.acons (.bin .add (.lst (.acons (.c (.str "coast 0 0")) .anil)) (.var 3)) (.acons (.bin .add (.lst (.acons (.c (.str "coast 1 1")) .anil)) (.var 3)) (.acons (.bin .add (.lst (.acons (.c (.str "coast 501 0")) .anil)) (.var 3)) (.acons (.lst (.acons (.c (.str "brake 1 0")) .anil)) (.acons (.bin .add (.var 3) (.lst (.acons (.c (.str "brake 999999999 -999999999")) .anil))) .anil)))))))) (.gname 11) l_law_2 [11])
  (.ret (.c (.bl true))))))))))))
def m_law : List D → R RV := runF 12 [false] b_law
def bads : List Str := ["", "coast", "coast 1", "coast 1 0 0", "coast  1 0", " coast 1 0", "coast 1 0 ", "coast 01 0", "coast -1 0", "coast 1 -0", "coast 1 +0", "coast 1 00",
  "coast 1 -01", "Coast 1 0", "loop 1 0", "coast x 0", "coast 1 -", "coast 1234567890 0", "coast 1 1234567890", "brake 1 --1"]
theorem bads_none : ∀ w ∈ bads, segR w = none ∧ w.length ≤ 100 ∧ 10 ∉ tl w := by
  have h : bads.all (fun w => (segR w).isNone && (decide (w.length ≤ 100) && decide (10 ∉ tl w))) = true := by decide +kernel
  intro w m
  have := List.all_eq_true.mp h w m
  simp only [Bool.and_eq_true, decide_eq_true_eq, Option.isNone_iff_eq_none] at this
  exact this
theorem segR_seg {s : Sg} (h : segOk s = true) : segR (segT s) = some s := by
  have b := segOk_bd h
  have k := kind_len b.1
  unfold segR segT
  rw [← join3, split_sp (by simp) (by
    intro w m
    simp only [List.mem_cons, List.not_mem_nil, or_false] at m
    rcases m with rfl | rfl | rfl
    · exact k.2.1
    · exact strI_free (by omega)
    · exact strI_free (by omega))]
  unfold segW
  simp only
  rw [if_pos b.1, numR_num (by omega) (by omega), slopeR_num (by omega)]
theorem segT_nl {s : Sg} (h : segOk s = true) : 10 ∉ tl (segT s) := by
  have b := segOk_bd h
  have k := kind_len b.1
  unfold segT
  rw [tl_app, tl_app, tl_app, tl_app, tl_sp]
  simp only [List.mem_append, List.mem_singleton, not_or]
  exact ⟨⟨⟨⟨k.2.2, by decide⟩, strI_free (by omega)⟩, by decide⟩, strI_free (by omega)⟩
theorem rdL_cons {α : Type} {g : Str → Option α} {l : Str} {r : List Str} {k : Int} : rdL g (l :: r) k = (match g l with
    | none => .error k
    | some a => match rdL g r (k + 1) with
      | .ok as => .ok (a :: as)
      | .error n => .error n) := rfl
theorem rdL_ok {α β : Type} {g : Str → Option α} {f : β → Str} {e : β → α} : ∀ {l : List β} {k : Int}, (∀ s ∈ l, g (f s) = some (e s)) → rdL g (l.map f) k = .ok (l.map e)
  | [], _, _ => rfl
  | s :: r, k, h => by
    rw [List.map_cons, rdL_cons]
    rw [h s List.mem_cons_self, rdL_ok fun x m => h x (List.mem_cons_of_mem _ m)]
    rfl
theorem rdL_app {α : Type} {g : Str → Option α} : ∀ {a b : List Str} {k : Int} {as : List α}, rdL g a k = .ok as → rdL g (a ++ b) k = (match rdL g b (k + (a.length : Nat)) with | .ok bs => .ok (as ++ bs) | .error n => .error n)
  | [], b, k, as, h => by
    cases h
    rw [List.nil_append, List.length_nil, show k + ((0 : Nat) : Int) = k by omega]
    cases rdL g b k <;> rfl
  | x :: r, b, k, as, h => by
    rw [List.cons_append, rdL_cons]
    rw [rdL_cons] at h
    cases e : g x with
    | none => rw [e] at h; cases h
    | some y =>
      rw [e] at h
      cases e2 : rdL g r (k + 1) with
      | error n => rw [e2] at h; cases h
      | ok zs =>
        rw [e2] at h
        cases h
        have ih := rdL_app (b := b) e2
        have ek : k + 1 + ((r.length : Nat) : Int) = k + (((x :: r).length : Nat) : Int) := by rw [List.length_cons]; omega
        rw [ek] at ih
        simp only
        rw [ih]
        cases rdL g b (k + (((x :: r).length : Nat) : Int)) <;> rfl
theorem told_bad {l : List Sg} (h : segsOk l = true) {w : Str} (hw : segR w = none) {n : Nat} (hn : n ≤ l.length) (t : List Str) : toldD ((l.map segT).take n ++ w :: t) = .int ((n : Int) + 1) := by
  have e : (l.map segT).take n = (l.take n).map segT := by rw [List.map_take]
  have r1 := rdL_ok (g := segR) (f := segT) (e := id) (l := l.take n) (k := 1) fun s hs => segR_seg (List.all_eq_true.mp h s (List.mem_of_mem_take hs))
  unfold toldD parL
  rw [e, rdL_app r1, rdL_cons]
  rw [hw]
  simp only [List.length_map, List.length_take]
  rw [show 1 + (((min n l.length : Nat)) : Int) = (n : Int) + 1 by omega]
theorem told_whole {l a b : List Sg} {A B : List Str} (h : segsOk l = true) (hA : A.map segR = a.map some) (hB : B.map segR = b.map some) :
    toldD (A ++ l.map segT ++ B) = if loOk (a ++ l ++ b) = true then .tup ((a ++ l ++ b).map encS) else .int (((A ++ l.map segT ++ B).length : Nat) : Int) := by
  have lift : ∀ {A : List Str} {a : List Sg} {k : Int}, A.map segR = a.map some → rdL segR A k = .ok a := by
    intro A
    induction A with
    | nil =>
      intro a k h
      cases a with
      | nil => rfl
      | cons _ _ => cases h
    | cons x r ih =>
      intro a k h
      cases a with
      | nil => cases h
      | cons y s =>
        rw [List.map_cons, List.map_cons] at h
        injection h with h1 h2
        rw [rdL_cons, h1, ih h2]
  have r2 := fun k => rdL_ok (g := segR) (f := segT) (e := id) (l := l) (k := k) fun s hs => segR_seg (List.all_eq_true.mp h s hs)
  have r3 : rdL segR (A ++ l.map segT ++ B) 1 = .ok (a ++ l ++ b) := by
    rw [List.append_assoc, rdL_app (lift hA), rdL_app (r2 _), lift hB, List.map_id]
    simp only [List.append_assoc]
  unfold toldD parL
  rw [r3]
  simp only
  cases loOk (a ++ l ++ b) <;> rfl
theorem bad_turn {dr : List Int} {l : List Sg} {n k : Nat} (hd : dr.length = 30) (hb : ∀ x ∈ dr, 0 ≤ x ∧ x < 4096) (ho : segsOk l = true) (hl : l.length ≤ 100) (hn : n < l.length) (hk : k < 3) (a0 a2 a4 a5 a6 a11 : Option SV) :
    wipeR [9, 10] (forS (.gname 9) l_law_1 (.int (0 + (k : Int))) [a0, some (.d (.lst (dr.map D.int))), a2, some (.d (.lst ((l.map segT).map D.str))), a4, a5, a6, some (.d (.int (n : Int))), some (.d (.lst (bads.map D.str))), none, none, a11]) =
      .nx [a0, some (.d (.lst (dr.map D.int))), a2, some (.d (.lst ((l.map segT).map D.str))), a4, a5, a6, some (.d (.int (n : Int))), some (.d (.lst (bads.map D.str))), none, none, a11] := by
  have bl : bads.length = 20 := rfl
  have ll : ((l.map segT).length : Int) = l.length := by rw [List.length_map]
  have c26 := hb _ (at0_mem (xs := dr) (i := 26 + (k : Int)) (by omega) (by omega))
  have m := at0_mem (xs := bads) (i := at0 dr (26 + (k : Int)) % 20) (Int.emod_nonneg _ (by decide)) (by rw [bl]; exact Int.emod_lt_of_pos _ (by decide))
  have w := bads_none _ m
  generalize hw : at0 bads (at0 dr (26 + (k : Int)) % 20) = wr at *
  have f1 : ∀ x ∈ (l.map segT), x.length ≤ 100 ∧ 10 ∉ tl x := fun x hx => by
    obtain ⟨s, hs, rfl⟩ := List.mem_map.mp hx
    have so := List.all_eq_true.mp ho s hs
    exact ⟨Nat.le_trans (segT_len so) (by decide), segT_nl so⟩
  have f2 : ∀ x ∈ (l.map segT).take n ++ wr :: (l.map segT).drop n, x.length ≤ 100 ∧ 10 ∉ tl x := fun x hx => by
    rcases List.mem_append.mp hx with hx | hx
    · exact f1 x (List.mem_of_mem_take hx)
    · rcases List.mem_cons.mp hx with rfl | hx
      · exact w.2
      · exact f1 x (List.mem_of_mem_drop hx)
  have l2 : ((l.map segT).take n ++ wr :: (l.map segT).drop n).length ≤ 200 := by
    simp only [List.length_append, List.length_cons, List.length_take, List.length_drop, List.length_map]
    omega
  have t1 := law_told (ls := (l.map segT).take n ++ wr :: (l.map segT).drop n) (by simp) (fun x hx => (f2 x hx).1) (fun x hx => (f2 x hx).2) (by omega)
  have x1 : ("x" : Str).length ≤ 100 ∧ 10 ∉ tl ("x" : Str) := by decide +kernel
  have f3 : ∀ x ∈ (l.map segT).take n ++ wr :: ((l.map segT).drop n ++ [("x" : Str)]), x.length ≤ 100 ∧ 10 ∉ tl x := fun x hx => by
    rw [← List.cons_append, ← List.append_assoc] at hx
    rcases List.mem_append.mp hx with hx | hx
    · exact f2 x hx
    · rw [List.mem_singleton.mp hx]
      exact x1
  have t2 := law_told (ls := (l.map segT).take n ++ wr :: ((l.map segT).drop n ++ [("x" : Str)])) (by simp) (fun x hx => (f3 x hx).1) (fun x hx => (f3 x hx).2) (by
    rw [← List.cons_append, ← List.append_assoc, List.length_append]
    simp only [List.length_singleton]
    omega)
  rw [told_bad ho w.1 (by omega)] at t1 t2
  have e1 : (l.map segT).take n ++ wr :: (l.map segT).drop n = (l.map segT).take n ++ [wr] ++ (l.map segT).drop n := by simp
  have e2 : (l.map segT).take n ++ wr :: ((l.map segT).drop n ++ [("x" : Str)]) = (l.map segT).take n ++ [wr] ++ (l.map segT).drop n ++ [("x" : Str)] := by simp
  rw [e1] at t1
  rw [e2] at t2
  clear e1 e2
  have ll2 : n ≤ (l.map segT).length := by omega
  clear f1 f2 f3 l2 w m x1 hb ho
  unfold l_law_1
  walk_at "all"
theorem whole_turn {ls : List Str} (h0 : ls ≠ []) (h1 : ∀ l ∈ ls, l.length ≤ 100 ∧ 10 ∉ tl l) (h3 : ls.length ≤ 1000) (ht : toldD ls = .int (ls.length : Nat)) (a0 a1 a2 a3 a4 a5 a6 a7 a8 a9 a10 : Option SV) :
    wipeR [11] (forS (.gname 11) l_law_2 (.lst (ls.map D.str)) [a0, a1, a2, a3, a4, a5, a6, a7, a8, a9, a10, none]) = .nx [a0, a1, a2, a3, a4, a5, a6, a7, a8, a9, a10, none] := by
  have t := law_told h0 (fun x m => (h1 x m).1) (fun x m => (h1 x m).2) h3
  rw [ht] at t
  clear h0 h1 ht
  unfold l_law_2
  walk_at "all"
theorem whole_of {l a b : List Sg} {A B : List Str} (hok : segsOk l = true) (hl : l.length ≤ 100) (hA : A.map segR = a.map some) (hB : B.map segR = b.map some) (hlo : loOk (a ++ l ++ b) = false)
    (hx : (A ++ B).all (fun w => decide (w.length ≤ 100) && decide (10 ∉ tl w)) = true) (hn : A.length + B.length ≤ 10) (h0 : A ++ l.map segT ++ B ≠ []) {ls : List Str} (e : ls = A ++ l.map segT ++ B) :
    ls ≠ [] ∧ (∀ x ∈ ls, x.length ≤ 100 ∧ 10 ∉ tl x) ∧ ls.length ≤ 1000 ∧ toldD ls = .int (ls.length : Nat) := by
  subst e
  refine ⟨h0, fun x m => ?_, by simp only [List.length_append, List.length_map]; omega, ?_⟩
  · rcases List.mem_append.mp m with m | m
    · rcases List.mem_append.mp m with m | m
      · have := List.all_eq_true.mp hx x (List.mem_append_left _ m)
        simpa using this
      · obtain ⟨s, hs, rfl⟩ := List.mem_map.mp m
        have so := List.all_eq_true.mp hok s hs
        exact ⟨Nat.le_trans (segT_len so) (by decide), segT_nl so⟩
    · have := List.all_eq_true.mp hx x (List.mem_append_right _ m)
      simpa using this
  · rw [told_whole hok hA hB, if_neg (by rw [hlo]; exact Bool.false_ne_true)]
theorem law_true (ns : List Int) (h : ns.length ≤ 63) : m_law [.scr ns] = .ok (dv (.bl true)) := by
  have hc0 := cell_nn ns 0
  have ho : drOk (draws (cell ns 0) 30) = true := drOk_of (by rw [draws_len]; decide) draws_bd
  have g := drLay_g ho
  have hd := law_drawn_layout ho
  have hl := draws_len (c := cell ns 0) (n := 30)
  have hb := draws_bd (c := cell ns 0) (n := 30)
  generalize drLay (draws (cell ns 0) 30) = l at *
  generalize hdr : draws (cell ns 0) 30 = dr at *
  have k1 := g.lo
  have k3 := g.ln
  have hok := g.ok
  have hne : 0 < l.length := List.length_pos_iff.mpr g.ne
  have b1 := Int.emod_nonneg (at0 dr 25) (show (l.length : Int) ≠ 0 by omega)
  have b2 := Int.emod_lt_of_pos (at0 dr 25) (show 0 < (l.length : Int) by omega)
  obtain ⟨n, hn⟩ : ∃ n : Nat, at0 dr 25 % (l.length : Int) = (n : Int) := ⟨(at0 dr 25 % (l.length : Int)).toNat, by omega⟩
  have hnl : n < l.length := by omega
  have f1 : ∀ x ∈ (l.map segT), x.length ≤ 100 ∧ 10 ∉ tl x := fun x hx => by
    obtain ⟨s, hs, rfl⟩ := List.mem_map.mp hx
    have so := List.all_eq_true.mp hok s hs
    exact ⟨Nat.le_trans (segT_len so) (by decide), segT_nl so⟩
  have L0 : ∀ a0 a1 a2, lcF (lcS (.gtup 3 (.gcons (.gname 4) (.gcons (.gname 5) (.gcons (.gname 6) .gnil)))) .yes e_law_1 [a0, a1, a2, none, none, none, none, none, none, none, none, none]) (l.map encS) = .ok ((l.map segT).map D.str) := fun a0 a1 a2 => by
    rw [List.map_map]
    exact lc_map encS (fun s => D.str (segT s)) fun s hs => by
      have so := List.all_eq_true.mp hok s hs
      have b := segOk_bd so
      have kl := (kind_len b.1).1
      have l1 := strI_len (n := s.2.1) (by omega)
      have l2 := strI_len (n := s.2.2) (by omega)
      have ls := len_sp
      have q1 := o_str (n := s.2.1) (by omega)
      have q2 := o_str (n := s.2.2) (by omega)
      have c2 := o_addS (s := s.1) (t := " ") (by rw [ls, sizeLine_eq]; omega)
      have c3 := o_addS (s := s.1 ++ " ") (t := strI s.2.1) (by rw [len_app, ls, sizeLine_eq]; omega)
      have c4 := o_addS (s := s.1 ++ " " ++ strI s.2.1) (t := " ") (by rw [len_app, len_app, ls, sizeLine_eq]; omega)
      have c5 := o_addS (s := s.1 ++ " " ++ strI s.2.1 ++ " ") (t := strI s.2.2) (by rw [len_app, len_app, len_app, ls, sizeLine_eq]; omega)
      unfold e_law_1
      clear b so hb hok f1 hd
      walk_at "all"
      rfl
  have fl := format_layout hok (by omega)
  have j := tm_joinL (a := "\n") (ys := l.map segT) (by have := segs_len hok (by omega); omega)
  have k2 : m__law_like [.str (Txt.join "\n" (l.map segT)), .str (Txt.join "\n" (l.map segT))] = .ok (dv (.bl true)) := law_like rfl
  have t0 := law_told (ls := l.map segT) (by simpa using g.ne) (fun x hx => (f1 x hx).1) (fun x hx => (f1 x hx).2) (by rw [List.length_map]; omega)
  have k4 : m__law_like [.tup (l.map encS), .tup (l.map encS)] = .ok (dv (.bl true)) := law_like (liked_mapT (by omega) fun s _ => by show liked (10 + 1) (.tup _) = true; unfold liked; rfl)
  have w0 := told_whole (l := l) (a := []) (b := []) (A := []) (B := []) hok rfl rfl
  simp only [List.nil_append, List.append_nil] at w0
  rw [if_pos k1] at w0
  rw [w0] at t0
  have L1 := fun a0 a2 => for_rng (step := forS (.gname 9) l_law_1) (kill := [9, 10]) (lo := 0) (n := 3) (fun _ => [a0, some (.d (.lst (dr.map D.int))), a2, some (.d (.lst ((l.map segT).map D.str))), none, none, none, some (.d (.int (n : Int))), some (.d (.lst (bads.map D.str))), none, none, none]) fun k hk => bad_turn hl hb hok (by omega) hnl hk a0 a2 none none none none
  have L2 := fun (ds : List D) a0 a1 a2 a3 a4 a5 a6 a7 a8 a9 a10 (h : ∀ x ∈ ds, ∃ ls : List Str, x = .lst (ls.map D.str) ∧ ls ≠ [] ∧ (∀ l ∈ ls, l.length ≤ 100 ∧ 10 ∉ tl l) ∧ ls.length ≤ 1000 ∧ toldD ls = .int (ls.length : Nat)) => for_same (step := forS (.gname 11) l_law_2) (kill := [11]) (ds := ds) fun x hx => by
    obtain ⟨ls, rfl, h0, h1, h2, h3⟩ := h x hx
    exact whole_turn h0 h1 h2 h3 a0 a1 a2 a3 a4 a5 a6 a7 a8 a9 a10
  have t3 : (3 : Int).toNat = 3 := rfl
  have ln := g.ne
  have cl := g.cl
  have la := g.la
  have p1 : loOk ([] ++ l ++ [(("coast" : Str), 1, 0)]) = false := loOk_no fun z => by
    have := z.2.2.2.1
    rw [lastK_app (List.cons_ne_nil _ _)] at this
    exact absurd this (by decide +kernel)
  have p2 : loOk ([(("coast" : Str), 0, 0)] ++ l ++ []) = false := by
    rw [List.append_nil]
    exact loOk_no fun z => by
      have h1 := z.1
      rw [segsOk_app, Bool.and_eq_true] at h1
      exact absurd h1.1 (by decide +kernel)
  have p3 : loOk ([(("coast" : Str), 1, 1)] ++ l ++ []) = false := by
    rw [List.append_nil]
    exact loOk_no fun z => by
      have h1 := z.2.2.2.2.2
      rw [clo_app, cl] at h1
      exact absurd h1 (by decide +kernel)
  have p4 : loOk ([(("coast" : Str), 501, 0)] ++ l ++ []) = false := by
    rw [List.append_nil]
    exact loOk_no fun z => by
      have h1 := z.1
      rw [segsOk_app, Bool.and_eq_true] at h1
      exact absurd h1.1 (by decide +kernel)
  have p6 : loOk ([] ++ l ++ [(("brake" : Str), 999999999, -999999999)]) = false := loOk_no fun z => by
    have h1 := z.1
    rw [segsOk_app, Bool.and_eq_true] at h1
    exact absurd h1.2 (by decide +kernel)
  have o1 := fun ls => whole_of (A := []) (B := ["coast 1 0"]) (ls := ls) hok (by omega) rfl (by decide +kernel) p1 (by decide +kernel) (by decide) (by simp)
  have o2 := fun ls => whole_of (A := ["coast 0 0"]) (B := []) (ls := ls) hok (by omega) (by decide +kernel) rfl p2 (by decide +kernel) (by decide) (by simp)
  have o3 := fun ls => whole_of (A := ["coast 1 1"]) (B := []) (ls := ls) hok (by omega) (by decide +kernel) rfl p3 (by decide +kernel) (by decide) (by simp)
  have o4 := fun ls => whole_of (A := ["coast 501 0"]) (B := []) (ls := ls) hok (by omega) (by decide +kernel) rfl p4 (by decide +kernel) (by decide) (by simp)
  have o5 := fun ls => whole_of (l := []) (a := [(("brake" : Str), 1, 0)]) (b := []) (A := ["brake 1 0"]) (B := []) (ls := ls) rfl (by decide) (by decide +kernel) rfl (by decide +kernel) (by decide +kernel) (by decide) (by simp)
  have o6 := fun ls => whole_of (A := []) (B := ["brake 999999999 -999999999"]) (ls := ls) hok (by omega) rfl (by decide +kernel) p6 (by decide +kernel) (by decide) (by simp)
  have ll : ((l.map segT).length : Int) = l.length := by rw [List.length_map]
  clear p1 p2 p3 p4 p6 cl la ln w0 f1 g hb
  unfold m_law runF b_law
  walk_at "all"
  rw [show ([D.str "", D.str "coast", D.str "coast 1", D.str "coast 1 0 0", D.str "coast  1 0", D.str " coast 1 0", D.str "coast 1 0 ", D.str "coast 01 0", D.str "coast -1 0", D.str "coast 1 -0", D.str "coast 1 +0", D.str "coast 1 00", D.str "coast 1 -01", D.str "Coast 1 0", D.str "loop 1 0", D.str "coast x 0", D.str "coast 1 -", D.str "coast 1234567890 0", D.str "coast 1 1234567890", D.str "brake 1 --1"] : List D) = bads.map D.str from rfl, L1]
  walk_at "all"
  rw [L2]
  · walk_at "all"
  · intro x hx
    simp only [List.mem_cons, List.not_mem_nil, or_false] at hx
    rcases hx with rfl | rfl | rfl | rfl | rfl | rfl
    · exact ⟨_, rfl, o1 _ rfl⟩
    · exact ⟨_, rfl, o2 _ (by simp)⟩
    · exact ⟨_, rfl, o3 _ (by simp)⟩
    · exact ⟨_, rfl, o4 _ (by simp)⟩
    · exact ⟨["brake 1 0"], rfl, o5 _ rfl⟩
    · exact ⟨_, rfl, o6 _ rfl⟩
end Lw
end

set_option Elab.async false
set_option linter.all false
set_option maxRecDepth 100000
set_option maxHeartbeats 4000000
/-! law_k04_texts_of_layouts: text, facts, derivations (printed by tools2/gen2.py) -/
namespace Lw
open PySem PySem.Spec PyProof.Rows L2 Ci
open Evl (Ex ex_t ex_l sq_of st_of)
/-! statements by their syntax: the kernel looks at one at a time -/
section
variable {X : Cx} {G : Gm} {E : XE2} {sts ys : List Stmt} {st : Stmt}
theorem d_cons {a b : Ci.P .s} (h1 : PS X st (den G E a)) (h2 : PSs X sts (den G E b)) : PSs X (st :: sts) (den G E (.sq a b)) := pss_cons h1 h2
theorem d_if {c : Expr} {t : Ci.P .t} {a b : Ci.P .s} {pos : Pos} (hc : PT X c (den G E t)) (ha : PSs X sts (den G E a)) (hb : PSs X ys (den G E b)) : PS X (.If c sts ys pos) (den G E (.ifS t a b)) := ps_if hc ha hb
theorem d_for {tg iter : Expr} {it : Ci.P .i} {g : Ci.P .g} {b : Ci.P .s} {kill : List Nat} {pos : Pos} (hp : PassesOwn (model X.prog X.w) X.A X.env X.xe) (hc : X.calm = true) (hi : L2.PI X tg iter (den G E it)) (hg : PG X tg (den G E g)) (hb : PSs X sts (den G E b))
    (hs : ∀ x, foldedSetIterable iter X.env x = pure x := by intro _; rfl) : PS X (.For tg iter sts [] pos) (den G E (.for it g b kill)) := ps_for hp hc hi hg hb hs
end
def topS (i : Nat) : Stmt := PySem.Challenge.pw_coastersafe_k04_texts_of_layouts.main.body.getD i (.Pass ⟨0, 0, 0, 0⟩)
abbrev s_read_lines : Stmt := topS 8
theorem sc_read_lines : FnScope ["lines", "first", "read_line", "found", "number", "line", "told"] ["lines", "first", "read_line"] (defScope s_read_lines) := ⟨rfl, rfl, rfl, by decide +kernel, rfl, by decide +kernel, by decide +kernel⟩
abbrev s_read_number : Stmt := topS 9
theorem sc_read_number : FnScope ["word", "sign"] ["word"] (defScope s_read_number) := ⟨rfl, rfl, rfl, by decide +kernel, rfl, by decide +kernel, by decide +kernel⟩
abbrev s_Layout___init__ : Stmt := inClass (topS 17) 0
theorem sc_Layout___init__ : FnScope ["self", "segments"] ["self", "segments"] (defScope s_Layout___init__) := ⟨rfl, rfl, rfl, by decide +kernel, rfl, by decide +kernel, by decide +kernel⟩
abbrev s_Layout__place_metres : Stmt := inClass (topS 17) 1
theorem sc_Layout__place_metres : FnScope ["self", "height", "kind", "length", "slope", "block", "_"] ["self"] (defScope s_Layout__place_metres) := ⟨rfl, rfl, rfl, by decide +kernel, rfl, by decide +kernel, by decide +kernel⟩
abbrev s_Layout_total : Stmt := inClass (topS 17) 2
abbrev s_Layout_blocks : Stmt := inClass (topS 17) 3
abbrev s_Layout_metre : Stmt := inClass (topS 17) 4
abbrev s_Layout_height : Stmt := inClass (topS 17) 5
abbrev s_Layout_begin : Stmt := inClass (topS 17) 6
abbrev s_Layout_brake : Stmt := inClass (topS 17) 7
abbrev s_Layout_end : Stmt := inClass (topS 17) 8
abbrev s_Layout__check_metre : Stmt := inClass (topS 17) 9
abbrev s_Layout__check_block : Stmt := inClass (topS 17) 10
abbrev s__are_segments : Stmt := topS 18
theorem sc__are_segments : FnScope ["segments", "kind", "length", "slope"] ["segments"] (defScope s__are_segments) := ⟨rfl, rfl, rfl, by decide +kernel, rfl, by decide +kernel, by decide +kernel⟩
abbrev s__are_a_round : Stmt := topS 19
theorem sc__are_a_round : FnScope ["segments", "brakes", "kind", "length", "slope"] ["segments"] (defScope s__are_a_round) := ⟨rfl, rfl, rfl, by decide +kernel, rfl, by decide +kernel, by decide +kernel⟩
abbrev s_format_layout : Stmt := topS 20
theorem sc_format_layout : FnScope ["layout", "kind", "length", "slope"] ["layout"] (defScope s_format_layout) := ⟨rfl, rfl, rfl, by decide +kernel, rfl, by decide +kernel, by decide +kernel⟩
abbrev s_parse_layout : Stmt := topS 21
theorem sc_parse_layout : FnScope ["text", "lines", "segments"] ["text"] (defScope s_parse_layout) := ⟨rfl, rfl, rfl, by decide +kernel, rfl, by decide +kernel, by decide +kernel⟩
abbrev s__read_segment : Stmt := topS 22
theorem sc__read_segment : FnScope ["line", "words", "length", "slope"] ["line"] (defScope s__read_segment) := ⟨rfl, rfl, rfl, by decide +kernel, rfl, by decide +kernel, by decide +kernel⟩
abbrev s__read_slope : Stmt := topS 23
theorem sc__read_slope : FnScope ["word", "steepness"] ["word"] (defScope s__read_slope) := ⟨rfl, rfl, rfl, by decide +kernel, rfl, by decide +kernel, by decide +kernel⟩
abbrev s__law_cell : Stmt := topS 25
theorem sc__law_cell : FnScope ["script", "k"] ["script", "k"] (defScope s__law_cell) := ⟨rfl, rfl, rfl, by decide +kernel, rfl, by decide +kernel, by decide +kernel⟩
abbrev s__law_draws : Stmt := topS 26
theorem sc__law_draws : FnScope ["cell", "count", "rows", "left", "k", "mixed"] ["cell", "count"] (defScope s__law_draws) := ⟨rfl, rfl, rfl, by decide +kernel, rfl, by decide +kernel, by decide +kernel⟩
abbrev s__law_like : Stmt := topS 27
theorem sc__law_like : FnScope ["actual", "due", "k"] ["actual", "due"] (defScope s__law_like) := ⟨rfl, rfl, rfl, by decide +kernel, rfl, by decide +kernel, by decide +kernel⟩
abbrev s__law_drawn_segments : Stmt := topS 28
theorem sc__law_drawn_segments : FnScope ["draws", "most", "count", "rows", "height", "block", "k", "draw", "kind", "slope", "length", "tilt", "left"] ["draws", "most"] (defScope s__law_drawn_segments) := ⟨rfl, rfl, rfl, by decide +kernel, rfl, by decide +kernel, by decide +kernel⟩
abbrev s__law_drawn_layout : Stmt := topS 29
theorem sc__law_drawn_layout : FnScope ["draws", "rows", "height", "kind", "length", "slope"] ["draws"] (defScope s__law_drawn_layout) := ⟨rfl, rfl, rfl, by decide +kernel, rfl, by decide +kernel, by decide +kernel⟩
abbrev s__law_told : Stmt := topS 30
theorem sc__law_told : FnScope ["lines", "e"] ["lines"] (defScope s__law_told) := ⟨rfl, rfl, rfl, by decide +kernel, rfl, by decide +kernel, by decide +kernel⟩
abbrev s_law : Stmt := topS 31
theorem sc_law : FnScope ["script", "draws", "rows", "lines", "kind", "length", "slope", "at", "bad", "k", "wrong", "whole"] ["script"] (defScope s_law) := ⟨rfl, rfl, rfl, by decide +kernel, rfl, by decide +kernel, by decide +kernel⟩
abbrev s_InvalidText : Stmt := inClass (topS 4) 0
theorem sc_InvalidText : FnScope ["self", "line"] ["self", "line"] (defScope s_InvalidText) := ⟨rfl, rfl, rfl, by decide +kernel, rfl, by decide +kernel, by decide +kernel⟩
structure Txt (G : Gm) (mg : Str → Option Value) where
  g_Layout : mg "Layout" = some (.ref (G.cm 0))
  cl_Layout : Cls G.K (G.cm 0)
  n_Layout_segments : NoAttr G.K (G.cm 0) "segments"
  n_Layout__metres : NoAttr G.K (G.cm 0) "_metres"
  n_Layout__heights : NoAttr G.K (G.cm 0) "_heights"
  n_Layout__begins : NoAttr G.K (G.cm 0) "_begins"
  n_Layout__brakes : NoAttr G.K (G.cm 0) "_brakes"
  a_read_lines : Addr
  d_read_lines : FuncData
  F_read_lines : Fun G.K "read_lines" "read_lines" s_read_lines a_read_lines d_read_lines
  b_read_lines : Binds G.K d_read_lines ["lines", "first", "read_line"] []
  g_read_lines : mg "read_lines" = some (.ref a_read_lines)
  a_read_number : Addr
  d_read_number : FuncData
  F_read_number : Fun G.K "read_number" "read_number" s_read_number a_read_number d_read_number
  b_read_number : Binds G.K d_read_number ["word"] []
  g_read_number : mg "read_number" = some (.ref a_read_number)
  a_Layout___init__ : Addr
  d_Layout___init__ : FuncData
  F_Layout___init__ : Fun G.K "__init__" "Layout.__init__" s_Layout___init__ a_Layout___init__ d_Layout___init__
  b_Layout___init__ : Binds G.K d_Layout___init__ ["self", "segments"] []
  mk_Layout : Mk G.K (G.cm 0) a_Layout___init__
  a_Layout__place_metres : Addr
  d_Layout__place_metres : FuncData
  F_Layout__place_metres : Fun G.K "_place_metres" "Layout._place_metres" s_Layout__place_metres a_Layout__place_metres d_Layout__place_metres
  b_Layout__place_metres : Binds G.K d_Layout__place_metres ["self"] []
  M_Layout__place_metres : Meth G.K (G.cm 0) "_place_metres" a_Layout__place_metres
  a_Layout_total : Addr
  d_Layout_total : FuncData
  F_Layout_total : Fun G.K "total" "Layout.total" s_Layout_total a_Layout_total d_Layout_total
  b_Layout_total : Binds G.K d_Layout_total ["self"] []
  M_Layout_total : Meth G.K (G.cm 0) "total" a_Layout_total
  a_Layout_blocks : Addr
  d_Layout_blocks : FuncData
  F_Layout_blocks : Fun G.K "blocks" "Layout.blocks" s_Layout_blocks a_Layout_blocks d_Layout_blocks
  b_Layout_blocks : Binds G.K d_Layout_blocks ["self"] []
  M_Layout_blocks : Meth G.K (G.cm 0) "blocks" a_Layout_blocks
  a_Layout_metre : Addr
  d_Layout_metre : FuncData
  F_Layout_metre : Fun G.K "metre" "Layout.metre" s_Layout_metre a_Layout_metre d_Layout_metre
  b_Layout_metre : Binds G.K d_Layout_metre ["self", "number"] []
  M_Layout_metre : Meth G.K (G.cm 0) "metre" a_Layout_metre
  a_Layout_height : Addr
  d_Layout_height : FuncData
  F_Layout_height : Fun G.K "height" "Layout.height" s_Layout_height a_Layout_height d_Layout_height
  b_Layout_height : Binds G.K d_Layout_height ["self", "number"] []
  M_Layout_height : Meth G.K (G.cm 0) "height" a_Layout_height
  a_Layout_begin : Addr
  d_Layout_begin : FuncData
  F_Layout_begin : Fun G.K "begin" "Layout.begin" s_Layout_begin a_Layout_begin d_Layout_begin
  b_Layout_begin : Binds G.K d_Layout_begin ["self", "block"] []
  M_Layout_begin : Meth G.K (G.cm 0) "begin" a_Layout_begin
  a_Layout_brake : Addr
  d_Layout_brake : FuncData
  F_Layout_brake : Fun G.K "brake" "Layout.brake" s_Layout_brake a_Layout_brake d_Layout_brake
  b_Layout_brake : Binds G.K d_Layout_brake ["self", "block"] []
  M_Layout_brake : Meth G.K (G.cm 0) "brake" a_Layout_brake
  a_Layout_end : Addr
  d_Layout_end : FuncData
  F_Layout_end : Fun G.K "end" "Layout.end" s_Layout_end a_Layout_end d_Layout_end
  b_Layout_end : Binds G.K d_Layout_end ["self", "block"] []
  M_Layout_end : Meth G.K (G.cm 0) "end" a_Layout_end
  a_Layout__check_metre : Addr
  d_Layout__check_metre : FuncData
  F_Layout__check_metre : Fun G.K "_check_metre" "Layout._check_metre" s_Layout__check_metre a_Layout__check_metre d_Layout__check_metre
  b_Layout__check_metre : Binds G.K d_Layout__check_metre ["self", "number"] []
  M_Layout__check_metre : Meth G.K (G.cm 0) "_check_metre" a_Layout__check_metre
  a_Layout__check_block : Addr
  d_Layout__check_block : FuncData
  F_Layout__check_block : Fun G.K "_check_block" "Layout._check_block" s_Layout__check_block a_Layout__check_block d_Layout__check_block
  b_Layout__check_block : Binds G.K d_Layout__check_block ["self", "block"] []
  M_Layout__check_block : Meth G.K (G.cm 0) "_check_block" a_Layout__check_block
  a__are_segments : Addr
  d__are_segments : FuncData
  F__are_segments : Fun G.K "_are_segments" "_are_segments" s__are_segments a__are_segments d__are_segments
  b__are_segments : Binds G.K d__are_segments ["segments"] []
  g__are_segments : mg "_are_segments" = some (.ref a__are_segments)
  a__are_a_round : Addr
  d__are_a_round : FuncData
  F__are_a_round : Fun G.K "_are_a_round" "_are_a_round" s__are_a_round a__are_a_round d__are_a_round
  b__are_a_round : Binds G.K d__are_a_round ["segments"] []
  g__are_a_round : mg "_are_a_round" = some (.ref a__are_a_round)
  a_format_layout : Addr
  d_format_layout : FuncData
  F_format_layout : Fun G.K "format_layout" "format_layout" s_format_layout a_format_layout d_format_layout
  b_format_layout : Binds G.K d_format_layout ["layout"] []
  g_format_layout : mg "format_layout" = some (.ref a_format_layout)
  a_parse_layout : Addr
  d_parse_layout : FuncData
  F_parse_layout : Fun G.K "parse_layout" "parse_layout" s_parse_layout a_parse_layout d_parse_layout
  b_parse_layout : Binds G.K d_parse_layout ["text"] []
  g_parse_layout : mg "parse_layout" = some (.ref a_parse_layout)
  a__read_segment : Addr
  d__read_segment : FuncData
  F__read_segment : Fun G.K "_read_segment" "_read_segment" s__read_segment a__read_segment d__read_segment
  b__read_segment : Binds G.K d__read_segment ["line"] []
  g__read_segment : mg "_read_segment" = some (.ref a__read_segment)
  a__read_slope : Addr
  d__read_slope : FuncData
  F__read_slope : Fun G.K "_read_slope" "_read_slope" s__read_slope a__read_slope d__read_slope
  b__read_slope : Binds G.K d__read_slope ["word"] []
  g__read_slope : mg "_read_slope" = some (.ref a__read_slope)
  a__law_cell : Addr
  d__law_cell : FuncData
  F__law_cell : Fun G.K "_law_cell" "_law_cell" s__law_cell a__law_cell d__law_cell
  b__law_cell : Binds G.K d__law_cell ["script", "k"] []
  g__law_cell : mg "_law_cell" = some (.ref a__law_cell)
  a__law_draws : Addr
  d__law_draws : FuncData
  F__law_draws : Fun G.K "_law_draws" "_law_draws" s__law_draws a__law_draws d__law_draws
  b__law_draws : Binds G.K d__law_draws ["cell", "count"] []
  g__law_draws : mg "_law_draws" = some (.ref a__law_draws)
  a__law_like : Addr
  d__law_like : FuncData
  F__law_like : Fun G.K "_law_like" "_law_like" s__law_like a__law_like d__law_like
  b__law_like : Binds G.K d__law_like ["actual", "due"] []
  g__law_like : mg "_law_like" = some (.ref a__law_like)
  a__law_drawn_segments : Addr
  d__law_drawn_segments : FuncData
  F__law_drawn_segments : Fun G.K "_law_drawn_segments" "_law_drawn_segments" s__law_drawn_segments a__law_drawn_segments d__law_drawn_segments
  b__law_drawn_segments : Binds G.K d__law_drawn_segments ["draws", "most"] []
  g__law_drawn_segments : mg "_law_drawn_segments" = some (.ref a__law_drawn_segments)
  a__law_drawn_layout : Addr
  d__law_drawn_layout : FuncData
  F__law_drawn_layout : Fun G.K "_law_drawn_layout" "_law_drawn_layout" s__law_drawn_layout a__law_drawn_layout d__law_drawn_layout
  b__law_drawn_layout : Binds G.K d__law_drawn_layout ["draws"] []
  g__law_drawn_layout : mg "_law_drawn_layout" = some (.ref a__law_drawn_layout)
  a__law_told : Addr
  d__law_told : FuncData
  F__law_told : Fun G.K "_law_told" "_law_told" s__law_told a__law_told d__law_told
  b__law_told : Binds G.K d__law_told ["lines"] []
  g__law_told : mg "_law_told" = some (.ref a__law_told)
  a_law : Addr
  d_law : FuncData
  F_law : Fun G.K "law" "law" s_law a_law d_law
  b_law : Binds G.K d_law ["script"] []
  g_law : mg "law" = some (.ref a_law)
  g_CoasterError : mg "CoasterError" = some (.ref (G.ca 0))
  te_CoasterError : PySem.W.exmOne G.K (.ref (G.ca 0)) (.ref (G.ca 0)) = some true
  x_CoasterError : PySem.W.excIn G.K (G.ca 0) [.type "ValueError", .type "Exception", .type "BaseException", .type "object"] "ValueError.__new__" = true
  kk_CoasterError : PySem.W.keepIn G.K (.ref (G.ca 0)) = true
  bb_CoasterError : PySem.W.subIn G.K (.ref (G.ca 0)) (.type "BaseException") = some true
  tt_CoasterError : PySem.W.typeIn G.K (.ref (G.ca 0)) = some (.type "type")
  g_BadNumber : mg "BadNumber" = some (.ref (G.ca 1))
  te_BadNumber : PySem.W.exmOne G.K (.ref (G.ca 1)) (.ref (G.ca 1)) = some true
  x_BadNumber : PySem.W.excIn G.K (G.ca 1) [.type "ValueError", .type "Exception", .type "BaseException", .type "object"] "ValueError.__new__" = true
  kk_BadNumber : PySem.W.keepIn G.K (.ref (G.ca 1)) = true
  bb_BadNumber : PySem.W.subIn G.K (.ref (G.ca 1)) (.type "BaseException") = some true
  tt_BadNumber : PySem.W.typeIn G.K (.ref (G.ca 1)) = some (.type "type")
  g_InvalidLayout : mg "InvalidLayout" = some (.ref (G.ca 2))
  te_InvalidLayout : PySem.W.exmOne G.K (.ref (G.ca 2)) (.ref (G.ca 2)) = some true
  x_InvalidLayout : PySem.W.excIn G.K (G.ca 2) [.type "ValueError", .type "Exception", .type "BaseException", .type "object"] "ValueError.__new__" = true
  kk_InvalidLayout : PySem.W.keepIn G.K (.ref (G.ca 2)) = true
  bb_InvalidLayout : PySem.W.subIn G.K (.ref (G.ca 2)) (.type "BaseException") = some true
  tt_InvalidLayout : PySem.W.typeIn G.K (.ref (G.ca 2)) = some (.type "type")
  g_InvalidText : mg "InvalidText" = some (.ref (G.ca 6))
  te_InvalidText : PySem.W.exmOne G.K (.ref (G.ca 6)) (.ref (G.ca 6)) = some true
  a_InvalidText : Addr
  d_InvalidText : FuncData
  F_InvalidText : Fun G.K "__init__" "InvalidText.__init__" s_InvalidText a_InvalidText d_InvalidText
  b_InvalidText : Binds G.K d_InvalidText ["self", "line"] []
  oex_InvalidText : OexC G.K (G.ca 6)
  ii_InvalidText : PySem.W.findIn G.K (.ref (G.ca 6)) "__init__" = some (some (.ref a_InvalidText))
  ti_InvalidText : PySem.W.typeIn G.K (.ref a_InvalidText) = some (.type "function")
  nf_InvalidText : PySem.W.findIn G.K (.ref (G.ca 6)) "line" = some none
  xf_InvalidText : XfC G.K (G.ca 6)
  fa__read_segment : a__read_segment = G.ft 0
  gf__read_segment : mg "_read_segment" = some (.ref (G.ft 0))
  z_abs : mg "abs" = none
  z_all : mg "all" = none
  z_bool : mg "bool" = none
  z_enumerate : mg "enumerate" = none
  z_int : mg "int" = none
  z_isinstance : mg "isinstance" = none
  z_len : mg "len" = none
  z_list : mg "list" = none
  z_max : mg "max" = none
  z_min : mg "min" = none
  z_range : mg "range" = none
  z_str : mg "str" = none
  z_sum : mg "sum" = none
  z_tuple : mg "tuple" = none
  t_DIGITS : Tok
  k_DIGITS : mg "DIGITS" = some (.str "0123456789" t_DIGITS)
  k_KINDS : mg "KINDS" = some (.ref (G.kt 0))
  q_KINDS : ∀ B : Hp, ∃ vs, SqT G.K B (G.kt 0) vs ∧ Reps G B vs [(.str "coast"), (.str "lift"), (.str "brake")]
  t_LEAST_BLOCKS : Tok
  k_LEAST_BLOCKS : mg "LEAST_BLOCKS" = some (.int (2) t_LEAST_BLOCKS)
  t_MOST_BLOCKS : Tok
  k_MOST_BLOCKS : mg "MOST_BLOCKS" = some (.int (12) t_MOST_BLOCKS)
  t_MOST_DIGITS : Tok
  k_MOST_DIGITS : mg "MOST_DIGITS" = some (.int (9) t_MOST_DIGITS)
  t_MOST_LENGTH : Tok
  k_MOST_LENGTH : mg "MOST_LENGTH" = some (.int (500) t_MOST_LENGTH)
  t_MOST_METRES : Tok
  k_MOST_METRES : mg "MOST_METRES" = some (.int (4000) t_MOST_METRES)
  t_MOST_SLOPE : Tok
  k_MOST_SLOPE : mg "MOST_SLOPE" = some (.int (100) t_MOST_SLOPE)
section
variable {P : Program} {w : World} {G : Gm} {mg : Str → Option Value} {base : Heap}
theorem okx_InvalidText (T : Txt G mg) : FnOk P w G.K mg base CXn 1 T.a_InvalidText T.d_InvalidText ["self", "line"] (PrE G 6 "line") := fun_okCX T.F_InvalidText sc_InvalidText (PrE.len rfl) fun cdv A outer s H vs Q E hr h => ⟨_, pss_one (ps_ost (pv 0) (pv 1)), bodyE (N := ["self", "line"]) T.oex_InvalidText T.nf_InvalidText h⟩
theorem okh_InvalidText (T : Txt G mg) : L2H.FnH P w G.K mg base CXn 1 T.a_InvalidText T.d_InvalidText ["self", "line"] (PrE G 6 "line") := fun_okH T.F_InvalidText sc_InvalidText (PrE.len rfl) fun cdv A outer s H vs Q E p hp hr h => ⟨_, pss_one (ps_ost (pv 0) (pv 1)), bodyE (N := ["self", "line"]) T.oex_InvalidText T.nf_InvalidText h⟩
theorem wf_read_number (T : Txt G mg) : Wf G b_read_number := by
  delta b_read_number e_read_number_1 
  repeat' (first | apply And.intro | exact True.intro | exact rfl | (intro i hi; exact hi) | exact True.intro | exact rfl | exact T.cl_Layout | exact T.n_Layout_segments | exact T.n_Layout__metres | exact T.n_Layout__heights | exact T.n_Layout__begins | exact T.n_Layout__brakes | exact T.q_KINDS | exact ⟨T.cl_Layout, T.n_Layout_segments⟩ | exact ⟨T.cl_Layout, T.n_Layout__metres⟩ | exact ⟨T.cl_Layout, T.n_Layout__heights⟩ | exact ⟨T.cl_Layout, T.n_Layout__begins⟩ | exact ⟨T.cl_Layout, T.n_Layout__brakes⟩ | (rintro x hx; have := List.mem_singleton.mp hx; subst this; exact T.te_CoasterError) | (rintro x hx; have := List.mem_singleton.mp hx; subst this; exact T.te_BadNumber) | (rintro x hx; have := List.mem_singleton.mp hx; subst this; exact T.te_InvalidLayout) | (rintro x hx; have := List.mem_singleton.mp hx; subst this; exact T.te_InvalidText) | (intro c hc; cases hc with | head => exact ⟨T.cl_Layout, T.n_Layout_segments⟩ | tail _ hc => cases hc) | (intro c hc; cases hc with | head => exact ⟨T.cl_Layout, T.n_Layout__metres⟩ | tail _ hc => cases hc) | (intro c hc; cases hc with | head => exact ⟨T.cl_Layout, T.n_Layout__heights⟩ | tail _ hc => cases hc) | (intro c hc; cases hc with | head => exact ⟨T.cl_Layout, T.n_Layout__begins⟩ | tail _ hc => cases hc) | (intro c hc; cases hc with | head => exact ⟨T.cl_Layout, T.n_Layout__brakes⟩ | tail _ hc => cases hc) | (intro i hi; simpa using hi) | decide)
theorem ok_read_number (T : Txt G mg) : FnOk P w G.K mg base (L2.CX P w) 1 T.a_read_number T.d_read_number ["word"] (Pr G [false] m_read_number) := by
  exact T.F_read_number.okX sc_read_number (Pr.len rfl) (fun cdv A outer s H vs Q E hr h => ⟨den G (fun _ => E) b_read_number, (d_cons (d_if (pt_not (pt_chain op_le op_le pe_int (pe_callB (call_lenK (K := G.K) rfl) (by rfl) T.z_len (by decide +kernel) (pa_cons (pv 0) pa_nil)) (pe_glob (v := .int (9)) (by rfl) T.k_MOST_DIGITS ⟨_, rfl⟩))) (pss_one (ps_ret pe_non)) pss_nil)
      (d_cons (d_if (pt_not (pt_truK (K := G.K) rfl (pe_callB (cr_allK (K := G.K) rfl rfl) (by rfl) T.z_all (by decide +kernel) (pa_cons (pe_lc (own := [("sign", 1)]) (by rfl) sc_read_number.nd (pi_seqK (K := G.K) rfl (pv 0)) (blkOk_by (own := [("sign", 1)]) (N := ["word", "sign"]) (sc := defScope s_read_number) (by decide +kernel)) (fun _ _ _ _ _ => (pg_name (i := 1) sc_read_number.nd (by rfl) (by first | exact Or.inl rfl | exact Or.inr rfl))) (fun _ _ _ _ _ => pts_nil) (fun _ _ _ _ _ => (pe_cmpR (op_inK (K := G.K) rfl hr.units65) (pv 1) (pe_glob (v := .str "0123456789") (by rfl) T.k_DIGITS ⟨_, rfl⟩) (by rfl)))) pa_nil)))) (pss_one (ps_ret pe_non)) pss_nil)
      (d_cons (d_if (PW.pt (pw_and (pt_cmpR (op_eqDK (K := G.K) rfl hr.units) (pe_ix (ix_seqK (K := G.K) rfl) (pv 0) pe_int (fun _ _ => rfl)) pe_str (nomark _)) (pw_and1 (pt_cmpR (op_neDK (K := G.K) rfl hr.units) (pv 0) pe_str (nomark _))))) (pss_one (ps_ret pe_non)) pss_nil)
      (pss_one (ps_ret (pe_callTy call_intK (by rfl) T.z_int (by decide +kernel) (pa_cons (pv 0) pa_nil))))))), body (N := ["word", "sign"]) (wf_read_number T) h⟩)
theorem wf__read_slope (T : Txt G mg) : Wf G b__read_slope := by
  delta b__read_slope 
  repeat' (first | apply And.intro | exact True.intro | exact rfl | (intro i hi; exact hi) | exact True.intro | exact rfl | exact T.cl_Layout | exact T.n_Layout_segments | exact T.n_Layout__metres | exact T.n_Layout__heights | exact T.n_Layout__begins | exact T.n_Layout__brakes | exact T.q_KINDS | exact ⟨T.cl_Layout, T.n_Layout_segments⟩ | exact ⟨T.cl_Layout, T.n_Layout__metres⟩ | exact ⟨T.cl_Layout, T.n_Layout__heights⟩ | exact ⟨T.cl_Layout, T.n_Layout__begins⟩ | exact ⟨T.cl_Layout, T.n_Layout__brakes⟩ | (rintro x hx; have := List.mem_singleton.mp hx; subst this; exact T.te_CoasterError) | (rintro x hx; have := List.mem_singleton.mp hx; subst this; exact T.te_BadNumber) | (rintro x hx; have := List.mem_singleton.mp hx; subst this; exact T.te_InvalidLayout) | (rintro x hx; have := List.mem_singleton.mp hx; subst this; exact T.te_InvalidText) | (intro c hc; cases hc with | head => exact ⟨T.cl_Layout, T.n_Layout_segments⟩ | tail _ hc => cases hc) | (intro c hc; cases hc with | head => exact ⟨T.cl_Layout, T.n_Layout__metres⟩ | tail _ hc => cases hc) | (intro c hc; cases hc with | head => exact ⟨T.cl_Layout, T.n_Layout__heights⟩ | tail _ hc => cases hc) | (intro c hc; cases hc with | head => exact ⟨T.cl_Layout, T.n_Layout__begins⟩ | tail _ hc => cases hc) | (intro c hc; cases hc with | head => exact ⟨T.cl_Layout, T.n_Layout__brakes⟩ | tail _ hc => cases hc) | (intro i hi; simpa using hi) | decide)
theorem ok__read_slope (T : Txt G mg) : FnOk P w G.K mg base (L2.CX P w) 2 T.a__read_slope T.d__read_slope ["word"] (Pr G [false] m__read_slope) := by
  have G_read_number := ok_read_number (P := P) (w := w) (base := base) T
  exact T.F__read_slope.okX sc__read_slope (Pr.len rfl) (fun cdv A outer s H vs Q E hr h => ⟨den G (fun _ => E) b__read_slope, (d_cons (d_if (pt_not (pt_truK (K := G.K) rfl (pe_m1 (r := Tm.den G.K .starts) PySem.F.slot_str_startswith PySem.F.type_str_startswith mt_startswith (pv 0) pe_str))) (pss_one (ps_ret (pe_cCall G_read_number (hr.mono (by first | decide | omega | (simp only [Nat.add_eq]; omega))) (by rfl) T.g_read_number T.F_read_number.kp T.b_read_number (fun σ => passAt (takes_of rfl rfl rfl rfl) σ) (pa_cons (pv 0) pa_nil)))) pss_nil)
      (d_cons (ps_set (i := 1) sc__read_slope.nd (by rfl) (by first | exact Or.inl rfl | exact Or.inr rfl) (pe_cCall G_read_number (hr.mono (by first | decide | omega | (simp only [Nat.add_eq]; omega))) (by rfl) T.g_read_number T.F_read_number.kp T.b_read_number (fun σ => passAt (takes_of rfl rfl rfl rfl) σ) (pa_cons (pe_slice (sl_anyK (K := G.K) rfl) (pv 0) (po_some pe_int) po_none) pa_nil)))
      (d_cons (d_if (PW.pt (pw_or (pt_cmpR Ci.op_isN1 (pv 1) pe_non (nomark _)) (pw_or1 (pt_cmpR (op_eqDK (K := G.K) rfl hr.units) (pv 1) pe_int (nomark _))))) (pss_one (ps_ret pe_non)) pss_nil)
      (pss_one (ps_ret (pe_un un_neg (pv 1))))))), body (N := ["word", "steepness"]) (wf__read_slope T) h⟩)
theorem wf__read_segment (T : Txt G mg) : Wf G b__read_segment := by
  delta b__read_segment 
  repeat' (first | apply And.intro | exact True.intro | exact rfl | (intro i hi; exact hi) | exact True.intro | exact rfl | exact T.cl_Layout | exact T.n_Layout_segments | exact T.n_Layout__metres | exact T.n_Layout__heights | exact T.n_Layout__begins | exact T.n_Layout__brakes | exact T.q_KINDS | exact ⟨T.cl_Layout, T.n_Layout_segments⟩ | exact ⟨T.cl_Layout, T.n_Layout__metres⟩ | exact ⟨T.cl_Layout, T.n_Layout__heights⟩ | exact ⟨T.cl_Layout, T.n_Layout__begins⟩ | exact ⟨T.cl_Layout, T.n_Layout__brakes⟩ | (rintro x hx; have := List.mem_singleton.mp hx; subst this; exact T.te_CoasterError) | (rintro x hx; have := List.mem_singleton.mp hx; subst this; exact T.te_BadNumber) | (rintro x hx; have := List.mem_singleton.mp hx; subst this; exact T.te_InvalidLayout) | (rintro x hx; have := List.mem_singleton.mp hx; subst this; exact T.te_InvalidText) | (intro c hc; cases hc with | head => exact ⟨T.cl_Layout, T.n_Layout_segments⟩ | tail _ hc => cases hc) | (intro c hc; cases hc with | head => exact ⟨T.cl_Layout, T.n_Layout__metres⟩ | tail _ hc => cases hc) | (intro c hc; cases hc with | head => exact ⟨T.cl_Layout, T.n_Layout__heights⟩ | tail _ hc => cases hc) | (intro c hc; cases hc with | head => exact ⟨T.cl_Layout, T.n_Layout__begins⟩ | tail _ hc => cases hc) | (intro c hc; cases hc with | head => exact ⟨T.cl_Layout, T.n_Layout__brakes⟩ | tail _ hc => cases hc) | (intro i hi; simpa using hi) | decide)
theorem ok__read_segment (T : Txt G mg) : FnOk P w G.K mg base (L2.CX P w) 3 T.a__read_segment T.d__read_segment ["line"] (Pr G [false] m__read_segment) := by
  have G_read_number := ok_read_number (P := P) (w := w) (base := base) T
  have G__read_slope := ok__read_slope (P := P) (w := w) (base := base) T
  exact T.F__read_segment.okX sc__read_segment (Pr.len rfl) (fun cdv A outer s H vs Q E hr h => ⟨den G (fun _ => E) b__read_segment, (d_cons (ps_set (i := 1) sc__read_segment.nd (by rfl) (by first | exact Or.inl rfl | exact Or.inr rfl) (pe_split (pv 0) pe_str))
      (d_cons (d_if (PW.pt (pw_or (pt_cmpR (op_neDK (K := G.K) rfl hr.units) (pe_callB (call_lenK (K := G.K) rfl) (by rfl) T.z_len (by decide +kernel) (pa_cons (pv 1) pa_nil)) pe_int (nomark _)) (pw_or1 (pt_cmpR (op_notInK (K := G.K) rfl hr.units65) (pe_ix (ix_seqK (K := G.K) rfl) (pv 1) pe_int (fun _ _ => rfl)) (pe_glob (v := .ref (G.kt 0)) (by rfl) T.k_KINDS rfl) (by rfl))))) (pss_one (ps_ret pe_non)) pss_nil)
      (d_cons (ps_set (i := 2) sc__read_segment.nd (by rfl) (by first | exact Or.inl rfl | exact Or.inr rfl) (pe_cCall G_read_number (hr.mono (by first | decide | omega | (simp only [Nat.add_eq]; omega))) (by rfl) T.g_read_number T.F_read_number.kp T.b_read_number (fun σ => passAt (takes_of rfl rfl rfl rfl) σ) (pa_cons (pe_ix (ix_seqK (K := G.K) rfl) (pv 1) pe_int (fun _ _ => rfl)) pa_nil)))
      (d_cons (ps_set (i := 3) sc__read_segment.nd (by rfl) (by first | exact Or.inl rfl | exact Or.inr rfl) (pe_cCall G__read_slope (hr.mono (by first | decide | omega | (simp only [Nat.add_eq]; omega))) (by rfl) T.g__read_slope T.F__read_slope.kp T.b__read_slope (fun σ => passAt (takes_of rfl rfl rfl rfl) σ) (pa_cons (pe_ix (ix_seqK (K := G.K) rfl) (pv 1) pe_int (fun _ _ => rfl)) pa_nil)))
      (d_cons (d_if (PW.pt (pw_or (pt_cmpR Ci.op_isN1 (pv 2) pe_non (nomark _)) (pw_or1 (pt_cmpR Ci.op_isN1 (pv 3) pe_non (nomark _))))) (pss_one (ps_ret pe_non)) pss_nil)
      (pss_one (ps_ret (pe_tup (pa_cons (pe_ix (ix_seqK (K := G.K) rfl) (pv 1) pe_int (fun _ _ => rfl)) (pa_cons (pv 2) (pa_cons (pv 3) pa_nil))))))))))), body (N := ["line", "words", "length", "slope"]) (wf__read_segment T) h⟩)
theorem wf_read_lines (T : Txt G mg) : Wf G b_read_lines := by
  delta b_read_lines l_read_lines_1 
  repeat' (first | apply And.intro | exact True.intro | exact rfl | (intro i hi; exact hi) | exact True.intro | exact rfl | exact T.cl_Layout | exact T.n_Layout_segments | exact T.n_Layout__metres | exact T.n_Layout__heights | exact T.n_Layout__begins | exact T.n_Layout__brakes | exact T.q_KINDS | exact ⟨T.cl_Layout, T.n_Layout_segments⟩ | exact ⟨T.cl_Layout, T.n_Layout__metres⟩ | exact ⟨T.cl_Layout, T.n_Layout__heights⟩ | exact ⟨T.cl_Layout, T.n_Layout__begins⟩ | exact ⟨T.cl_Layout, T.n_Layout__brakes⟩ | (rintro x hx; have := List.mem_singleton.mp hx; subst this; exact T.te_CoasterError) | (rintro x hx; have := List.mem_singleton.mp hx; subst this; exact T.te_BadNumber) | (rintro x hx; have := List.mem_singleton.mp hx; subst this; exact T.te_InvalidLayout) | (rintro x hx; have := List.mem_singleton.mp hx; subst this; exact T.te_InvalidText) | (intro c hc; cases hc with | head => exact ⟨T.cl_Layout, T.n_Layout_segments⟩ | tail _ hc => cases hc) | (intro c hc; cases hc with | head => exact ⟨T.cl_Layout, T.n_Layout__metres⟩ | tail _ hc => cases hc) | (intro c hc; cases hc with | head => exact ⟨T.cl_Layout, T.n_Layout__heights⟩ | tail _ hc => cases hc) | (intro c hc; cases hc with | head => exact ⟨T.cl_Layout, T.n_Layout__begins⟩ | tail _ hc => cases hc) | (intro c hc; cases hc with | head => exact ⟨T.cl_Layout, T.n_Layout__brakes⟩ | tail _ hc => cases hc) | (intro i hi; simpa using hi) | decide)
theorem ok_read_lines (T : Txt G mg) : FnOk P w G.K mg base (L2.CX P w) 4 T.a_read_lines T.d_read_lines ["lines", "first", "read_line"] (Pr G [false, false, false] m_read_lines) := by
  have G__read_segment := ok__read_segment (P := P) (w := w) (base := base) T
  exact T.F_read_lines.okX sc_read_lines (Pr.len rfl) (fun cdv A outer s H vs Q E hr h => ⟨den G (fun _ => E) b_read_lines, (d_cons (ps_set (i := 3) sc_read_lines.nd (by rfl) (by first | exact Or.inl rfl | exact Or.inr rfl) (pe_lst pa_nil))
      (d_cons (d_for (passes_of rfl) rfl (pi_enumK (K := G.K) rfl (by rfl) T.z_enumerate (pa_cons (pv 0) pa_nil) (pv 1)) (pg_tupK (K := G.K) (n := 2) rfl (by rfl) (pgs_cons (pg_name (i := 4) sc_read_lines.nd (by rfl) (by first | exact Or.inl rfl | exact Or.inr rfl)) (pgs_cons (pg_name (i := 5) sc_read_lines.nd (by rfl) (by first | exact Or.inl rfl | exact Or.inr rfl)) pgs_nil))) (d_cons (ps_set (i := 6) sc_read_lines.nd (by rfl) (by first | exact Or.inl rfl | exact Or.inr rfl) (pe_cCallL (i := 2) (T.fa__read_segment ▸ G__read_segment) (hr.mono (by first | decide | omega | (simp only [Nat.add_eq]; omega))) (by rfl) (by first | exact .inl rfl | exact .inr (.inl rfl) | exact .inr (.inr rfl)) (T.fa__read_segment ▸ T.F__read_segment.kp) T.b__read_segment (fun σ => passAt (takes_of rfl rfl rfl rfl) σ) (pa_cons (pv 5) pa_nil)))
      (d_cons (d_if (pt_cmpR Ci.op_isN1 (pv 6) pe_non (nomark _)) (pss_one (ps_raiseF rfl (takes_of rfl rfl rfl rfl) T.oex_InvalidText T.ii_InvalidText T.ti_InvalidText (okx_InvalidText (P := P) (w := w) (base := base) T) (hr.mono (by first | decide | omega | (simp only [Nat.add_eq]; omega))) T.b_InvalidText passn (by rfl) T.g_InvalidText (pa_cons (pv 4) pa_nil))) pss_nil)
      (pss_one (ps_expr (pe_bm PySem.F.plainAttrs_list PySem.F.slot_list_append PySem.F.type_list_append mt_append (pv 3) (pa_cons (pv 6) pa_nil)))))))
      (pss_one (ps_ret (pv 3))))), body (N := ["lines", "first", "read_line", "found", "number", "line", "told"]) (wf_read_lines T) h⟩)
theorem wf__are_a_round (T : Txt G mg) : Wf G b__are_a_round := by
  delta b__are_a_round t__are_a_round_1 e__are_a_round_1 e__are_a_round_2 e__are_a_round_3 
  repeat' (first | apply And.intro | exact True.intro | exact rfl | (intro i hi; exact hi) | exact True.intro | exact rfl | exact T.cl_Layout | exact T.n_Layout_segments | exact T.n_Layout__metres | exact T.n_Layout__heights | exact T.n_Layout__begins | exact T.n_Layout__brakes | exact T.q_KINDS | exact ⟨T.cl_Layout, T.n_Layout_segments⟩ | exact ⟨T.cl_Layout, T.n_Layout__metres⟩ | exact ⟨T.cl_Layout, T.n_Layout__heights⟩ | exact ⟨T.cl_Layout, T.n_Layout__begins⟩ | exact ⟨T.cl_Layout, T.n_Layout__brakes⟩ | (rintro x hx; have := List.mem_singleton.mp hx; subst this; exact T.te_CoasterError) | (rintro x hx; have := List.mem_singleton.mp hx; subst this; exact T.te_BadNumber) | (rintro x hx; have := List.mem_singleton.mp hx; subst this; exact T.te_InvalidLayout) | (rintro x hx; have := List.mem_singleton.mp hx; subst this; exact T.te_InvalidText) | (intro c hc; cases hc with | head => exact ⟨T.cl_Layout, T.n_Layout_segments⟩ | tail _ hc => cases hc) | (intro c hc; cases hc with | head => exact ⟨T.cl_Layout, T.n_Layout__metres⟩ | tail _ hc => cases hc) | (intro c hc; cases hc with | head => exact ⟨T.cl_Layout, T.n_Layout__heights⟩ | tail _ hc => cases hc) | (intro c hc; cases hc with | head => exact ⟨T.cl_Layout, T.n_Layout__begins⟩ | tail _ hc => cases hc) | (intro c hc; cases hc with | head => exact ⟨T.cl_Layout, T.n_Layout__brakes⟩ | tail _ hc => cases hc) | (intro i hi; simpa using hi) | decide)
theorem okN__are_a_round (T : Txt G mg) : FnOk P w G.K mg base (L2N.CX P w) 1 T.a__are_a_round T.d__are_a_round ["segments"] (Pr G [true] m__are_a_round) := by
  exact fun_okCX T.F__are_a_round sc__are_a_round (Pr.len rfl) (fun cdv A outer s H vs Q E hr h => ⟨den G (fun _ => E) b__are_a_round, (d_cons (ps_setLc (i := 1) (own := [("kind", 2), ("length", 3), ("slope", 4)]) (by rfl) sc__are_a_round.nd rfl (by rfl) (sw_true rfl rfl rfl (by decide +kernel)) (pi_seqK (K := G.K) rfl (pv 0)) (blkOk_by (own := [("kind", 2), ("length", 3), ("slope", 4)]) (N := ["segments", "brakes", "kind", "length", "slope"]) (sc := defScope s__are_a_round) (by decide +kernel)) (fun _ _ _ _ _ => (pg_tupK (K := G.K) (n := 3) rfl (by rfl) (pgs_cons (pg_name (i := 2) sc__are_a_round.nd (by rfl) (by first | exact Or.inl rfl | exact Or.inr rfl)) (pgs_cons (pg_name (i := 3) sc__are_a_round.nd (by rfl) (by first | exact Or.inl rfl | exact Or.inr rfl)) (pgs_cons (pg_name (i := 4) sc__are_a_round.nd (by rfl) (by first | exact Or.inl rfl | exact Or.inr rfl)) pgs_nil))))) (fun _ _ _ _ _ => (pts_one (pt_cmpR (op_eqDK (K := G.K) rfl hr.units) (pv 2) pe_str (nomark _)))) (fun _ _ _ _ _ => (pv 2)))
      (d_cons (d_if (PW.pt (pw_or (pt_not (pt_chain op_le op_le (pe_glob (v := .int (2)) (by rfl) T.k_LEAST_BLOCKS ⟨_, rfl⟩) (pe_callB (call_lenK (K := G.K) rfl) (by rfl) T.z_len (by decide +kernel) (pa_cons (pv 1) pa_nil)) (pe_glob (v := .int (12)) (by rfl) T.k_MOST_BLOCKS ⟨_, rfl⟩))) (pw_or1 (pt_cmpR (op_neDK (K := G.K) rfl hr.units) (pe_ix (ix_seqK (K := G.K) rfl) (pe_ix (ix_seqK (K := G.K) rfl) (pv 0) (pe_un un_neg pe_int) (fun _ _ => rfl)) pe_int (fun _ _ => rfl)) pe_str (nomark _))))) (pss_one (ps_ret pe_bl)) pss_nil)
      (d_cons (d_if (pt_cmpR op_gt (pe_callB (cr_sumK (K := G.K) rfl rfl) (by rfl) T.z_sum (by decide +kernel) (pa_cons (pe_lc (own := [("kind", 2), ("length", 3), ("slope", 4)]) (by rfl) sc__are_a_round.nd (pi_seqK (K := G.K) rfl (pv 0)) (blkOk_by (own := [("kind", 2), ("length", 3), ("slope", 4)]) (N := ["segments", "brakes", "kind", "length", "slope"]) (sc := defScope s__are_a_round) (by decide +kernel)) (fun _ _ _ _ _ => (pg_tupK (K := G.K) (n := 3) rfl (by rfl) (pgs_cons (pg_name (i := 2) sc__are_a_round.nd (by rfl) (by first | exact Or.inl rfl | exact Or.inr rfl)) (pgs_cons (pg_name (i := 3) sc__are_a_round.nd (by rfl) (by first | exact Or.inl rfl | exact Or.inr rfl)) (pgs_cons (pg_name (i := 4) sc__are_a_round.nd (by rfl) (by first | exact Or.inl rfl | exact Or.inr rfl)) pgs_nil))))) (fun _ _ _ _ _ => pts_nil) (fun _ _ _ _ _ => (pv 3))) pa_nil)) (pe_glob (v := .int (4000)) (by rfl) T.k_MOST_METRES ⟨_, rfl⟩) (nomark _)) (pss_one (ps_ret pe_bl)) pss_nil)
      (pss_one (ps_ret (pe_cmpR (op_eqDK (K := G.K) rfl hr.units) (pe_callB (cr_sumK (K := G.K) rfl rfl) (by rfl) T.z_sum (by decide +kernel) (pa_cons (pe_lc (own := [("kind", 2), ("length", 3), ("slope", 4)]) (by rfl) sc__are_a_round.nd (pi_seqK (K := G.K) rfl (pv 0)) (blkOk_by (own := [("kind", 2), ("length", 3), ("slope", 4)]) (N := ["segments", "brakes", "kind", "length", "slope"]) (sc := defScope s__are_a_round) (by decide +kernel)) (fun _ _ _ _ _ => (pg_tupK (K := G.K) (n := 3) rfl (by rfl) (pgs_cons (pg_name (i := 2) sc__are_a_round.nd (by rfl) (by first | exact Or.inl rfl | exact Or.inr rfl)) (pgs_cons (pg_name (i := 3) sc__are_a_round.nd (by rfl) (by first | exact Or.inl rfl | exact Or.inr rfl)) (pgs_cons (pg_name (i := 4) sc__are_a_round.nd (by rfl) (by first | exact Or.inl rfl | exact Or.inr rfl)) pgs_nil))))) (fun _ _ _ _ _ => pts_nil) (fun _ _ _ _ _ => (pe_op (op_timesK (K := G.K) rfl) (pv 3) (pv 4)))) pa_nil)) pe_int (nomark _))))))), body (N := ["segments", "brakes", "kind", "length", "slope"]) (wf__are_a_round T) h⟩)
theorem wf__are_segments (T : Txt G mg) : Wf G b__are_segments := by
  delta b__are_segments l__are_segments_1 
  repeat' (first | apply And.intro | exact True.intro | exact rfl | (intro i hi; exact hi) | exact True.intro | exact rfl | exact T.cl_Layout | exact T.n_Layout_segments | exact T.n_Layout__metres | exact T.n_Layout__heights | exact T.n_Layout__begins | exact T.n_Layout__brakes | exact T.q_KINDS | exact ⟨T.cl_Layout, T.n_Layout_segments⟩ | exact ⟨T.cl_Layout, T.n_Layout__metres⟩ | exact ⟨T.cl_Layout, T.n_Layout__heights⟩ | exact ⟨T.cl_Layout, T.n_Layout__begins⟩ | exact ⟨T.cl_Layout, T.n_Layout__brakes⟩ | (rintro x hx; have := List.mem_singleton.mp hx; subst this; exact T.te_CoasterError) | (rintro x hx; have := List.mem_singleton.mp hx; subst this; exact T.te_BadNumber) | (rintro x hx; have := List.mem_singleton.mp hx; subst this; exact T.te_InvalidLayout) | (rintro x hx; have := List.mem_singleton.mp hx; subst this; exact T.te_InvalidText) | (intro c hc; cases hc with | head => exact ⟨T.cl_Layout, T.n_Layout_segments⟩ | tail _ hc => cases hc) | (intro c hc; cases hc with | head => exact ⟨T.cl_Layout, T.n_Layout__metres⟩ | tail _ hc => cases hc) | (intro c hc; cases hc with | head => exact ⟨T.cl_Layout, T.n_Layout__heights⟩ | tail _ hc => cases hc) | (intro c hc; cases hc with | head => exact ⟨T.cl_Layout, T.n_Layout__begins⟩ | tail _ hc => cases hc) | (intro c hc; cases hc with | head => exact ⟨T.cl_Layout, T.n_Layout__brakes⟩ | tail _ hc => cases hc) | (intro i hi; simpa using hi) | decide)
theorem okN__are_segments (T : Txt G mg) : FnOk P w G.K mg base (L2N.CX P w) 1 T.a__are_segments T.d__are_segments ["segments"] (Pr G [true] m__are_segments) := by
  exact fun_okCX T.F__are_segments sc__are_segments (Pr.len rfl) (fun cdv A outer s H vs Q E hr h => ⟨den G (fun _ => E) b__are_segments, (d_cons (d_for (passes_of rfl) rfl (pi_seqK (K := G.K) rfl (pv 0)) (pg_tupK (K := G.K) (n := 3) rfl (by rfl) (pgs_cons (pg_name (i := 1) sc__are_segments.nd (by rfl) (by first | exact Or.inl rfl | exact Or.inr rfl)) (pgs_cons (pg_name (i := 2) sc__are_segments.nd (by rfl) (by first | exact Or.inl rfl | exact Or.inr rfl)) (pgs_cons (pg_name (i := 3) sc__are_segments.nd (by rfl) (by first | exact Or.inl rfl | exact Or.inr rfl)) pgs_nil)))) (d_cons (d_if (pt_cmpR (op_notInK (K := G.K) rfl hr.units65) (pv 1) (pe_glob (v := .ref (G.kt 0)) (by rfl) T.k_KINDS rfl) (by rfl)) (pss_one (ps_ret pe_bl)) pss_nil)
      (pss_one (d_if (PW.pt (pw_or (pt_not (pt_chain op_le op_le pe_int (pv 2) (pe_glob (v := .int (500)) (by rfl) T.k_MOST_LENGTH ⟨_, rfl⟩))) (pw_or1 (pt_cmpR op_gt (pe_callB call_abs (by rfl) T.z_abs (by decide +kernel) (pa_cons (pv 3) pa_nil)) (pe_glob (v := .int (100)) (by rfl) T.k_MOST_SLOPE ⟨_, rfl⟩) (nomark _))))) (pss_one (ps_ret pe_bl)) pss_nil))))
      (pss_one (ps_ret pe_bl))), body (N := ["segments", "kind", "length", "slope"]) (wf__are_segments T) h⟩)
theorem wf_Layout__place_metres (T : Txt G mg) : Wf G b_Layout__place_metres := by
  delta b_Layout__place_metres l_Layout__place_metres_1 l_Layout__place_metres_2 
  repeat' (first | apply And.intro | exact True.intro | exact rfl | (intro i hi; exact hi) | exact True.intro | exact rfl | exact T.cl_Layout | exact T.n_Layout_segments | exact T.n_Layout__metres | exact T.n_Layout__heights | exact T.n_Layout__begins | exact T.n_Layout__brakes | exact T.q_KINDS | exact ⟨T.cl_Layout, T.n_Layout_segments⟩ | exact ⟨T.cl_Layout, T.n_Layout__metres⟩ | exact ⟨T.cl_Layout, T.n_Layout__heights⟩ | exact ⟨T.cl_Layout, T.n_Layout__begins⟩ | exact ⟨T.cl_Layout, T.n_Layout__brakes⟩ | (rintro x hx; have := List.mem_singleton.mp hx; subst this; exact T.te_CoasterError) | (rintro x hx; have := List.mem_singleton.mp hx; subst this; exact T.te_BadNumber) | (rintro x hx; have := List.mem_singleton.mp hx; subst this; exact T.te_InvalidLayout) | (rintro x hx; have := List.mem_singleton.mp hx; subst this; exact T.te_InvalidText) | (intro c hc; cases hc with | head => exact ⟨T.cl_Layout, T.n_Layout_segments⟩ | tail _ hc => cases hc) | (intro c hc; cases hc with | head => exact ⟨T.cl_Layout, T.n_Layout__metres⟩ | tail _ hc => cases hc) | (intro c hc; cases hc with | head => exact ⟨T.cl_Layout, T.n_Layout__heights⟩ | tail _ hc => cases hc) | (intro c hc; cases hc with | head => exact ⟨T.cl_Layout, T.n_Layout__begins⟩ | tail _ hc => cases hc) | (intro c hc; cases hc with | head => exact ⟨T.cl_Layout, T.n_Layout__brakes⟩ | tail _ hc => cases hc) | (intro i hi; simpa using hi) | decide)
theorem okN_Layout__place_metres (T : Txt G mg) : FnOk P w G.K mg base (L2N.CX P w) 1 T.a_Layout__place_metres T.d_Layout__place_metres ["self"] (PrS G 0 [] m_Layout__place_metres) := by
  exact fun_okCX T.F_Layout__place_metres sc_Layout__place_metres (PrS.len rfl) (fun cdv A outer s H vs Q E hr h => ⟨den G (fun _ => E) b_Layout__place_metres, (d_cons (ps_set (i := 1) sc_Layout__place_metres.nd (by rfl) (by first | exact Or.inl rfl | exact Or.inr rfl) pe_int)
      (pss_one (d_for (passes_of rfl) rfl (pi_seqK (K := G.K) rfl (pe_fldK (K := G.K) rfl (pv 0) rfl)) (pg_tupK (K := G.K) (n := 3) rfl (by rfl) (pgs_cons (pg_name (i := 2) sc_Layout__place_metres.nd (by rfl) (by first | exact Or.inl rfl | exact Or.inr rfl)) (pgs_cons (pg_name (i := 3) sc_Layout__place_metres.nd (by rfl) (by first | exact Or.inl rfl | exact Or.inr rfl)) (pgs_cons (pg_name (i := 4) sc_Layout__place_metres.nd (by rfl) (by first | exact Or.inl rfl | exact Or.inr rfl)) pgs_nil)))) (d_cons (ps_set (i := 5) sc_Layout__place_metres.nd (by rfl) (by first | exact Or.inl rfl | exact Or.inr rfl) (pe_callB (call_lenK (K := G.K) rfl) (by rfl) T.z_len (by decide +kernel) (pa_cons (pe_fldK (K := G.K) rfl (pv 0) rfl) pa_nil)))
      (d_cons (d_if (pt_cmpR (op_eqDK (K := G.K) rfl hr.units) (pv 2) pe_str (nomark _)) (pss_one (ps_expr (pe_bm PySem.F.plainAttrs_list PySem.F.slot_list_append PySem.F.type_list_append mt_append (pe_fldK (K := G.K) rfl (pv 0) rfl) (pa_cons (pe_callB (call_lenK (K := G.K) rfl) (by rfl) T.z_len (by decide +kernel) (pa_cons (pe_fldK (K := G.K) rfl (pv 0) rfl) pa_nil)) pa_nil)))) pss_nil)
      (d_cons (d_for (passes_of rfl) rfl (pi_range1 (by rfl) T.z_range (pa_cons (pv 3) pa_nil)) (pg_name (i := 6) sc_Layout__place_metres.nd (by rfl) (by first | exact Or.inl rfl | exact Or.inr rfl)) (d_cons (ps_expr (pe_bm PySem.F.plainAttrs_list PySem.F.slot_list_append PySem.F.type_list_append mt_append (pe_fldK (K := G.K) rfl (pv 0) rfl) (pa_cons (pe_tup (pa_cons (pv 2) (pa_cons (pv 4) (pa_cons (pv 5) pa_nil)))) pa_nil)))
      (d_cons (ps_expr (pe_bm PySem.F.plainAttrs_list PySem.F.slot_list_append PySem.F.type_list_append mt_append (pe_fldK (K := G.K) rfl (pv 0) rfl) (pa_cons (pv 1) pa_nil)))
      (pss_one (ps_set (i := 1) sc_Layout__place_metres.nd (by rfl) (by first | exact Or.inl rfl | exact Or.inr rfl) (pe_op (op_plusK (K := G.K) rfl) (pv 1) (pv 4)))))))
      (pss_one (d_if (pt_cmpR (op_eqDK (K := G.K) rfl hr.units) (pv 2) pe_str (nomark _)) (pss_one (ps_expr (pe_bm PySem.F.plainAttrs_list PySem.F.slot_list_append PySem.F.type_list_append mt_append (pe_fldK (K := G.K) rfl (pv 0) rfl) (pa_cons (pe_callB (call_lenK (K := G.K) rfl) (by rfl) T.z_len (by decide +kernel) (pa_cons (pe_fldK (K := G.K) rfl (pv 0) rfl) pa_nil)) pa_nil)))) pss_nil)))))))), bodyS (N := ["self", "height", "kind", "length", "slope", "block", "_"]) (wf_Layout__place_metres T) rfl h⟩)
theorem wf_Layout___init__ (T : Txt G mg) : Wf G b_Layout___init__ := by
  delta b_Layout___init__ 
  repeat' (first | apply And.intro | exact True.intro | exact rfl | (intro i hi; exact hi) | exact True.intro | exact rfl | exact T.cl_Layout | exact T.n_Layout_segments | exact T.n_Layout__metres | exact T.n_Layout__heights | exact T.n_Layout__begins | exact T.n_Layout__brakes | exact T.q_KINDS | exact ⟨T.cl_Layout, T.n_Layout_segments⟩ | exact ⟨T.cl_Layout, T.n_Layout__metres⟩ | exact ⟨T.cl_Layout, T.n_Layout__heights⟩ | exact ⟨T.cl_Layout, T.n_Layout__begins⟩ | exact ⟨T.cl_Layout, T.n_Layout__brakes⟩ | (rintro x hx; have := List.mem_singleton.mp hx; subst this; exact T.te_CoasterError) | (rintro x hx; have := List.mem_singleton.mp hx; subst this; exact T.te_BadNumber) | (rintro x hx; have := List.mem_singleton.mp hx; subst this; exact T.te_InvalidLayout) | (rintro x hx; have := List.mem_singleton.mp hx; subst this; exact T.te_InvalidText) | (intro c hc; cases hc with | head => exact ⟨T.cl_Layout, T.n_Layout_segments⟩ | tail _ hc => cases hc) | (intro c hc; cases hc with | head => exact ⟨T.cl_Layout, T.n_Layout__metres⟩ | tail _ hc => cases hc) | (intro c hc; cases hc with | head => exact ⟨T.cl_Layout, T.n_Layout__heights⟩ | tail _ hc => cases hc) | (intro c hc; cases hc with | head => exact ⟨T.cl_Layout, T.n_Layout__begins⟩ | tail _ hc => cases hc) | (intro c hc; cases hc with | head => exact ⟨T.cl_Layout, T.n_Layout__brakes⟩ | tail _ hc => cases hc) | (intro i hi; simpa using hi) | decide)
theorem okN_Layout___init__ (T : Txt G mg) : FnOk P w G.K mg base (L2N.CX P w) 2 T.a_Layout___init__ T.d_Layout___init__ ["self", "segments"] (PrI G 0 [true] m_Layout___init__) := by
  have GN__are_a_round := okN__are_a_round (P := P) (w := w) (base := base) T
  have GN__are_segments := okN__are_segments (P := P) (w := w) (base := base) T
  have GN_Layout__place_metres := okN_Layout__place_metres (P := P) (w := w) (base := base) T
  exact fun_okCX T.F_Layout___init__ sc_Layout___init__ (PrI.len rfl) (fun cdv A outer s H vs Q E hr h => ⟨den G (fun _ => E) b_Layout___init__, (d_cons (d_if (PW.pt (pw_or (pt_not (pt_truK (K := G.K) rfl (pe_cCall GN__are_segments (hr.mono (by first | decide | omega | (simp only [Nat.add_eq]; omega))) (by rfl) T.g__are_segments T.F__are_segments.kp T.b__are_segments (fun σ => L2N.passAt (L2N.takes_of rfl rfl rfl rfl) σ) (pa_cons (pv 1) pa_nil)))) (pw_or1 (pt_not (pt_truK (K := G.K) rfl (pe_cCall GN__are_a_round (hr.mono (by first | decide | omega | (simp only [Nat.add_eq]; omega))) (by rfl) T.g__are_a_round T.F__are_a_round.kp T.b__are_a_round (fun σ => L2N.passAt (L2N.takes_of rfl rfl rfl rfl) σ) (pa_cons (pv 1) pa_nil))))))) (pss_one (L2N.ps_raise rfl (L2N.takes_of rfl rfl rfl rfl) (L2N.pmk_own PySem.F.excBase_ValueError T.x_InvalidLayout T.g_InvalidLayout T.kk_InvalidLayout (raises_own T.bb_InvalidLayout T.tt_InvalidLayout) (by exact rfl)))) pss_nil)
      (d_cons (ps_fld (pv 0) (pe_callTy (call_tupK (K := G.K) rfl) (by rfl) T.z_tuple (by decide +kernel) (pa_cons (pv 1) pa_nil)) rfl)
      (d_cons (ps_fld (pv 0) (pe_lst pa_nil) rfl)
      (d_cons (ps_fld (pv 0) (pe_lst pa_nil) rfl)
      (d_cons (ps_fld (pv 0) (pe_lst (pa_cons pe_int pa_nil)) rfl)
      (d_cons (ps_fld (pv 0) (pe_lst pa_nil) rfl)
      (pss_one (ps_expr (pe_cMeth0 (pv 0) T.cl_Layout T.M_Layout__place_metres GN_Layout__place_metres (hr.mono (by first | decide | omega | (simp only [Nat.add_eq]; omega))) T.b_Layout__place_metres (fun σ => L2N.passAt (L2N.takes_of rfl rfl rfl rfl) σ)))))))))), bodyI (N := ["self", "segments"]) (wf_Layout___init__ T) h⟩)
theorem ok_Layout___init__ (T : Txt G mg) : FnOk P w G.K mg base (L2.CX P w) 2 T.a_Layout___init__ T.d_Layout___init__ ["self", "segments"] (PrI G 0 [true] m_Layout___init__) := okN_ok (okN_Layout___init__ T)
theorem wf_format_layout (T : Txt G mg) : Wf G b_format_layout := by
  delta b_format_layout e_format_layout_1 
  repeat' (first | apply And.intro | exact True.intro | exact rfl | (intro i hi; exact hi) | exact True.intro | exact rfl | exact T.cl_Layout | exact T.n_Layout_segments | exact T.n_Layout__metres | exact T.n_Layout__heights | exact T.n_Layout__begins | exact T.n_Layout__brakes | exact T.q_KINDS | exact ⟨T.cl_Layout, T.n_Layout_segments⟩ | exact ⟨T.cl_Layout, T.n_Layout__metres⟩ | exact ⟨T.cl_Layout, T.n_Layout__heights⟩ | exact ⟨T.cl_Layout, T.n_Layout__begins⟩ | exact ⟨T.cl_Layout, T.n_Layout__brakes⟩ | (rintro x hx; have := List.mem_singleton.mp hx; subst this; exact T.te_CoasterError) | (rintro x hx; have := List.mem_singleton.mp hx; subst this; exact T.te_BadNumber) | (rintro x hx; have := List.mem_singleton.mp hx; subst this; exact T.te_InvalidLayout) | (rintro x hx; have := List.mem_singleton.mp hx; subst this; exact T.te_InvalidText) | (intro c hc; cases hc with | head => exact ⟨T.cl_Layout, T.n_Layout_segments⟩ | tail _ hc => cases hc) | (intro c hc; cases hc with | head => exact ⟨T.cl_Layout, T.n_Layout__metres⟩ | tail _ hc => cases hc) | (intro c hc; cases hc with | head => exact ⟨T.cl_Layout, T.n_Layout__heights⟩ | tail _ hc => cases hc) | (intro c hc; cases hc with | head => exact ⟨T.cl_Layout, T.n_Layout__begins⟩ | tail _ hc => cases hc) | (intro c hc; cases hc with | head => exact ⟨T.cl_Layout, T.n_Layout__brakes⟩ | tail _ hc => cases hc) | (intro i hi; simpa using hi) | decide)
theorem ok_format_layout (T : Txt G mg) : FnOk P w G.K mg base (L2.CX P w) 1 T.a_format_layout T.d_format_layout ["layout"] (Pr G [false] m_format_layout) := by
  exact T.F_format_layout.okX sc_format_layout (Pr.len rfl) (fun cdv A outer s H vs Q E hr h => ⟨den G (fun _ => E) b_format_layout, (pss_one (ps_ret (pe_joinK (K := G.K) rfl pe_str (pe_lc (own := [("kind", 1), ("length", 2), ("slope", 3)]) (by rfl) sc_format_layout.nd (pi_seqK (K := G.K) rfl (pe_fldK (K := G.K) rfl (pv 0) rfl)) (blkOk_by (own := [("kind", 1), ("length", 2), ("slope", 3)]) (N := ["layout", "kind", "length", "slope"]) (sc := defScope s_format_layout) (by decide +kernel)) (fun _ _ _ _ _ => (pg_tupK (K := G.K) (n := 3) rfl (by rfl) (pgs_cons (pg_name (i := 1) sc_format_layout.nd (by rfl) (by first | exact Or.inl rfl | exact Or.inr rfl)) (pgs_cons (pg_name (i := 2) sc_format_layout.nd (by rfl) (by first | exact Or.inl rfl | exact Or.inr rfl)) (pgs_cons (pg_name (i := 3) sc_format_layout.nd (by rfl) (by first | exact Or.inl rfl | exact Or.inr rfl)) pgs_nil))))) (fun _ _ _ _ _ => pts_nil) (fun _ _ _ _ _ => (pe_joined (.cons (pe_fmt (pv 1)) (.cons pe_str (.cons (pe_fmt (pv 2)) (.cons pe_str (.cons (pe_fmt (pv 3)) .nil))))))))))), body (N := ["layout", "kind", "length", "slope"]) (wf_format_layout T) h⟩)
theorem wf_parse_layout (T : Txt G mg) : Wf G b_parse_layout := by
  delta b_parse_layout 
  repeat' (first | apply And.intro | exact True.intro | exact rfl | (intro i hi; exact hi) | exact True.intro | exact rfl | exact T.cl_Layout | exact T.n_Layout_segments | exact T.n_Layout__metres | exact T.n_Layout__heights | exact T.n_Layout__begins | exact T.n_Layout__brakes | exact T.q_KINDS | exact ⟨T.cl_Layout, T.n_Layout_segments⟩ | exact ⟨T.cl_Layout, T.n_Layout__metres⟩ | exact ⟨T.cl_Layout, T.n_Layout__heights⟩ | exact ⟨T.cl_Layout, T.n_Layout__begins⟩ | exact ⟨T.cl_Layout, T.n_Layout__brakes⟩ | (rintro x hx; have := List.mem_singleton.mp hx; subst this; exact T.te_CoasterError) | (rintro x hx; have := List.mem_singleton.mp hx; subst this; exact T.te_BadNumber) | (rintro x hx; have := List.mem_singleton.mp hx; subst this; exact T.te_InvalidLayout) | (rintro x hx; have := List.mem_singleton.mp hx; subst this; exact T.te_InvalidText) | (intro c hc; cases hc with | head => exact ⟨T.cl_Layout, T.n_Layout_segments⟩ | tail _ hc => cases hc) | (intro c hc; cases hc with | head => exact ⟨T.cl_Layout, T.n_Layout__metres⟩ | tail _ hc => cases hc) | (intro c hc; cases hc with | head => exact ⟨T.cl_Layout, T.n_Layout__heights⟩ | tail _ hc => cases hc) | (intro c hc; cases hc with | head => exact ⟨T.cl_Layout, T.n_Layout__begins⟩ | tail _ hc => cases hc) | (intro c hc; cases hc with | head => exact ⟨T.cl_Layout, T.n_Layout__brakes⟩ | tail _ hc => cases hc) | (intro i hi; simpa using hi) | decide)
theorem ok_parse_layout (T : Txt G mg) : FnOk P w G.K mg base (L2.CX P w) 5 T.a_parse_layout T.d_parse_layout ["text"] (Pr G [false] m_parse_layout) := by
  have G_read_lines := ok_read_lines (P := P) (w := w) (base := base) T
  have G_Layout___init__ := ok_Layout___init__ (P := P) (w := w) (base := base) T
  have GN_Layout___init__ := okN_Layout___init__ (P := P) (w := w) (base := base) T
  exact T.F_parse_layout.okX sc_parse_layout (Pr.len rfl) (fun cdv A outer s H vs Q E hr h => ⟨den G (fun _ => E) b_parse_layout, (d_cons (ps_set (i := 1) sc_parse_layout.nd (by rfl) (by first | exact Or.inl rfl | exact Or.inr rfl) (pe_split (pv 0) pe_str))
      (d_cons (ps_set (i := 2) sc_parse_layout.nd (by rfl) (by first | exact Or.inl rfl | exact Or.inr rfl) (pe_cCall G_read_lines (hr.mono (by first | decide | omega | (simp only [Nat.add_eq]; omega))) (by rfl) T.g_read_lines T.F_read_lines.kp T.b_read_lines (fun σ => passAt (takes_of rfl rfl rfl rfl) σ) (pa_cons (pv 1) (pa_cons pe_int (pa_cons (pe_glob (v := .ref (G.ft 0)) (by rfl) T.gf__read_segment rfl) pa_nil)))))
      (pss_one (ps_tryX (K := G.K) rfl rfl rfl ⟨rfl, by decide, .inl T.g_InvalidLayout⟩ (L2H.passesAt_of rfl) (takes_of rfl rfl rfl rfl) (fun W pn xe tk _ => (pss_one (ps_ret (pe_cMake T.mk_Layout GN_Layout___init__ (hr.mono (by first | decide | omega | (simp only [Nat.add_eq]; omega))) (by rfl) T.g_Layout T.b_Layout___init__ (fun σ => L2N.passAt tk σ) (pa_cons (pv 2) pa_nil))))) (fun a oe cls d pn tk hot => (pss_one (ps_raiseFH hot tk T.oex_InvalidText T.ii_InvalidText T.ti_InvalidText (okh_InvalidText (P := P) (w := w) (base := base) T) (L2H.roomH_mark (hr.mono (by first | decide | omega | (simp only [Nat.add_eq]; omega))) _) T.b_InvalidText passn (by rfl) T.g_InvalidText (pa_cons (pe_callB (call_lenK (K := G.K) rfl) (by rfl) T.z_len (by decide +kernel) (pa_cons (pv 1) pa_nil)) pa_nil)))))))), body (N := ["text", "lines", "segments"]) (wf_parse_layout T) h⟩)
theorem wf__law_cell (T : Txt G mg) : Wf G b__law_cell := by
  delta b__law_cell 
  repeat' (first | apply And.intro | exact True.intro | exact rfl | (intro i hi; exact hi) | exact True.intro | exact rfl | exact T.cl_Layout | exact T.n_Layout_segments | exact T.n_Layout__metres | exact T.n_Layout__heights | exact T.n_Layout__begins | exact T.n_Layout__brakes | exact T.q_KINDS | exact ⟨T.cl_Layout, T.n_Layout_segments⟩ | exact ⟨T.cl_Layout, T.n_Layout__metres⟩ | exact ⟨T.cl_Layout, T.n_Layout__heights⟩ | exact ⟨T.cl_Layout, T.n_Layout__begins⟩ | exact ⟨T.cl_Layout, T.n_Layout__brakes⟩ | (rintro x hx; have := List.mem_singleton.mp hx; subst this; exact T.te_CoasterError) | (rintro x hx; have := List.mem_singleton.mp hx; subst this; exact T.te_BadNumber) | (rintro x hx; have := List.mem_singleton.mp hx; subst this; exact T.te_InvalidLayout) | (rintro x hx; have := List.mem_singleton.mp hx; subst this; exact T.te_InvalidText) | (intro c hc; cases hc with | head => exact ⟨T.cl_Layout, T.n_Layout_segments⟩ | tail _ hc => cases hc) | (intro c hc; cases hc with | head => exact ⟨T.cl_Layout, T.n_Layout__metres⟩ | tail _ hc => cases hc) | (intro c hc; cases hc with | head => exact ⟨T.cl_Layout, T.n_Layout__heights⟩ | tail _ hc => cases hc) | (intro c hc; cases hc with | head => exact ⟨T.cl_Layout, T.n_Layout__begins⟩ | tail _ hc => cases hc) | (intro c hc; cases hc with | head => exact ⟨T.cl_Layout, T.n_Layout__brakes⟩ | tail _ hc => cases hc) | (intro i hi; simpa using hi) | decide)
theorem ok__law_cell (T : Txt G mg) : FnOk P w G.K mg base (L2.CX P w) 1 T.a__law_cell T.d__law_cell ["script", "k"] (Pr G [false, false] m__law_cell) := by
  exact T.F__law_cell.okX sc__law_cell (Pr.len rfl) (fun cdv A outer s H vs Q E hr h => ⟨den G (fun _ => E) b__law_cell, (d_cons (d_if (pt_cmpR op_lt (pv 1) (pe_callB (call_lenK (K := G.K) rfl) (by rfl) T.z_len (by decide +kernel) (pa_cons (pv 0) pa_nil)) (nomark _)) (pss_one (ps_ret (pe_callB call_abs (by rfl) T.z_abs (by decide +kernel) (pa_cons (pe_callTy call_intK (by rfl) T.z_int (by decide +kernel) (pa_cons (pe_ix (ix_seqK (K := G.K) rfl) (pv 0) (pv 1) (fun _ _ => rfl)) pa_nil)) pa_nil)))) pss_nil)
      (pss_one (ps_ret pe_int))), body (N := ["script", "k"]) (wf__law_cell T) h⟩)
theorem wf__law_draws (T : Txt G mg) : Wf G b__law_draws := by
  delta b__law_draws l__law_draws_1 
  repeat' (first | apply And.intro | exact True.intro | exact rfl | (intro i hi; exact hi) | exact True.intro | exact rfl | exact T.cl_Layout | exact T.n_Layout_segments | exact T.n_Layout__metres | exact T.n_Layout__heights | exact T.n_Layout__begins | exact T.n_Layout__brakes | exact T.q_KINDS | exact ⟨T.cl_Layout, T.n_Layout_segments⟩ | exact ⟨T.cl_Layout, T.n_Layout__metres⟩ | exact ⟨T.cl_Layout, T.n_Layout__heights⟩ | exact ⟨T.cl_Layout, T.n_Layout__begins⟩ | exact ⟨T.cl_Layout, T.n_Layout__brakes⟩ | (rintro x hx; have := List.mem_singleton.mp hx; subst this; exact T.te_CoasterError) | (rintro x hx; have := List.mem_singleton.mp hx; subst this; exact T.te_BadNumber) | (rintro x hx; have := List.mem_singleton.mp hx; subst this; exact T.te_InvalidLayout) | (rintro x hx; have := List.mem_singleton.mp hx; subst this; exact T.te_InvalidText) | (intro c hc; cases hc with | head => exact ⟨T.cl_Layout, T.n_Layout_segments⟩ | tail _ hc => cases hc) | (intro c hc; cases hc with | head => exact ⟨T.cl_Layout, T.n_Layout__metres⟩ | tail _ hc => cases hc) | (intro c hc; cases hc with | head => exact ⟨T.cl_Layout, T.n_Layout__heights⟩ | tail _ hc => cases hc) | (intro c hc; cases hc with | head => exact ⟨T.cl_Layout, T.n_Layout__begins⟩ | tail _ hc => cases hc) | (intro c hc; cases hc with | head => exact ⟨T.cl_Layout, T.n_Layout__brakes⟩ | tail _ hc => cases hc) | (intro i hi; simpa using hi) | decide)
theorem ok__law_draws (T : Txt G mg) : FnOk P w G.K mg base (L2.CX P w) 1 T.a__law_draws T.d__law_draws ["cell", "count"] (Pr G [false, false] m__law_draws) := by
  exact T.F__law_draws.okX sc__law_draws (Pr.len rfl) (fun cdv A outer s H vs Q E hr h => ⟨den G (fun _ => E) b__law_draws, (d_cons (ps_set (i := 2) sc__law_draws.nd (by rfl) (by first | exact Or.inl rfl | exact Or.inr rfl) (pe_lst pa_nil))
      (d_cons (ps_set (i := 3) sc__law_draws.nd (by rfl) (by first | exact Or.inl rfl | exact Or.inr rfl) (pv 0))
      (d_cons (d_for (passes_of rfl) rfl (pi_range1 (by rfl) T.z_range (pa_cons (pv 1) pa_nil)) (pg_name (i := 4) sc__law_draws.nd (by rfl) (by first | exact Or.inl rfl | exact Or.inr rfl)) (pss_one (d_if (PW.pt (pw_and (pt_cmpR op_ge (pv 0) (pe_op op_pow pe_int pe_int) (nomark _)) (pw_and1 (pt_cmpR op_gt (pv 3) pe_int (nomark _))))) (d_cons (ps_expr (pe_bm PySem.F.plainAttrs_list PySem.F.slot_list_append PySem.F.type_list_append mt_append (pv 2) (pa_cons (pe_op op_mod (pe_callTy call_intK (by rfl) T.z_int (by decide +kernel) (pa_cons (pv 3) pa_nil)) pe_int) pa_nil)))
      (pss_one (ps_set (i := 3) sc__law_draws.nd (by rfl) (by first | exact Or.inl rfl | exact Or.inr rfl) (pe_op op_fdivW (pv 3) pe_int)))) (d_cons (ps_set (i := 5) sc__law_draws.nd (by rfl) (by first | exact Or.inl rfl | exact Or.inr rfl) (pe_op op_mod (pe_callTy call_intK (by rfl) T.z_int (by decide +kernel) (pa_cons (pe_op (op_plusK (K := G.K) rfl) (pe_op (op_timesK (K := G.K) rfl) (pv 0) pe_int) (pe_op (op_timesK (K := G.K) rfl) (pe_op (op_plusK (K := G.K) rfl) (pv 4) pe_int) pe_int)) pa_nil)) pe_int))
      (d_cons (ps_set (i := 5) sc__law_draws.nd (by rfl) (by first | exact Or.inl rfl | exact Or.inr rfl) (pe_op op_mod (pe_callTy call_intK (by rfl) T.z_int (by decide +kernel) (pa_cons (pe_op (op_plusK (K := G.K) rfl) (pe_op (op_plusK (K := G.K) rfl) (pe_op (op_timesK (K := G.K) rfl) (pv 5) (pv 5)) (pe_op (op_timesK (K := G.K) rfl) (pv 5) pe_int)) (pe_op (op_timesK (K := G.K) rfl) (pv 4) pe_int)) pa_nil)) pe_int))
      (d_cons (ps_set (i := 5) sc__law_draws.nd (by rfl) (by first | exact Or.inl rfl | exact Or.inr rfl) (pe_op op_mod (pe_callTy call_intK (by rfl) T.z_int (by decide +kernel) (pa_cons (pe_op (op_plusK (K := G.K) rfl) (pe_op (op_plusK (K := G.K) rfl) (pe_op (op_timesK (K := G.K) rfl) (pv 5) (pv 5)) (pv 0)) (pe_op (op_timesK (K := G.K) rfl) pe_int (pv 4))) pa_nil)) pe_int))
      (pss_one (ps_expr (pe_bm PySem.F.plainAttrs_list PySem.F.slot_list_append PySem.F.type_list_append mt_append (pv 2) (pa_cons (pe_op op_mod (pe_op op_fdivW (pv 5) pe_int) pe_int) pa_nil))))))))))
      (pss_one (ps_ret (pv 2)))))), body (N := ["cell", "count", "rows", "left", "k", "mixed"]) (wf__law_draws T) h⟩)
theorem wf__law_like {s_ : List D → R RV} (T : Txt G mg) : Wf G (b__law_like s_) := by
  delta b__law_like e__law_like_1 
  repeat' (first | apply And.intro | exact True.intro | exact rfl | (intro i hi; exact hi) | exact True.intro | exact rfl | exact T.cl_Layout | exact T.n_Layout_segments | exact T.n_Layout__metres | exact T.n_Layout__heights | exact T.n_Layout__begins | exact T.n_Layout__brakes | exact T.q_KINDS | exact ⟨T.cl_Layout, T.n_Layout_segments⟩ | exact ⟨T.cl_Layout, T.n_Layout__metres⟩ | exact ⟨T.cl_Layout, T.n_Layout__heights⟩ | exact ⟨T.cl_Layout, T.n_Layout__begins⟩ | exact ⟨T.cl_Layout, T.n_Layout__brakes⟩ | (rintro x hx; have := List.mem_singleton.mp hx; subst this; exact T.te_CoasterError) | (rintro x hx; have := List.mem_singleton.mp hx; subst this; exact T.te_BadNumber) | (rintro x hx; have := List.mem_singleton.mp hx; subst this; exact T.te_InvalidLayout) | (rintro x hx; have := List.mem_singleton.mp hx; subst this; exact T.te_InvalidText) | (intro c hc; cases hc with | head => exact ⟨T.cl_Layout, T.n_Layout_segments⟩ | tail _ hc => cases hc) | (intro c hc; cases hc with | head => exact ⟨T.cl_Layout, T.n_Layout__metres⟩ | tail _ hc => cases hc) | (intro c hc; cases hc with | head => exact ⟨T.cl_Layout, T.n_Layout__heights⟩ | tail _ hc => cases hc) | (intro c hc; cases hc with | head => exact ⟨T.cl_Layout, T.n_Layout__begins⟩ | tail _ hc => cases hc) | (intro c hc; cases hc with | head => exact ⟨T.cl_Layout, T.n_Layout__brakes⟩ | tail _ hc => cases hc) | (intro i hi; simpa using hi) | decide)
theorem okn__law_like (T : Txt G mg) : ∀ n : Nat, FnOk P w G.K mg base (L2.CX P w) (1 + n) T.a__law_like T.d__law_like ["actual", "due"] (Pr G [false, false] (n__law_like n))
  | 0 => fn_none fun vs H Q E h => by
    obtain ⟨B, ds, e, a, q⟩ := h
    exact q
  | n + 1 => by
    have G__law_like := okn__law_like T n
    exact T.F__law_like.okX sc__law_like (Pr.len rfl) (fun cdv A outer s H vs Q E hr h => ⟨_, (pss_cons (ps_if (pt_cmpR Ci.op_isN1 (pv 1) pe_non (nomark _)) (pss_one (ps_ret (pe_cmpR Ci.op_isN1 (pv 0) pe_non (nomark _)))) pss_nil)
      (pss_cons (ps_if (pt_truK (K := G.K) rfl (pe_callB (call_isiX (K := G.K) rfl) (by rfl) T.z_isinstance (by decide +kernel) (pa_cons (pv 1) (pa_cons (pe_bltn (v := .ty "bool") (by rfl) T.z_bool (by decide +kernel) rfl) pa_nil)))) (pss_one (ps_ret (pe_and (pe_callB (call_isiX (K := G.K) rfl) (by rfl) T.z_isinstance (by decide +kernel) (pa_cons (pv 0) (pa_cons (pe_bltn (v := .ty "bool") (by rfl) T.z_bool (by decide +kernel) rfl) pa_nil))) (pe_one (pe_cmpR (op_eqDK (K := G.K) rfl hr.units) (pv 0) (pv 1) (nomark _)))))) pss_nil)
      (pss_cons (ps_if (pt_truK (K := G.K) rfl (pe_callB (call_isiX (K := G.K) rfl) (by rfl) T.z_isinstance (by decide +kernel) (pa_cons (pv 1) (pa_cons (pe_bltn (v := .ty "str") (by rfl) T.z_str (by decide +kernel) rfl) pa_nil)))) (pss_one (ps_ret (pe_and (pe_callB (call_isiX (K := G.K) rfl) (by rfl) T.z_isinstance (by decide +kernel) (pa_cons (pv 0) (pa_cons (pe_bltn (v := .ty "str") (by rfl) T.z_str (by decide +kernel) rfl) pa_nil))) (pe_one (pe_cmpR (op_eqDK (K := G.K) rfl hr.units) (pv 0) (pv 1) (nomark _)))))) pss_nil)
      (pss_cons (ps_if (pt_truK (K := G.K) rfl (pe_callB (call_isiX (K := G.K) rfl) (by rfl) T.z_isinstance (by decide +kernel) (pa_cons (pv 1) (pa_cons (pe_bltn (v := .ty "int") (by rfl) T.z_int (by decide +kernel) rfl) pa_nil)))) (pss_one (ps_ret (pe_and (pe_callB (call_isiX (K := G.K) rfl) (by rfl) T.z_isinstance (by decide +kernel) (pa_cons (pv 0) (pa_cons (pe_bltn (v := .ty "int") (by rfl) T.z_int (by decide +kernel) rfl) pa_nil))) (pe_and (pe_not (pe_callB (call_isiX (K := G.K) rfl) (by rfl) T.z_isinstance (by decide +kernel) (pa_cons (pv 0) (pa_cons (pe_bltn (v := .ty "bool") (by rfl) T.z_bool (by decide +kernel) rfl) pa_nil)))) (pe_one (pe_cmpR (op_eqDK (K := G.K) rfl hr.units) (pv 0) (pv 1) (nomark _))))))) pss_nil)
      (pss_cons (ps_if (PW.pt (pw_or (pt_cmpR (op_neDK (K := G.K) rfl hr.units) (pe_callB (call_isiX (K := G.K) rfl) (by rfl) T.z_isinstance (by decide +kernel) (pa_cons (pv 1) (pa_cons (pe_bltn (v := .ty "list") (by rfl) T.z_list (by decide +kernel) rfl) pa_nil))) (pe_callB (call_isiX (K := G.K) rfl) (by rfl) T.z_isinstance (by decide +kernel) (pa_cons (pv 0) (pa_cons (pe_bltn (v := .ty "list") (by rfl) T.z_list (by decide +kernel) rfl) pa_nil))) (nomark _)) (pw_or1 (pt_cmpR (op_neDK (K := G.K) rfl hr.units) (pe_callB (call_isiX (K := G.K) rfl) (by rfl) T.z_isinstance (by decide +kernel) (pa_cons (pv 1) (pa_cons (pe_bltn (v := .ty "tuple") (by rfl) T.z_tuple (by decide +kernel) rfl) pa_nil))) (pe_callB (call_isiX (K := G.K) rfl) (by rfl) T.z_isinstance (by decide +kernel) (pa_cons (pv 0) (pa_cons (pe_bltn (v := .ty "tuple") (by rfl) T.z_tuple (by decide +kernel) rfl) pa_nil))) (nomark _))))) (pss_one (ps_ret pe_bl)) pss_nil)
      (pss_cons (ps_if (pt_cmpR (op_neDK (K := G.K) rfl hr.units) (pe_callB (call_lenK (K := G.K) rfl) (by rfl) T.z_len (by decide +kernel) (pa_cons (pv 0) pa_nil)) (pe_callB (call_lenK (K := G.K) rfl) (by rfl) T.z_len (by decide +kernel) (pa_cons (pv 1) pa_nil)) (nomark _)) (pss_one (ps_ret pe_bl)) pss_nil)
      (pss_one (ps_ret (pe_callB (cr_allK (K := G.K) rfl rfl) (by rfl) T.z_all (by decide +kernel) (pa_cons (pe_lc (own := [("k", 2)]) (by rfl) sc__law_like.nd (pi_range1 (by rfl) T.z_range (pa_cons (pe_callB (call_lenK (K := G.K) rfl) (by rfl) T.z_len (by decide +kernel) (pa_cons (pv 1) pa_nil)) pa_nil)) (blkOk_by (own := [("k", 2)]) (N := ["actual", "due", "k"]) (sc := defScope s__law_like) (by decide +kernel)) (fun _ _ _ _ _ => (pg_name (i := 2) sc__law_like.nd (by rfl) (by first | exact Or.inl rfl | exact Or.inr rfl))) (fun _ _ _ _ _ => pts_nil) (fun _ _ _ _ _ => (pe_cCall G__law_like (hr.mono (by first | decide | omega | (simp only [Nat.add_eq]; omega))) (by rfl) T.g__law_like T.F__law_like.kp T.b__law_like passLc (pa_cons (pe_ix (ix_seqK (K := G.K) rfl) (pv 0) (pv 2) (fun _ _ => rfl)) (pa_cons (pe_ix (ix_seqK (K := G.K) rfl) (pv 1) (pv 2) (fun _ _ => rfl)) pa_nil))))) pa_nil)))))))))), body (N := ["actual", "due", "k"]) (wf__law_like T) h⟩)
theorem ok__law_like (T : Txt G mg) : FnOk P w G.K mg base (L2.CX P w) 13 T.a__law_like T.d__law_like ["actual", "due"] (Pr G [false, false] m__law_like) := okn__law_like T 12
theorem wf__law_drawn_segments (T : Txt G mg) : Wf G b__law_drawn_segments := by
  delta b__law_drawn_segments l__law_drawn_segments_1 l__law_drawn_segments_2 l__law_drawn_segments_3 
  repeat' (first | apply And.intro | exact True.intro | exact rfl | (intro i hi; exact hi) | exact True.intro | exact rfl | exact T.cl_Layout | exact T.n_Layout_segments | exact T.n_Layout__metres | exact T.n_Layout__heights | exact T.n_Layout__begins | exact T.n_Layout__brakes | exact T.q_KINDS | exact ⟨T.cl_Layout, T.n_Layout_segments⟩ | exact ⟨T.cl_Layout, T.n_Layout__metres⟩ | exact ⟨T.cl_Layout, T.n_Layout__heights⟩ | exact ⟨T.cl_Layout, T.n_Layout__begins⟩ | exact ⟨T.cl_Layout, T.n_Layout__brakes⟩ | (rintro x hx; have := List.mem_singleton.mp hx; subst this; exact T.te_CoasterError) | (rintro x hx; have := List.mem_singleton.mp hx; subst this; exact T.te_BadNumber) | (rintro x hx; have := List.mem_singleton.mp hx; subst this; exact T.te_InvalidLayout) | (rintro x hx; have := List.mem_singleton.mp hx; subst this; exact T.te_InvalidText) | (intro c hc; cases hc with | head => exact ⟨T.cl_Layout, T.n_Layout_segments⟩ | tail _ hc => cases hc) | (intro c hc; cases hc with | head => exact ⟨T.cl_Layout, T.n_Layout__metres⟩ | tail _ hc => cases hc) | (intro c hc; cases hc with | head => exact ⟨T.cl_Layout, T.n_Layout__heights⟩ | tail _ hc => cases hc) | (intro c hc; cases hc with | head => exact ⟨T.cl_Layout, T.n_Layout__begins⟩ | tail _ hc => cases hc) | (intro c hc; cases hc with | head => exact ⟨T.cl_Layout, T.n_Layout__brakes⟩ | tail _ hc => cases hc) | (intro i hi; simpa using hi) | decide)
theorem ok__law_drawn_segments (T : Txt G mg) : FnOk P w G.K mg base (L2.CX P w) 1 T.a__law_drawn_segments T.d__law_drawn_segments ["draws", "most"] (Pr G [false, false] m__law_drawn_segments) := by
  exact T.F__law_drawn_segments.okX sc__law_drawn_segments (Pr.len rfl) (fun cdv A outer s H vs Q E hr h => ⟨den G (fun _ => E) b__law_drawn_segments, (d_cons (ps_set (i := 2) sc__law_drawn_segments.nd (by rfl) (by first | exact Or.inl rfl | exact Or.inr rfl) (pe_op (op_plusK (K := G.K) rfl) pe_int (pe_op op_mod (pe_ix (ix_seqK (K := G.K) rfl) (pv 0) pe_int (fun _ _ => rfl)) pe_int)))
      (d_cons (ps_set (i := 3) sc__law_drawn_segments.nd (by rfl) (by first | exact Or.inl rfl | exact Or.inr rfl) (pe_lst pa_nil))
      (d_cons (ps_set (i := 4) sc__law_drawn_segments.nd (by rfl) (by first | exact Or.inl rfl | exact Or.inr rfl) pe_int)
      (d_cons (d_for (passes_of rfl) rfl (pi_range1 (by rfl) T.z_range (pa_cons (pv 2) pa_nil)) (pg_name (i := 5) sc__law_drawn_segments.nd (by rfl) (by first | exact Or.inl rfl | exact Or.inr rfl)) (d_cons (d_for (passes_of rfl) rfl (pi_range1 (by rfl) T.z_range (pa_cons (pe_op op_mod (pe_ix (ix_seqK (K := G.K) rfl) (pv 0) (pe_op (op_plusK (K := G.K) rfl) pe_int (pv 5)) (fun _ _ => rfl)) pe_int) pa_nil)) (pg_name (i := 6) sc__law_drawn_segments.nd (by rfl) (by first | exact Or.inl rfl | exact Or.inr rfl)) (d_cons (ps_set (i := 7) sc__law_drawn_segments.nd (by rfl) (by first | exact Or.inl rfl | exact Or.inr rfl) (pe_ix (ix_seqK (K := G.K) rfl) (pv 0) (pe_op (op_plusK (K := G.K) rfl) (pe_op (op_plusK (K := G.K) rfl) pe_int (pe_op (op_timesK (K := G.K) rfl) pe_int (pv 5))) (pv 6)) (fun _ _ => rfl)))
      (d_cons (ps_set (i := 8) sc__law_drawn_segments.nd (by rfl) (by first | exact Or.inl rfl | exact Or.inr rfl) (pe_ix (ix_seqK (K := G.K) rfl) (pe_lst (pa_cons pe_str (pa_cons pe_str (pa_cons pe_str pa_nil)))) (pe_op op_mod (pv 7) pe_int) (fun _ _ => rfl)))
      (d_cons (ps_set (i := 9) sc__law_drawn_segments.nd (by rfl) (by first | exact Or.inl rfl | exact Or.inr rfl) (pe_op op_sub (pe_op op_mod (pe_op op_fdivW (pv 7) pe_int) pe_int) pe_int))
      (d_cons (ps_set (i := 10) sc__law_drawn_segments.nd (by rfl) (by first | exact Or.inl rfl | exact Or.inr rfl) (pe_op (op_plusK (K := G.K) rfl) pe_int (pe_op op_mod (pe_op op_fdivW (pv 7) pe_int) (pv 1))))
      (d_cons (ps_expr (pe_bm PySem.F.plainAttrs_list PySem.F.slot_list_append PySem.F.type_list_append mt_append (pv 3) (pa_cons (pe_tup (pa_cons (pv 8) (pa_cons (pv 10) (pa_cons (pv 9) pa_nil)))) pa_nil)))
      (pss_one (ps_set (i := 4) sc__law_drawn_segments.nd (by rfl) (by first | exact Or.inl rfl | exact Or.inr rfl) (pe_op (op_plusK (K := G.K) rfl) (pv 4) (pe_op (op_timesK (K := G.K) rfl) (pv 10) (pv 9)))))))))))
      (d_cons (ps_set (i := 11) sc__law_drawn_segments.nd (by rfl) (by first | exact Or.inl rfl | exact Or.inr rfl) (pe_op op_sub (pe_op op_mod (pe_ix (ix_seqK (K := G.K) rfl) (pv 0) (pe_op (op_plusK (K := G.K) rfl) pe_int (pv 5)) (fun _ _ => rfl)) pe_int) pe_int))
      (d_cons (ps_expr (pe_bm PySem.F.plainAttrs_list PySem.F.slot_list_append PySem.F.type_list_append mt_append (pv 3) (pa_cons (pe_tup (pa_cons pe_str (pa_cons (pe_op (op_plusK (K := G.K) rfl) pe_int (pe_op op_mod (pe_ix (ix_seqK (K := G.K) rfl) (pv 0) (pe_op (op_plusK (K := G.K) rfl) pe_int (pv 5)) (fun _ _ => rfl)) pe_int)) (pa_cons (pv 11) pa_nil)))) pa_nil)))
      (pss_one (ps_set (i := 4) sc__law_drawn_segments.nd (by rfl) (by first | exact Or.inl rfl | exact Or.inr rfl) (pe_op (op_plusK (K := G.K) rfl) (pv 4) (pe_op (op_timesK (K := G.K) rfl) (pe_ix (ix_seqK (K := G.K) rfl) (pe_ix (ix_seqK (K := G.K) rfl) (pv 3) (pe_un un_neg pe_int) (fun _ _ => rfl)) pe_int (fun _ _ => rfl)) (pv 11)))))))))
      (d_cons (ps_expr (pe_bm PySem.F.plainAttrs_list PySem.F.slot_list_insert PySem.F.type_list_insert mt_insert (pv 3) (pa_cons (pe_op op_mod (pe_ix (ix_seqK (K := G.K) rfl) (pv 0) pe_int (fun _ _ => rfl)) (pe_callB (call_lenK (K := G.K) rfl) (by rfl) T.z_len (by decide +kernel) (pa_cons (pv 3) pa_nil))) (pa_cons (pe_tup (pa_cons pe_str (pa_cons pe_int (pa_cons pe_int pa_nil)))) pa_nil))))
      (d_cons (ps_set (i := 12) sc__law_drawn_segments.nd (by rfl) (by first | exact Or.inl rfl | exact Or.inr rfl) (pe_un un_neg (pv 4)))
      (d_cons (d_for (passes_of rfl) rfl (pi_range1 (by rfl) T.z_range (pa_cons pe_int pa_nil)) (pg_name (i := 6) sc__law_drawn_segments.nd (by rfl) (by first | exact Or.inl rfl | exact Or.inr rfl)) (pss_one (d_if (pt_cmpR (op_neDK (K := G.K) rfl hr.units) (pv 12) pe_int (nomark _)) (d_cons (ps_set (i := 9) sc__law_drawn_segments.nd (by rfl) (by first | exact Or.inl rfl | exact Or.inr rfl) (pe_callB (call_max2 rfl) (by rfl) T.z_max (by decide +kernel) (pa_cons (pe_un un_neg pe_int) (pa_cons (pe_callB (call_min2 rfl) (by rfl) T.z_min (by decide +kernel) (pa_cons pe_int (pa_cons (pv 12) pa_nil))) pa_nil))))
      (d_cons (ps_expr (pe_bm PySem.F.plainAttrs_list PySem.F.slot_list_insert PySem.F.type_list_insert mt_insert (pv 3) (pa_cons pe_int (pa_cons (pe_tup (pa_cons (pe_ix (ix_seqK (K := G.K) rfl) (pe_lst (pa_cons (pe_ix (ix_seqK (K := G.K) rfl) (pe_tup (pa_cons pe_str (pa_cons pe_str pa_nil))) (pe_callTy call_intK (by rfl) T.z_int (by decide +kernel) (pa_cons (pe_cmpR op_gt (pv 9) pe_int (nomark _)) pa_nil)) (fun _ _ => rfl)) (pa_cons pe_str pa_nil))) (pe_op op_mod (pe_ix (ix_seqK (K := G.K) rfl) (pv 0) pe_int (fun _ _ => rfl)) pe_int) (fun _ _ => rfl)) (pa_cons pe_int (pa_cons (pv 9) pa_nil)))) pa_nil))))
      (pss_one (ps_set (i := 12) sc__law_drawn_segments.nd (by rfl) (by first | exact Or.inl rfl | exact Or.inr rfl) (pe_op op_sub (pv 12) (pv 9)))))) pss_nil)))
      (pss_one (ps_ret (pv 3)))))))))), body (N := ["draws", "most", "count", "rows", "height", "block", "k", "draw", "kind", "slope", "length", "tilt", "left"]) (wf__law_drawn_segments T) h⟩)
theorem wf__law_drawn_layout (T : Txt G mg) : Wf G b__law_drawn_layout := by
  delta b__law_drawn_layout e__law_drawn_layout_1 
  repeat' (first | apply And.intro | exact True.intro | exact rfl | (intro i hi; exact hi) | exact True.intro | exact rfl | exact T.cl_Layout | exact T.n_Layout_segments | exact T.n_Layout__metres | exact T.n_Layout__heights | exact T.n_Layout__begins | exact T.n_Layout__brakes | exact T.q_KINDS | exact ⟨T.cl_Layout, T.n_Layout_segments⟩ | exact ⟨T.cl_Layout, T.n_Layout__metres⟩ | exact ⟨T.cl_Layout, T.n_Layout__heights⟩ | exact ⟨T.cl_Layout, T.n_Layout__begins⟩ | exact ⟨T.cl_Layout, T.n_Layout__brakes⟩ | (rintro x hx; have := List.mem_singleton.mp hx; subst this; exact T.te_CoasterError) | (rintro x hx; have := List.mem_singleton.mp hx; subst this; exact T.te_BadNumber) | (rintro x hx; have := List.mem_singleton.mp hx; subst this; exact T.te_InvalidLayout) | (rintro x hx; have := List.mem_singleton.mp hx; subst this; exact T.te_InvalidText) | (intro c hc; cases hc with | head => exact ⟨T.cl_Layout, T.n_Layout_segments⟩ | tail _ hc => cases hc) | (intro c hc; cases hc with | head => exact ⟨T.cl_Layout, T.n_Layout__metres⟩ | tail _ hc => cases hc) | (intro c hc; cases hc with | head => exact ⟨T.cl_Layout, T.n_Layout__heights⟩ | tail _ hc => cases hc) | (intro c hc; cases hc with | head => exact ⟨T.cl_Layout, T.n_Layout__begins⟩ | tail _ hc => cases hc) | (intro c hc; cases hc with | head => exact ⟨T.cl_Layout, T.n_Layout__brakes⟩ | tail _ hc => cases hc) | (intro i hi; simpa using hi) | decide)
theorem ok__law_drawn_layout (T : Txt G mg) : FnOk P w G.K mg base (L2.CX P w) 2 T.a__law_drawn_layout T.d__law_drawn_layout ["draws"] (Pr G [false] m__law_drawn_layout) := by
  have G__law_drawn_segments := ok__law_drawn_segments (P := P) (w := w) (base := base) T
  exact T.F__law_drawn_layout.okX sc__law_drawn_layout (Pr.len rfl) (fun cdv A outer s H vs Q E hr h => ⟨den G (fun _ => E) b__law_drawn_layout, (d_cons (ps_set (i := 1) sc__law_drawn_layout.nd (by rfl) (by first | exact Or.inl rfl | exact Or.inr rfl) (pe_cCall G__law_drawn_segments (hr.mono (by first | decide | omega | (simp only [Nat.add_eq]; omega))) (by rfl) T.g__law_drawn_segments T.F__law_drawn_segments.kp T.b__law_drawn_segments (fun σ => passAt (takes_of rfl rfl rfl rfl) σ) (pa_cons (pv 0) (pa_cons pe_int pa_nil))))
      (d_cons (ps_set (i := 2) sc__law_drawn_layout.nd (by rfl) (by first | exact Or.inl rfl | exact Or.inr rfl) (pe_callB (cr_sumK (K := G.K) rfl rfl) (by rfl) T.z_sum (by decide +kernel) (pa_cons (pe_lc (own := [("kind", 3), ("length", 4), ("slope", 5)]) (by rfl) sc__law_drawn_layout.nd (pi_seqK (K := G.K) rfl (pv 1)) (blkOk_by (own := [("kind", 3), ("length", 4), ("slope", 5)]) (N := ["draws", "rows", "height", "kind", "length", "slope"]) (sc := defScope s__law_drawn_layout) (by decide +kernel)) (fun _ _ _ _ _ => (pg_tupK (K := G.K) (n := 3) rfl (by rfl) (pgs_cons (pg_name (i := 3) sc__law_drawn_layout.nd (by rfl) (by first | exact Or.inl rfl | exact Or.inr rfl)) (pgs_cons (pg_name (i := 4) sc__law_drawn_layout.nd (by rfl) (by first | exact Or.inl rfl | exact Or.inr rfl)) (pgs_cons (pg_name (i := 5) sc__law_drawn_layout.nd (by rfl) (by first | exact Or.inl rfl | exact Or.inr rfl)) pgs_nil))))) (fun _ _ _ _ _ => pts_nil) (fun _ _ _ _ _ => (pe_op (op_timesK (K := G.K) rfl) (pv 4) (pv 5)))) pa_nil)))
      (d_cons (d_if (pt_cmpR (op_neDK (K := G.K) rfl hr.units) (pv 2) pe_int (nomark _)) (pss_one (ps_set (i := 1) sc__law_drawn_layout.nd (by rfl) (by first | exact Or.inl rfl | exact Or.inr rfl) (pe_lst (pa_cons (pe_tup (pa_cons pe_str (pa_cons pe_int (pa_cons pe_int pa_nil)))) (pa_cons (pe_tup (pa_cons pe_str (pa_cons pe_int (pa_cons (pe_un un_neg pe_int) pa_nil)))) (pa_cons (pe_tup (pa_cons pe_str (pa_cons pe_int (pa_cons pe_int pa_nil)))) (pa_cons (pe_tup (pa_cons pe_str (pa_cons pe_int (pa_cons pe_int pa_nil)))) (pa_cons (pe_tup (pa_cons pe_str (pa_cons pe_int (pa_cons pe_int pa_nil)))) pa_nil)))))))) pss_nil)
      (pss_one (ps_ret (pv 1)))))), body (N := ["draws", "rows", "height", "kind", "length", "slope"]) (wf__law_drawn_layout T) h⟩)
theorem wf__law_told (T : Txt G mg) : Wf G b__law_told := by
  delta b__law_told 
  repeat' (first | apply And.intro | exact True.intro | exact rfl | (intro i hi; exact hi) | exact True.intro | exact rfl | exact T.cl_Layout | exact T.n_Layout_segments | exact T.n_Layout__metres | exact T.n_Layout__heights | exact T.n_Layout__begins | exact T.n_Layout__brakes | exact T.q_KINDS | exact ⟨T.cl_Layout, T.n_Layout_segments⟩ | exact ⟨T.cl_Layout, T.n_Layout__metres⟩ | exact ⟨T.cl_Layout, T.n_Layout__heights⟩ | exact ⟨T.cl_Layout, T.n_Layout__begins⟩ | exact ⟨T.cl_Layout, T.n_Layout__brakes⟩ | (rintro x hx; have := List.mem_singleton.mp hx; subst this; exact T.te_CoasterError) | (rintro x hx; have := List.mem_singleton.mp hx; subst this; exact T.te_BadNumber) | (rintro x hx; have := List.mem_singleton.mp hx; subst this; exact T.te_InvalidLayout) | (rintro x hx; have := List.mem_singleton.mp hx; subst this; exact T.te_InvalidText) | (intro c hc; cases hc with | head => exact ⟨T.cl_Layout, T.n_Layout_segments⟩ | tail _ hc => cases hc) | (intro c hc; cases hc with | head => exact ⟨T.cl_Layout, T.n_Layout__metres⟩ | tail _ hc => cases hc) | (intro c hc; cases hc with | head => exact ⟨T.cl_Layout, T.n_Layout__heights⟩ | tail _ hc => cases hc) | (intro c hc; cases hc with | head => exact ⟨T.cl_Layout, T.n_Layout__begins⟩ | tail _ hc => cases hc) | (intro c hc; cases hc with | head => exact ⟨T.cl_Layout, T.n_Layout__brakes⟩ | tail _ hc => cases hc) | (intro i hi; simpa using hi) | decide)
theorem ok__law_told (T : Txt G mg) : FnOk P w G.K mg base (L2.CX P w) 6 T.a__law_told T.d__law_told ["lines"] (Pr G [false] m__law_told) := by
  have G_parse_layout := ok_parse_layout (P := P) (w := w) (base := base) T
  exact T.F__law_told.okX sc__law_told (Pr.len rfl) (fun cdv A outer s H vs Q E hr h => ⟨den G (fun _ => E) b__law_told, (pss_one (ps_tryAE (i := 1) (K := G.K) rfl rfl rfl sc__law_told.nd rfl rfl ⟨rfl, by decide, .inl T.g_InvalidText⟩ (takes_of rfl rfl rfl rfl) (fun W pn xe tk _ => (pss_one (ps_ret (pe_fldK (K := G.K) rfl (pe_cCall G_parse_layout (hr.mono (by first | decide | omega | (simp only [Nat.add_eq]; omega))) (by rfl) T.g_parse_layout T.F_parse_layout.kp T.b_parse_layout (fun σ => passAt tk σ) (pa_cons (pe_joinK (K := G.K) rfl pe_str (pv 0)) pa_nil)) rfl)))) (fun a oe cls d pn hz hf => (pss_one (ps_ret (pe_xf T.xf_InvalidText T.nf_InvalidText hz hf (pv 1))))))), body (N := ["lines", "e"]) (wf__law_told T) h⟩)
theorem wf_law (T : Txt G mg) : Wf G b_law := by
  delta b_law e_law_1 l_law_1 l_law_2 
  repeat' (first | apply And.intro | exact True.intro | exact rfl | (intro i hi; exact hi) | exact True.intro | exact rfl | exact T.cl_Layout | exact T.n_Layout_segments | exact T.n_Layout__metres | exact T.n_Layout__heights | exact T.n_Layout__begins | exact T.n_Layout__brakes | exact T.q_KINDS | exact ⟨T.cl_Layout, T.n_Layout_segments⟩ | exact ⟨T.cl_Layout, T.n_Layout__metres⟩ | exact ⟨T.cl_Layout, T.n_Layout__heights⟩ | exact ⟨T.cl_Layout, T.n_Layout__begins⟩ | exact ⟨T.cl_Layout, T.n_Layout__brakes⟩ | (rintro x hx; have := List.mem_singleton.mp hx; subst this; exact T.te_CoasterError) | (rintro x hx; have := List.mem_singleton.mp hx; subst this; exact T.te_BadNumber) | (rintro x hx; have := List.mem_singleton.mp hx; subst this; exact T.te_InvalidLayout) | (rintro x hx; have := List.mem_singleton.mp hx; subst this; exact T.te_InvalidText) | (intro c hc; cases hc with | head => exact ⟨T.cl_Layout, T.n_Layout_segments⟩ | tail _ hc => cases hc) | (intro c hc; cases hc with | head => exact ⟨T.cl_Layout, T.n_Layout__metres⟩ | tail _ hc => cases hc) | (intro c hc; cases hc with | head => exact ⟨T.cl_Layout, T.n_Layout__heights⟩ | tail _ hc => cases hc) | (intro c hc; cases hc with | head => exact ⟨T.cl_Layout, T.n_Layout__begins⟩ | tail _ hc => cases hc) | (intro c hc; cases hc with | head => exact ⟨T.cl_Layout, T.n_Layout__brakes⟩ | tail _ hc => cases hc) | (intro i hi; simpa using hi) | decide)
theorem ok_law (T : Txt G mg) : FnOk P w G.K mg base (L2.CX P w) 14 T.a_law T.d_law ["script"] (Pr G [false] m_law) := by
  have G__law_draws := ok__law_draws (P := P) (w := w) (base := base) T
  have G__law_cell := ok__law_cell (P := P) (w := w) (base := base) T
  have G__law_drawn_layout := ok__law_drawn_layout (P := P) (w := w) (base := base) T
  have G__law_like := ok__law_like (P := P) (w := w) (base := base) T
  have G__law_told := ok__law_told (P := P) (w := w) (base := base) T
  have G_format_layout := ok_format_layout (P := P) (w := w) (base := base) T
  have G_Layout___init__ := ok_Layout___init__ (P := P) (w := w) (base := base) T
  have GN_Layout___init__ := okN_Layout___init__ (P := P) (w := w) (base := base) T
  exact T.F_law.okX sc_law (Pr.len rfl) (fun cdv A outer s H vs Q E hr h => ⟨den G (fun _ => E) b_law, (d_cons (ps_set (i := 1) sc_law.nd (by rfl) (by first | exact Or.inl rfl | exact Or.inr rfl) (pe_cCall G__law_draws (hr.mono (by first | decide | omega | (simp only [Nat.add_eq]; omega))) (by rfl) T.g__law_draws T.F__law_draws.kp T.b__law_draws (fun σ => passAt (takes_of rfl rfl rfl rfl) σ) (pa_cons (pe_cCall G__law_cell (hr.mono (by first | decide | omega | (simp only [Nat.add_eq]; omega))) (by rfl) T.g__law_cell T.F__law_cell.kp T.b__law_cell (fun σ => passAt (takes_of rfl rfl rfl rfl) σ) (pa_cons (pv 0) (pa_cons pe_int pa_nil))) (pa_cons pe_int pa_nil))))
      (d_cons (ps_set (i := 2) sc_law.nd (by rfl) (by first | exact Or.inl rfl | exact Or.inr rfl) (pe_cCall G__law_drawn_layout (hr.mono (by first | decide | omega | (simp only [Nat.add_eq]; omega))) (by rfl) T.g__law_drawn_layout T.F__law_drawn_layout.kp T.b__law_drawn_layout (fun σ => passAt (takes_of rfl rfl rfl rfl) σ) (pa_cons (pv 1) pa_nil)))
      (d_cons (ps_setLc (i := 3) (own := [("kind", 4), ("length", 5), ("slope", 6)]) (by rfl) sc_law.nd rfl (by rfl) (sw_true rfl rfl rfl (by decide +kernel)) (pi_seqK (K := G.K) rfl (pv 2)) (blkOk_by (own := [("kind", 4), ("length", 5), ("slope", 6)]) (N := ["script", "draws", "rows", "lines", "kind", "length", "slope", "at", "bad", "k", "wrong", "whole"]) (sc := defScope s_law) (by decide +kernel)) (fun _ _ _ _ _ => (pg_tupK (K := G.K) (n := 3) rfl (by rfl) (pgs_cons (pg_name (i := 4) sc_law.nd (by rfl) (by first | exact Or.inl rfl | exact Or.inr rfl)) (pgs_cons (pg_name (i := 5) sc_law.nd (by rfl) (by first | exact Or.inl rfl | exact Or.inr rfl)) (pgs_cons (pg_name (i := 6) sc_law.nd (by rfl) (by first | exact Or.inl rfl | exact Or.inr rfl)) pgs_nil))))) (fun _ _ _ _ _ => pts_nil) (fun _ _ _ _ _ => (pe_op (op_plusK (K := G.K) rfl) (pe_op (op_plusK (K := G.K) rfl) (pe_op (op_plusK (K := G.K) rfl) (pe_op (op_plusK (K := G.K) rfl) (pv 4) pe_str) (pe_callTy call_str_int (by rfl) T.z_str (by decide +kernel) (pa_cons (pv 5) pa_nil))) pe_str) (pe_callTy call_str_int (by rfl) T.z_str (by decide +kernel) (pa_cons (pv 6) pa_nil)))))
      (d_cons (d_if (PW.pt (pw_or (pt_not (pt_truK (K := G.K) rfl (pe_cCall G__law_like (hr.mono (by first | decide | omega | (simp only [Nat.add_eq]; omega))) (by rfl) T.g__law_like T.F__law_like.kp T.b__law_like (fun σ => passAt (takes_of rfl rfl rfl rfl) σ) (pa_cons (pe_cCall G_format_layout (hr.mono (by first | decide | omega | (simp only [Nat.add_eq]; omega))) (by rfl) T.g_format_layout T.F_format_layout.kp T.b_format_layout (fun σ => passAt (takes_of rfl rfl rfl rfl) σ) (pa_cons (pe_cMake T.mk_Layout G_Layout___init__ (hr.mono (by first | decide | omega | (simp only [Nat.add_eq]; omega))) (by rfl) T.g_Layout T.b_Layout___init__ (fun σ => passAt (takes_of rfl rfl rfl rfl) σ) (pa_cons (pv 2) pa_nil)) pa_nil)) (pa_cons (pe_joinK (K := G.K) rfl pe_str (pv 3)) pa_nil))))) (pw_or1 (pt_not (pt_truK (K := G.K) rfl (pe_cCall G__law_like (hr.mono (by first | decide | omega | (simp only [Nat.add_eq]; omega))) (by rfl) T.g__law_like T.F__law_like.kp T.b__law_like (fun σ => passAt (takes_of rfl rfl rfl rfl) σ) (pa_cons (pe_cCall G__law_told (hr.mono (by first | decide | omega | (simp only [Nat.add_eq]; omega))) (by rfl) T.g__law_told T.F__law_told.kp T.b__law_told (fun σ => passAt (takes_of rfl rfl rfl rfl) σ) (pa_cons (pv 3) pa_nil)) (pa_cons (pe_callTy (call_tupK (K := G.K) rfl) (by rfl) T.z_tuple (by decide +kernel) (pa_cons (pv 2) pa_nil)) pa_nil)))))))) (pss_one (ps_ret pe_bl)) pss_nil)
      (d_cons (ps_set (i := 7) sc_law.nd (by rfl) (by first | exact Or.inl rfl | exact Or.inr rfl) (pe_op op_mod (pe_ix (ix_seqK (K := G.K) rfl) (pv 1) pe_int (fun _ _ => rfl)) (pe_callB (call_lenK (K := G.K) rfl) (by rfl) T.z_len (by decide +kernel) (pa_cons (pv 3) pa_nil))))
      (d_cons (ps_set (i := 8) sc_law.nd (by rfl) (by first | exact Or.inl rfl | exact Or.inr rfl) (pe_lst (pa_cons pe_str (pa_cons pe_str (pa_cons pe_str (pa_cons pe_str (pa_cons pe_str (pa_cons pe_str (pa_cons pe_str (pa_cons pe_str (pa_cons pe_str (pa_cons pe_str (pa_cons pe_str (pa_cons pe_str pa_nil))))))))))))))
      (d_cons (ps_set (i := 8) sc_law.nd (by rfl) (by first | exact Or.inl rfl | exact Or.inr rfl) (pe_op (op_plusK (K := G.K) rfl) (pv 8) (pe_lst (pa_cons pe_str (pa_cons pe_str (pa_cons pe_str (pa_cons pe_str (pa_cons pe_str (pa_cons pe_str (pa_cons pe_str (pa_cons pe_str pa_nil)))))))))))
      (d_cons (d_for (passes_of rfl) rfl (pi_range1 (by rfl) T.z_range (pa_cons pe_int pa_nil)) (pg_name (i := 9) sc_law.nd (by rfl) (by first | exact Or.inl rfl | exact Or.inr rfl)) (d_cons (ps_set (i := 10) sc_law.nd (by rfl) (by first | exact Or.inl rfl | exact Or.inr rfl) (pe_ix (ix_seqK (K := G.K) rfl) (pv 8) (pe_op op_mod (pe_ix (ix_seqK (K := G.K) rfl) (pv 1) (pe_op (op_plusK (K := G.K) rfl) pe_int (pv 9)) (fun _ _ => rfl)) (pe_callB (call_lenK (K := G.K) rfl) (by rfl) T.z_len (by decide +kernel) (pa_cons (pv 8) pa_nil))) (fun _ _ => rfl)))
      (d_cons (d_if (pt_not (pt_truK (K := G.K) rfl (pe_cCall G__law_like (hr.mono (by first | decide | omega | (simp only [Nat.add_eq]; omega))) (by rfl) T.g__law_like T.F__law_like.kp T.b__law_like (fun σ => passAt (takes_of rfl rfl rfl rfl) σ) (pa_cons (pe_cCall G__law_told (hr.mono (by first | decide | omega | (simp only [Nat.add_eq]; omega))) (by rfl) T.g__law_told T.F__law_told.kp T.b__law_told (fun σ => passAt (takes_of rfl rfl rfl rfl) σ) (pa_cons (pe_op (op_plusK (K := G.K) rfl) (pe_op (op_plusK (K := G.K) rfl) (pe_slice (sl_anyK (K := G.K) rfl) (pv 3) po_none (po_some (pv 7))) (pe_lst (pa_cons (pv 10) pa_nil))) (pe_slice (sl_anyK (K := G.K) rfl) (pv 3) (po_some (pv 7)) po_none)) pa_nil)) (pa_cons (pe_op (op_plusK (K := G.K) rfl) (pv 7) pe_int) pa_nil))))) (pss_one (ps_ret pe_bl)) pss_nil)
      (pss_one (d_if (pt_not (pt_truK (K := G.K) rfl (pe_cCall G__law_like (hr.mono (by first | decide | omega | (simp only [Nat.add_eq]; omega))) (by rfl) T.g__law_like T.F__law_like.kp T.b__law_like (fun σ => passAt (takes_of rfl rfl rfl rfl) σ) (pa_cons (pe_cCall G__law_told (hr.mono (by first | decide | omega | (simp only [Nat.add_eq]; omega))) (by rfl) T.g__law_told T.F__law_told.kp T.b__law_told (fun σ => passAt (takes_of rfl rfl rfl rfl) σ) (pa_cons (pe_op (op_plusK (K := G.K) rfl) (pe_op (op_plusK (K := G.K) rfl) (pe_op (op_plusK (K := G.K) rfl) (pe_slice (sl_anyK (K := G.K) rfl) (pv 3) po_none (po_some (pv 7))) (pe_lst (pa_cons (pv 10) pa_nil))) (pe_slice (sl_anyK (K := G.K) rfl) (pv 3) (po_some (pv 7)) po_none)) (pe_lst (pa_cons pe_str pa_nil))) pa_nil)) (pa_cons (pe_op (op_plusK (K := G.K) rfl) (pv 7) pe_int) pa_nil))))) (pss_one (ps_ret pe_bl)) pss_nil)))))
      (d_cons (d_for (passes_of rfl) rfl (pi_seqK (K := G.K) rfl (pe_lst (pa_cons (pe_op (op_plusK (K := G.K) rfl) (pv 3) (pe_lst (pa_cons pe_str pa_nil))) (pa_cons (pe_op (op_plusK (K := G.K) rfl) (pe_lst (pa_cons pe_str pa_nil)) (pv 3)) (pa_cons (pe_op (op_plusK (K := G.K) rfl) (pe_lst (pa_cons pe_str pa_nil)) (pv 3)) (pa_cons (pe_op (op_plusK (K := G.K) rfl) (pe_lst (pa_cons pe_str pa_nil)) (pv 3)) (pa_cons (pe_lst (pa_cons pe_str pa_nil)) (pa_cons (pe_op (op_plusK (K := G.K) rfl) (pv 3) (pe_lst (pa_cons pe_str pa_nil))) pa_nil)))))))) (pg_name (i := 11) sc_law.nd (by rfl) (by first | exact Or.inl rfl | exact Or.inr rfl)) (pss_one (d_if (pt_not (pt_truK (K := G.K) rfl (pe_cCall G__law_like (hr.mono (by first | decide | omega | (simp only [Nat.add_eq]; omega))) (by rfl) T.g__law_like T.F__law_like.kp T.b__law_like (fun σ => passAt (takes_of rfl rfl rfl rfl) σ) (pa_cons (pe_cCall G__law_told (hr.mono (by first | decide | omega | (simp only [Nat.add_eq]; omega))) (by rfl) T.g__law_told T.F__law_told.kp T.b__law_told (fun σ => passAt (takes_of rfl rfl rfl rfl) σ) (pa_cons (pv 11) pa_nil)) (pa_cons (pe_callB (call_lenK (K := G.K) rfl) (by rfl) T.z_len (by decide +kernel) (pa_cons (pv 11) pa_nil)) pa_nil))))) (pss_one (ps_ret pe_bl)) pss_nil)))
      (pss_one (ps_ret pe_bl))))))))))), body (N := ["script", "draws", "rows", "lines", "kind", "length", "slope", "at", "bad", "k", "wrong", "whole"]) (wf_law T) h⟩)
end
theorem all_mk {l : PySem.W.OpenLaw} {w : World} {K : PySem.W.Frag} {h : Heap} {mg : Str → Option Value} {fa : Addr} {c_Layout : Addr} {e_CoasterError : Addr} {e_BadNumber : Addr} {e_InvalidLayout : Addr} {e_InvalidText : Addr} {f1 : Addr} {od1 an1 : Option Addr} {sl1 : Array (Option Value)} {oc1 kV1 dc1 pm1 cd1 ct1 : Value} {f2 : Addr} {od2 an2 : Option Addr} {sl2 : Array (Option Value)} {oc2 kV2 dc2 pm2 cd2 ct2 : Value} {f3 : Addr} {od3 an3 : Option Addr} {sl3 : Array (Option Value)} {oc3 kV3 dc3 pm3 cd3 ct3 : Value} {f4 : Addr} {od4 an4 : Option Addr} {sl4 : Array (Option Value)} {oc4 kV4 dc4 pm4 cd4 ct4 : Value} {f5 : Addr} {od5 an5 : Option Addr} {sl5 : Array (Option Value)} {oc5 kV5 dc5 pm5 cd5 ct5 : Value} {f6 : Addr} {od6 an6 : Option Addr} {sl6 : Array (Option Value)} {oc6 kV6 dc6 pm6 cd6 ct6 : Value} {f7 : Addr} {od7 an7 : Option Addr} {sl7 : Array (Option Value)} {oc7 kV7 dc7 pm7 cd7 ct7 : Value} {f8 : Addr} {od8 an8 : Option Addr} {sl8 : Array (Option Value)} {oc8 kV8 dc8 pm8 cd8 ct8 : Value} {f9 : Addr} {od9 an9 : Option Addr} {sl9 : Array (Option Value)} {oc9 kV9 dc9 pm9 cd9 ct9 : Value} {f10 : Addr} {od10 an10 : Option Addr} {sl10 : Array (Option Value)} {oc10 kV10 dc10 pm10 cd10 ct10 : Value} {f11 : Addr} {od11 an11 : Option Addr} {sl11 : Array (Option Value)} {oc11 kV11 dc11 pm11 cd11 ct11 : Value} {f12 : Addr} {od12 an12 : Option Addr} {sl12 : Array (Option Value)} {oc12 kV12 dc12 pm12 cd12 ct12 : Value} {f13 : Addr} {od13 an13 : Option Addr} {sl13 : Array (Option Value)} {oc13 kV13 dc13 pm13 cd13 ct13 : Value} {f14 : Addr} {od14 an14 : Option Addr} {sl14 : Array (Option Value)} {oc14 kV14 dc14 pm14 cd14 ct14 : Value} {f15 : Addr} {od15 an15 : Option Addr} {sl15 : Array (Option Value)} {oc15 kV15 dc15 pm15 cd15 ct15 : Value} {f16 : Addr} {od16 an16 : Option Addr} {sl16 : Array (Option Value)} {oc16 kV16 dc16 pm16 cd16 ct16 : Value} {f17 : Addr} {od17 an17 : Option Addr} {sl17 : Array (Option Value)} {oc17 kV17 dc17 pm17 cd17 ct17 : Value} {f18 : Addr} {od18 an18 : Option Addr} {sl18 : Array (Option Value)} {oc18 kV18 dc18 pm18 cd18 ct18 : Value} {f19 : Addr} {od19 an19 : Option Addr} {sl19 : Array (Option Value)} {oc19 kV19 dc19 pm19 cd19 ct19 : Value} {f20 : Addr} {od20 an20 : Option Addr} {sl20 : Array (Option Value)} {oc20 kV20 dc20 pm20 cd20 ct20 : Value} {f21 : Addr} {od21 an21 : Option Addr} {sl21 : Array (Option Value)} {oc21 kV21 dc21 pm21 cd21 ct21 : Value} {f22 : Addr} {od22 an22 : Option Addr} {sl22 : Array (Option Value)} {oc22 kV22 dc22 pm22 cd22 ct22 : Value} {f23 : Addr} {od23 an23 : Option Addr} {sl23 : Array (Option Value)} {oc23 kV23 dc23 pm23 cd23 ct23 : Value} {f24 : Addr} {od24 an24 : Option Addr} {sl24 : Array (Option Value)} {oc24 kV24 dc24 pm24 cd24 ct24 : Value} {f25 : Addr} {od25 an25 : Option Addr} {sl25 : Array (Option Value)} {oc25 kV25 dc25 pm25 cd25 ct25 : Value} {f26 : Addr} {od26 an26 : Option Addr} {sl26 : Array (Option Value)} {oc26 kV26 dc26 pm26 cd26 ct26 : Value} {fE_InvalidText : Addr} {odE_InvalidText anE_InvalidText : Option Addr} {slE_InvalidText : Array (Option Value)} {ocE_InvalidText kVE_InvalidText dcE_InvalidText pmE_InvalidText cdE_InvalidText ctE_InvalidText : Value} {nm_InvalidText qn_InvalidText : Str} {N_InvalidText : Addr} {bs_InvalidText sb_InvalidText : List Value} {sn_InvalidText : List Str} {ab_InvalidText : Bool} {col_InvalidText : Option Bool} {dd_InvalidText : Option Addr} {m0_InvalidText m1_InvalidText m2_InvalidText m3_InvalidText m5_InvalidText : Option Value} {t_DIGITS : Tok} {p_KINDS : Addr} {dd_KINDS : Option Addr} {nn_KINDS : Nat} {ss_KINDS : Array (Option Value)} {t0_KINDS t1_KINDS t2_KINDS : Tok} {t_LEAST_BLOCKS : Tok} {t_MOST_BLOCKS : Tok} {t_MOST_DIGITS : Tok} {t_MOST_LENGTH : Tok} {t_MOST_METRES : Tok} {t_MOST_SLOPE : Tok} (X : K.In h) (N : h.Ns mainGlobals mg) (hfa : mg "law" = some (.ref fa))
    (aC_Layout : PySem.W.nsIn K mainGlobals "Layout" = some (some (.ref c_Layout)))
    (a1 : PySem.W.nsIn K mainGlobals "read_lines" = some (some (.ref f1)))
    (l1 : K.lookup f1 = some ⟨oc1, od1, .func (PySem.W.fnOf "read_lines" "read_lines" (defArgs s_read_lines) (defBody s_read_lines) (defScope s_read_lines) .none kV1 dc1 pm1 an1 cd1 ct1), sl1⟩)
    (c1 : PySem.W.codeIn K cd1 "read_lines" = true)
    (k1 : PySem.W.keepIn K (.ref f1) = true)
    (a2 : PySem.W.nsIn K mainGlobals "read_number" = some (some (.ref f2)))
    (l2 : K.lookup f2 = some ⟨oc2, od2, .func (PySem.W.fnOf "read_number" "read_number" (defArgs s_read_number) (defBody s_read_number) (defScope s_read_number) .none kV2 dc2 pm2 an2 cd2 ct2), sl2⟩)
    (c2 : PySem.W.codeIn K cd2 "read_number" = true)
    (k2 : PySem.W.keepIn K (.ref f2) = true)
    (a3 : PySem.W.findIn K (.ref c_Layout) "__init__" = some (some (.ref f3)))
    (i3 : PySem.W.isFn K (.ref f3) = true)
    (l3 : K.lookup f3 = some ⟨oc3, od3, .func (PySem.W.fnOf "__init__" "Layout.__init__" (defArgs s_Layout___init__) (defBody s_Layout___init__) (defScope s_Layout___init__) .none kV3 dc3 pm3 an3 cd3 ct3), sl3⟩)
    (c3 : PySem.W.codeIn K cd3 "Layout.__init__" = true)
    (k3 : PySem.W.keepIn K (.ref f3) = true)
    (a4 : PySem.W.findIn K (.ref c_Layout) "_place_metres" = some (some (.ref f4)))
    (i4 : PySem.W.isFn K (.ref f4) = true)
    (l4 : K.lookup f4 = some ⟨oc4, od4, .func (PySem.W.fnOf "_place_metres" "Layout._place_metres" (defArgs s_Layout__place_metres) (defBody s_Layout__place_metres) (defScope s_Layout__place_metres) .none kV4 dc4 pm4 an4 cd4 ct4), sl4⟩)
    (c4 : PySem.W.codeIn K cd4 "Layout._place_metres" = true)
    (k4 : PySem.W.keepIn K (.ref f4) = true)
    (a5 : PySem.W.findIn K (.ref c_Layout) "total" = some (some (.ref f5)))
    (i5 : PySem.W.isFn K (.ref f5) = true)
    (l5 : K.lookup f5 = some ⟨oc5, od5, .func (PySem.W.fnOf "total" "Layout.total" (defArgs s_Layout_total) (defBody s_Layout_total) (defScope s_Layout_total) .none kV5 dc5 pm5 an5 cd5 ct5), sl5⟩)
    (c5 : PySem.W.codeIn K cd5 "Layout.total" = true)
    (k5 : PySem.W.keepIn K (.ref f5) = true)
    (a6 : PySem.W.findIn K (.ref c_Layout) "blocks" = some (some (.ref f6)))
    (i6 : PySem.W.isFn K (.ref f6) = true)
    (l6 : K.lookup f6 = some ⟨oc6, od6, .func (PySem.W.fnOf "blocks" "Layout.blocks" (defArgs s_Layout_blocks) (defBody s_Layout_blocks) (defScope s_Layout_blocks) .none kV6 dc6 pm6 an6 cd6 ct6), sl6⟩)
    (c6 : PySem.W.codeIn K cd6 "Layout.blocks" = true)
    (k6 : PySem.W.keepIn K (.ref f6) = true)
    (a7 : PySem.W.findIn K (.ref c_Layout) "metre" = some (some (.ref f7)))
    (i7 : PySem.W.isFn K (.ref f7) = true)
    (l7 : K.lookup f7 = some ⟨oc7, od7, .func (PySem.W.fnOf "metre" "Layout.metre" (defArgs s_Layout_metre) (defBody s_Layout_metre) (defScope s_Layout_metre) .none kV7 dc7 pm7 an7 cd7 ct7), sl7⟩)
    (c7 : PySem.W.codeIn K cd7 "Layout.metre" = true)
    (k7 : PySem.W.keepIn K (.ref f7) = true)
    (a8 : PySem.W.findIn K (.ref c_Layout) "height" = some (some (.ref f8)))
    (i8 : PySem.W.isFn K (.ref f8) = true)
    (l8 : K.lookup f8 = some ⟨oc8, od8, .func (PySem.W.fnOf "height" "Layout.height" (defArgs s_Layout_height) (defBody s_Layout_height) (defScope s_Layout_height) .none kV8 dc8 pm8 an8 cd8 ct8), sl8⟩)
    (c8 : PySem.W.codeIn K cd8 "Layout.height" = true)
    (k8 : PySem.W.keepIn K (.ref f8) = true)
    (a9 : PySem.W.findIn K (.ref c_Layout) "begin" = some (some (.ref f9)))
    (i9 : PySem.W.isFn K (.ref f9) = true)
    (l9 : K.lookup f9 = some ⟨oc9, od9, .func (PySem.W.fnOf "begin" "Layout.begin" (defArgs s_Layout_begin) (defBody s_Layout_begin) (defScope s_Layout_begin) .none kV9 dc9 pm9 an9 cd9 ct9), sl9⟩)
    (c9 : PySem.W.codeIn K cd9 "Layout.begin" = true)
    (k9 : PySem.W.keepIn K (.ref f9) = true)
    (a10 : PySem.W.findIn K (.ref c_Layout) "brake" = some (some (.ref f10)))
    (i10 : PySem.W.isFn K (.ref f10) = true)
    (l10 : K.lookup f10 = some ⟨oc10, od10, .func (PySem.W.fnOf "brake" "Layout.brake" (defArgs s_Layout_brake) (defBody s_Layout_brake) (defScope s_Layout_brake) .none kV10 dc10 pm10 an10 cd10 ct10), sl10⟩)
    (c10 : PySem.W.codeIn K cd10 "Layout.brake" = true)
    (k10 : PySem.W.keepIn K (.ref f10) = true)
    (a11 : PySem.W.findIn K (.ref c_Layout) "end" = some (some (.ref f11)))
    (i11 : PySem.W.isFn K (.ref f11) = true)
    (l11 : K.lookup f11 = some ⟨oc11, od11, .func (PySem.W.fnOf "end" "Layout.end" (defArgs s_Layout_end) (defBody s_Layout_end) (defScope s_Layout_end) .none kV11 dc11 pm11 an11 cd11 ct11), sl11⟩)
    (c11 : PySem.W.codeIn K cd11 "Layout.end" = true)
    (k11 : PySem.W.keepIn K (.ref f11) = true)
    (a12 : PySem.W.findIn K (.ref c_Layout) "_check_metre" = some (some (.ref f12)))
    (i12 : PySem.W.isFn K (.ref f12) = true)
    (l12 : K.lookup f12 = some ⟨oc12, od12, .func (PySem.W.fnOf "_check_metre" "Layout._check_metre" (defArgs s_Layout__check_metre) (defBody s_Layout__check_metre) (defScope s_Layout__check_metre) .none kV12 dc12 pm12 an12 cd12 ct12), sl12⟩)
    (c12 : PySem.W.codeIn K cd12 "Layout._check_metre" = true)
    (k12 : PySem.W.keepIn K (.ref f12) = true)
    (a13 : PySem.W.findIn K (.ref c_Layout) "_check_block" = some (some (.ref f13)))
    (i13 : PySem.W.isFn K (.ref f13) = true)
    (l13 : K.lookup f13 = some ⟨oc13, od13, .func (PySem.W.fnOf "_check_block" "Layout._check_block" (defArgs s_Layout__check_block) (defBody s_Layout__check_block) (defScope s_Layout__check_block) .none kV13 dc13 pm13 an13 cd13 ct13), sl13⟩)
    (c13 : PySem.W.codeIn K cd13 "Layout._check_block" = true)
    (k13 : PySem.W.keepIn K (.ref f13) = true)
    (a14 : PySem.W.nsIn K mainGlobals "_are_segments" = some (some (.ref f14)))
    (l14 : K.lookup f14 = some ⟨oc14, od14, .func (PySem.W.fnOf "_are_segments" "_are_segments" (defArgs s__are_segments) (defBody s__are_segments) (defScope s__are_segments) .none kV14 dc14 pm14 an14 cd14 ct14), sl14⟩)
    (c14 : PySem.W.codeIn K cd14 "_are_segments" = true)
    (k14 : PySem.W.keepIn K (.ref f14) = true)
    (a15 : PySem.W.nsIn K mainGlobals "_are_a_round" = some (some (.ref f15)))
    (l15 : K.lookup f15 = some ⟨oc15, od15, .func (PySem.W.fnOf "_are_a_round" "_are_a_round" (defArgs s__are_a_round) (defBody s__are_a_round) (defScope s__are_a_round) .none kV15 dc15 pm15 an15 cd15 ct15), sl15⟩)
    (c15 : PySem.W.codeIn K cd15 "_are_a_round" = true)
    (k15 : PySem.W.keepIn K (.ref f15) = true)
    (a16 : PySem.W.nsIn K mainGlobals "format_layout" = some (some (.ref f16)))
    (l16 : K.lookup f16 = some ⟨oc16, od16, .func (PySem.W.fnOf "format_layout" "format_layout" (defArgs s_format_layout) (defBody s_format_layout) (defScope s_format_layout) .none kV16 dc16 pm16 an16 cd16 ct16), sl16⟩)
    (c16 : PySem.W.codeIn K cd16 "format_layout" = true)
    (k16 : PySem.W.keepIn K (.ref f16) = true)
    (a17 : PySem.W.nsIn K mainGlobals "parse_layout" = some (some (.ref f17)))
    (l17 : K.lookup f17 = some ⟨oc17, od17, .func (PySem.W.fnOf "parse_layout" "parse_layout" (defArgs s_parse_layout) (defBody s_parse_layout) (defScope s_parse_layout) .none kV17 dc17 pm17 an17 cd17 ct17), sl17⟩)
    (c17 : PySem.W.codeIn K cd17 "parse_layout" = true)
    (k17 : PySem.W.keepIn K (.ref f17) = true)
    (a18 : PySem.W.nsIn K mainGlobals "_read_segment" = some (some (.ref f18)))
    (l18 : K.lookup f18 = some ⟨oc18, od18, .func (PySem.W.fnOf "_read_segment" "_read_segment" (defArgs s__read_segment) (defBody s__read_segment) (defScope s__read_segment) .none kV18 dc18 pm18 an18 cd18 ct18), sl18⟩)
    (c18 : PySem.W.codeIn K cd18 "_read_segment" = true)
    (k18 : PySem.W.keepIn K (.ref f18) = true)
    (a19 : PySem.W.nsIn K mainGlobals "_read_slope" = some (some (.ref f19)))
    (l19 : K.lookup f19 = some ⟨oc19, od19, .func (PySem.W.fnOf "_read_slope" "_read_slope" (defArgs s__read_slope) (defBody s__read_slope) (defScope s__read_slope) .none kV19 dc19 pm19 an19 cd19 ct19), sl19⟩)
    (c19 : PySem.W.codeIn K cd19 "_read_slope" = true)
    (k19 : PySem.W.keepIn K (.ref f19) = true)
    (a20 : PySem.W.nsIn K mainGlobals "_law_cell" = some (some (.ref f20)))
    (l20 : K.lookup f20 = some ⟨oc20, od20, .func (PySem.W.fnOf "_law_cell" "_law_cell" (defArgs s__law_cell) (defBody s__law_cell) (defScope s__law_cell) .none kV20 dc20 pm20 an20 cd20 ct20), sl20⟩)
    (c20 : PySem.W.codeIn K cd20 "_law_cell" = true)
    (k20 : PySem.W.keepIn K (.ref f20) = true)
    (a21 : PySem.W.nsIn K mainGlobals "_law_draws" = some (some (.ref f21)))
    (l21 : K.lookup f21 = some ⟨oc21, od21, .func (PySem.W.fnOf "_law_draws" "_law_draws" (defArgs s__law_draws) (defBody s__law_draws) (defScope s__law_draws) .none kV21 dc21 pm21 an21 cd21 ct21), sl21⟩)
    (c21 : PySem.W.codeIn K cd21 "_law_draws" = true)
    (k21 : PySem.W.keepIn K (.ref f21) = true)
    (a22 : PySem.W.nsIn K mainGlobals "_law_like" = some (some (.ref f22)))
    (l22 : K.lookup f22 = some ⟨oc22, od22, .func (PySem.W.fnOf "_law_like" "_law_like" (defArgs s__law_like) (defBody s__law_like) (defScope s__law_like) .none kV22 dc22 pm22 an22 cd22 ct22), sl22⟩)
    (c22 : PySem.W.codeIn K cd22 "_law_like" = true)
    (k22 : PySem.W.keepIn K (.ref f22) = true)
    (a23 : PySem.W.nsIn K mainGlobals "_law_drawn_segments" = some (some (.ref f23)))
    (l23 : K.lookup f23 = some ⟨oc23, od23, .func (PySem.W.fnOf "_law_drawn_segments" "_law_drawn_segments" (defArgs s__law_drawn_segments) (defBody s__law_drawn_segments) (defScope s__law_drawn_segments) .none kV23 dc23 pm23 an23 cd23 ct23), sl23⟩)
    (c23 : PySem.W.codeIn K cd23 "_law_drawn_segments" = true)
    (k23 : PySem.W.keepIn K (.ref f23) = true)
    (a24 : PySem.W.nsIn K mainGlobals "_law_drawn_layout" = some (some (.ref f24)))
    (l24 : K.lookup f24 = some ⟨oc24, od24, .func (PySem.W.fnOf "_law_drawn_layout" "_law_drawn_layout" (defArgs s__law_drawn_layout) (defBody s__law_drawn_layout) (defScope s__law_drawn_layout) .none kV24 dc24 pm24 an24 cd24 ct24), sl24⟩)
    (c24 : PySem.W.codeIn K cd24 "_law_drawn_layout" = true)
    (k24 : PySem.W.keepIn K (.ref f24) = true)
    (a25 : PySem.W.nsIn K mainGlobals "_law_told" = some (some (.ref f25)))
    (l25 : K.lookup f25 = some ⟨oc25, od25, .func (PySem.W.fnOf "_law_told" "_law_told" (defArgs s__law_told) (defBody s__law_told) (defScope s__law_told) .none kV25 dc25 pm25 an25 cd25 ct25), sl25⟩)
    (c25 : PySem.W.codeIn K cd25 "_law_told" = true)
    (k25 : PySem.W.keepIn K (.ref f25) = true)
    (a26 : PySem.W.nsIn K mainGlobals "law" = some (some (.ref f26)))
    (l26 : K.lookup f26 = some ⟨oc26, od26, .func (PySem.W.fnOf "law" "law" (defArgs s_law) (defBody s_law) (defScope s_law) .none kV26 dc26 pm26 an26 cd26 ct26), sl26⟩)
    (c26 : PySem.W.codeIn K cd26 "law" = true)
    (k26 : PySem.W.keepIn K (.ref f26) = true)
    (pg_Layout : PySem.W.plainGet K c_Layout Str.empty = true)
    (hd_Layout : PySem.W.hasDictIn K c_Layout = true)
    (po_Layout : PySem.W.plainOver K c_Layout = true)
    (sa_Layout : PySem.W.findIn K (.ref c_Layout) "__setattr__" = some (some (.builtin "object.__setattr__")))
    (mk_Layout : PySem.W.makesIn K c_Layout = true)
    (kc_Layout : PySem.W.keepIn K (.ref c_Layout) = true)
    (nf_Layout_segments : PySem.W.findIn K (.ref c_Layout) "segments" = some none)
    (nf_Layout__metres : PySem.W.findIn K (.ref c_Layout) "_metres" = some none)
    (nf_Layout__heights : PySem.W.findIn K (.ref c_Layout) "_heights" = some none)
    (nf_Layout__begins : PySem.W.findIn K (.ref c_Layout) "_begins" = some none)
    (nf_Layout__brakes : PySem.W.findIn K (.ref c_Layout) "_brakes" = some none)
    (aE_CoasterError : PySem.W.nsIn K mainGlobals "CoasterError" = some (some (.ref e_CoasterError)))
    (iE_CoasterError : PySem.W.isClsIn K e_CoasterError = true)
    (bE_CoasterError : PySem.W.subIn K (.ref e_CoasterError) (.type "BaseException") = some true)
    (tE_CoasterError : PySem.W.typeIn K (.ref e_CoasterError) = some (.type "type"))
    (sE_CoasterError : PySem.W.subIn K (.ref e_CoasterError) (.ref e_CoasterError) = some true)
    (xE_CoasterError : PySem.W.excIn K e_CoasterError [.type "ValueError", .type "Exception", .type "BaseException", .type "object"] "ValueError.__new__" = true)
    (kE_CoasterError : PySem.W.keepIn K (.ref e_CoasterError) = true)
    (aE_BadNumber : PySem.W.nsIn K mainGlobals "BadNumber" = some (some (.ref e_BadNumber)))
    (iE_BadNumber : PySem.W.isClsIn K e_BadNumber = true)
    (bE_BadNumber : PySem.W.subIn K (.ref e_BadNumber) (.type "BaseException") = some true)
    (tE_BadNumber : PySem.W.typeIn K (.ref e_BadNumber) = some (.type "type"))
    (sE_BadNumber : PySem.W.subIn K (.ref e_BadNumber) (.ref e_BadNumber) = some true)
    (xE_BadNumber : PySem.W.excIn K e_BadNumber [.type "ValueError", .type "Exception", .type "BaseException", .type "object"] "ValueError.__new__" = true)
    (kE_BadNumber : PySem.W.keepIn K (.ref e_BadNumber) = true)
    (aE_InvalidLayout : PySem.W.nsIn K mainGlobals "InvalidLayout" = some (some (.ref e_InvalidLayout)))
    (iE_InvalidLayout : PySem.W.isClsIn K e_InvalidLayout = true)
    (bE_InvalidLayout : PySem.W.subIn K (.ref e_InvalidLayout) (.type "BaseException") = some true)
    (tE_InvalidLayout : PySem.W.typeIn K (.ref e_InvalidLayout) = some (.type "type"))
    (sE_InvalidLayout : PySem.W.subIn K (.ref e_InvalidLayout) (.ref e_InvalidLayout) = some true)
    (xE_InvalidLayout : PySem.W.excIn K e_InvalidLayout [.type "ValueError", .type "Exception", .type "BaseException", .type "object"] "ValueError.__new__" = true)
    (kE_InvalidLayout : PySem.W.keepIn K (.ref e_InvalidLayout) = true)
    (aE_InvalidText : PySem.W.nsIn K mainGlobals "InvalidText" = some (some (.ref e_InvalidText)))
    (iE_InvalidText : PySem.W.isClsIn K e_InvalidText = true)
    (bE_InvalidText : PySem.W.subIn K (.ref e_InvalidText) (.type "BaseException") = some true)
    (tE_InvalidText : PySem.W.typeIn K (.ref e_InvalidText) = some (.type "type"))
    (sE_InvalidText : PySem.W.subIn K (.ref e_InvalidText) (.ref e_InvalidText) = some true)
    (xL_InvalidText : K.lookup e_InvalidText = some (excClassObj nm_InvalidText qn_InvalidText e_InvalidText N_InvalidText bs_InvalidText [.ref e_CoasterError, .type "ValueError", .type "Exception", .type "BaseException", .type "object"] true sn_InvalidText sb_InvalidText ab_InvalidText col_InvalidText dd_InvalidText m0_InvalidText m1_InvalidText m2_InvalidText m3_InvalidText m5_InvalidText "ValueError.__new__"))
    (sa_InvalidText : PySem.W.findIn K (.ref e_InvalidText) "__setattr__" = some (some (.builtin "object.__setattr__")))
    (kx_InvalidText : PySem.W.keepIn K (.ref e_InvalidText) = true)
    (iI_InvalidText : PySem.W.findIn K (.ref e_InvalidText) "__init__" = some (some (.ref fE_InvalidText)))
    (tI_InvalidText : PySem.W.typeIn K (.ref fE_InvalidText) = some (.type "function"))
    (nI_InvalidText : PySem.W.findIn K (.ref e_InvalidText) "line" = some none)
    (lI_InvalidText : K.lookup fE_InvalidText = some ⟨ocE_InvalidText, odE_InvalidText, .func (PySem.W.fnOf "__init__" "InvalidText.__init__" (defArgs s_InvalidText) (defBody s_InvalidText) (defScope s_InvalidText) .none kVE_InvalidText dcE_InvalidText pmE_InvalidText anE_InvalidText cdE_InvalidText ctE_InvalidText), slE_InvalidText⟩)
    (cI_InvalidText : PySem.W.codeIn K cdE_InvalidText "InvalidText.__init__" = true)
    (kI_InvalidText : PySem.W.keepIn K (.ref fE_InvalidText) = true)
    (gA_InvalidText : PySem.W.findIn K (.ref e_InvalidText) "__getattribute__" = some (some (.builtin "BaseException.__getattribute__")))
    (gG_InvalidText : PySem.W.findIn K (.ref e_InvalidText) "__getattr__" = some none)
    (hD_InvalidText : PySem.W.hasDictIn K e_InvalidText = true)
    (z_abs : PySem.W.nsIn K mainGlobals "abs" = some none)
    (z_all : PySem.W.nsIn K mainGlobals "all" = some none)
    (z_bool : PySem.W.nsIn K mainGlobals "bool" = some none)
    (z_enumerate : PySem.W.nsIn K mainGlobals "enumerate" = some none)
    (z_int : PySem.W.nsIn K mainGlobals "int" = some none)
    (z_isinstance : PySem.W.nsIn K mainGlobals "isinstance" = some none)
    (z_len : PySem.W.nsIn K mainGlobals "len" = some none)
    (z_list : PySem.W.nsIn K mainGlobals "list" = some none)
    (z_max : PySem.W.nsIn K mainGlobals "max" = some none)
    (z_min : PySem.W.nsIn K mainGlobals "min" = some none)
    (z_range : PySem.W.nsIn K mainGlobals "range" = some none)
    (z_str : PySem.W.nsIn K mainGlobals "str" = some none)
    (z_sum : PySem.W.nsIn K mainGlobals "sum" = some none)
    (z_tuple : PySem.W.nsIn K mainGlobals "tuple" = some none)
    (kc_DIGITS : PySem.W.nsIn K mainGlobals "DIGITS" = some (some (.str "0123456789" t_DIGITS)))
    (kc_KINDS : PySem.W.nsIn K mainGlobals "KINDS" = some (some (.ref p_KINDS)))
    (kd_KINDS : K.lookup p_KINDS = some ⟨.type "tuple", dd_KINDS, .seq #[.str "coast" t0_KINDS, .str "lift" t1_KINDS, .str "brake" t2_KINDS] nn_KINDS, ss_KINDS⟩)
    (kc_LEAST_BLOCKS : PySem.W.nsIn K mainGlobals "LEAST_BLOCKS" = some (some (.int (2) t_LEAST_BLOCKS)))
    (kc_MOST_BLOCKS : PySem.W.nsIn K mainGlobals "MOST_BLOCKS" = some (some (.int (12) t_MOST_BLOCKS)))
    (kc_MOST_DIGITS : PySem.W.nsIn K mainGlobals "MOST_DIGITS" = some (some (.int (9) t_MOST_DIGITS)))
    (kc_MOST_LENGTH : PySem.W.nsIn K mainGlobals "MOST_LENGTH" = some (some (.int (500) t_MOST_LENGTH)))
    (kc_MOST_METRES : PySem.W.nsIn K mainGlobals "MOST_METRES" = some (some (.int (4000) t_MOST_METRES)))
    (kc_MOST_SLOPE : PySem.W.nsIn K mainGlobals "MOST_SLOPE" = some (some (.int (100) t_MOST_SLOPE))) :
    ∃ fd : FuncData, (∀ (s : Shared) (v : Value), BindsTo s fd ⟨[v], []⟩ [("script", v)]) ∧ ∀ base : Heap, K.In base → base.Ns mainGlobals mg → FnOk l.prog w K mg base (L2.CX l.prog w) 14 fa fd ["script"] (spA K m_law) := by
  have e := hfa.symm.trans (PySem.W.mg_of X N a26)
  cases e
  have F1 := fun_mk (st := s_read_lines) l1 c1 k1
  have b1 := F1.binds (ps := ["lines", "first", "read_line"]) fun _ _ _ _ _ _ us hl => match us, hl with | [_, _, _], _ => rfl
  have F2 := fun_mk (st := s_read_number) l2 c2 k2
  have b2 := F2.binds (ps := ["word"]) fun _ _ _ _ _ _ us hl => match us, hl with | [_], _ => rfl
  have F3 := fun_mk (st := s_Layout___init__) l3 c3 k3
  have b3 := F3.binds (ps := ["self", "segments"]) fun _ _ _ _ _ _ us hl => match us, hl with | [_, _], _ => rfl
  have F4 := fun_mk (st := s_Layout__place_metres) l4 c4 k4
  have b4 := F4.binds (ps := ["self"]) fun _ _ _ _ _ _ us hl => match us, hl with | [_], _ => rfl
  have F5 := fun_mk (st := s_Layout_total) l5 c5 k5
  have b5 := F5.binds (ps := ["self"]) fun _ _ _ _ _ _ us hl => match us, hl with | [_], _ => rfl
  have F6 := fun_mk (st := s_Layout_blocks) l6 c6 k6
  have b6 := F6.binds (ps := ["self"]) fun _ _ _ _ _ _ us hl => match us, hl with | [_], _ => rfl
  have F7 := fun_mk (st := s_Layout_metre) l7 c7 k7
  have b7 := F7.binds (ps := ["self", "number"]) fun _ _ _ _ _ _ us hl => match us, hl with | [_, _], _ => rfl
  have F8 := fun_mk (st := s_Layout_height) l8 c8 k8
  have b8 := F8.binds (ps := ["self", "number"]) fun _ _ _ _ _ _ us hl => match us, hl with | [_, _], _ => rfl
  have F9 := fun_mk (st := s_Layout_begin) l9 c9 k9
  have b9 := F9.binds (ps := ["self", "block"]) fun _ _ _ _ _ _ us hl => match us, hl with | [_, _], _ => rfl
  have F10 := fun_mk (st := s_Layout_brake) l10 c10 k10
  have b10 := F10.binds (ps := ["self", "block"]) fun _ _ _ _ _ _ us hl => match us, hl with | [_, _], _ => rfl
  have F11 := fun_mk (st := s_Layout_end) l11 c11 k11
  have b11 := F11.binds (ps := ["self", "block"]) fun _ _ _ _ _ _ us hl => match us, hl with | [_, _], _ => rfl
  have F12 := fun_mk (st := s_Layout__check_metre) l12 c12 k12
  have b12 := F12.binds (ps := ["self", "number"]) fun _ _ _ _ _ _ us hl => match us, hl with | [_, _], _ => rfl
  have F13 := fun_mk (st := s_Layout__check_block) l13 c13 k13
  have b13 := F13.binds (ps := ["self", "block"]) fun _ _ _ _ _ _ us hl => match us, hl with | [_, _], _ => rfl
  have F14 := fun_mk (st := s__are_segments) l14 c14 k14
  have b14 := F14.binds (ps := ["segments"]) fun _ _ _ _ _ _ us hl => match us, hl with | [_], _ => rfl
  have F15 := fun_mk (st := s__are_a_round) l15 c15 k15
  have b15 := F15.binds (ps := ["segments"]) fun _ _ _ _ _ _ us hl => match us, hl with | [_], _ => rfl
  have F16 := fun_mk (st := s_format_layout) l16 c16 k16
  have b16 := F16.binds (ps := ["layout"]) fun _ _ _ _ _ _ us hl => match us, hl with | [_], _ => rfl
  have F17 := fun_mk (st := s_parse_layout) l17 c17 k17
  have b17 := F17.binds (ps := ["text"]) fun _ _ _ _ _ _ us hl => match us, hl with | [_], _ => rfl
  have F18 := fun_mk (st := s__read_segment) l18 c18 k18
  have b18 := F18.binds (ps := ["line"]) fun _ _ _ _ _ _ us hl => match us, hl with | [_], _ => rfl
  have F19 := fun_mk (st := s__read_slope) l19 c19 k19
  have b19 := F19.binds (ps := ["word"]) fun _ _ _ _ _ _ us hl => match us, hl with | [_], _ => rfl
  have F20 := fun_mk (st := s__law_cell) l20 c20 k20
  have b20 := F20.binds (ps := ["script", "k"]) fun _ _ _ _ _ _ us hl => match us, hl with | [_, _], _ => rfl
  have F21 := fun_mk (st := s__law_draws) l21 c21 k21
  have b21 := F21.binds (ps := ["cell", "count"]) fun _ _ _ _ _ _ us hl => match us, hl with | [_, _], _ => rfl
  have F22 := fun_mk (st := s__law_like) l22 c22 k22
  have b22 := F22.binds (ps := ["actual", "due"]) fun _ _ _ _ _ _ us hl => match us, hl with | [_, _], _ => rfl
  have F23 := fun_mk (st := s__law_drawn_segments) l23 c23 k23
  have b23 := F23.binds (ps := ["draws", "most"]) fun _ _ _ _ _ _ us hl => match us, hl with | [_, _], _ => rfl
  have F24 := fun_mk (st := s__law_drawn_layout) l24 c24 k24
  have b24 := F24.binds (ps := ["draws"]) fun _ _ _ _ _ _ us hl => match us, hl with | [_], _ => rfl
  have F25 := fun_mk (st := s__law_told) l25 c25 k25
  have b25 := F25.binds (ps := ["lines"]) fun _ _ _ _ _ _ us hl => match us, hl with | [_], _ => rfl
  have F26 := fun_mk (st := s_law) l26 c26 k26
  have b26 := F26.binds (ps := ["script"]) fun _ _ _ _ _ _ us hl => match us, hl with | [_], _ => rfl
  have FE_InvalidText := fun_mk (st := s_InvalidText) lI_InvalidText cI_InvalidText kI_InvalidText
  have bE_InvalidText_ := FE_InvalidText.binds (ps := ["self", "line"]) fun _ _ _ _ _ _ us hl => match us, hl with | [_, _], _ => rfl
  let G : Gm := { K := K, cm := fun x => if x = 0 then c_Layout else 0, ca := fun x => if x = 0 then e_CoasterError else if x = 1 then e_BadNumber else if x = 2 then e_InvalidLayout else if x = 6 then e_InvalidText else 0, kt := fun x => if x = 0 then p_KINDS else 0, ft := fun x => if x = 0 then f18 else 0 }
  let T : Txt G mg := { g_Layout := PySem.W.mg_of X N aC_Layout, cl_Layout := ⟨pg_Layout, hd_Layout, po_Layout, sa_Layout⟩, n_Layout_segments := nf_Layout_segments, n_Layout__metres := nf_Layout__metres, n_Layout__heights := nf_Layout__heights, n_Layout__begins := nf_Layout__begins, n_Layout__brakes := nf_Layout__brakes, a_read_lines := f1, d_read_lines := _, F_read_lines := F1, b_read_lines := b1, g_read_lines := PySem.W.mg_of X N a1, a_read_number := f2, d_read_number := _, F_read_number := F2, b_read_number := b2, g_read_number := PySem.W.mg_of X N a2, a_Layout___init__ := f3, d_Layout___init__ := _, F_Layout___init__ := F3, b_Layout___init__ := b3, mk_Layout := ⟨mk_Layout, a3, i3, kc_Layout⟩, a_Layout__place_metres := f4, d_Layout__place_metres := _, F_Layout__place_metres := F4, b_Layout__place_metres := b4, M_Layout__place_metres := ⟨a4, i4, k4⟩, a_Layout_total := f5, d_Layout_total := _, F_Layout_total := F5, b_Layout_total := b5, M_Layout_total := ⟨a5, i5, k5⟩, a_Layout_blocks := f6, d_Layout_blocks := _, F_Layout_blocks := F6, b_Layout_blocks := b6, M_Layout_blocks := ⟨a6, i6, k6⟩, a_Layout_metre := f7, d_Layout_metre := _, F_Layout_metre := F7, b_Layout_metre := b7, M_Layout_metre := ⟨a7, i7, k7⟩, a_Layout_height := f8, d_Layout_height := _, F_Layout_height := F8, b_Layout_height := b8, M_Layout_height := ⟨a8, i8, k8⟩, a_Layout_begin := f9, d_Layout_begin := _, F_Layout_begin := F9, b_Layout_begin := b9, M_Layout_begin := ⟨a9, i9, k9⟩, a_Layout_brake := f10, d_Layout_brake := _, F_Layout_brake := F10, b_Layout_brake := b10, M_Layout_brake := ⟨a10, i10, k10⟩, a_Layout_end := f11, d_Layout_end := _, F_Layout_end := F11, b_Layout_end := b11, M_Layout_end := ⟨a11, i11, k11⟩, a_Layout__check_metre := f12, d_Layout__check_metre := _, F_Layout__check_metre := F12, b_Layout__check_metre := b12, M_Layout__check_metre := ⟨a12, i12, k12⟩, a_Layout__check_block := f13, d_Layout__check_block := _, F_Layout__check_block := F13, b_Layout__check_block := b13, M_Layout__check_block := ⟨a13, i13, k13⟩, a__are_segments := f14, d__are_segments := _, F__are_segments := F14, b__are_segments := b14, g__are_segments := PySem.W.mg_of X N a14, a__are_a_round := f15, d__are_a_round := _, F__are_a_round := F15, b__are_a_round := b15, g__are_a_round := PySem.W.mg_of X N a15, a_format_layout := f16, d_format_layout := _, F_format_layout := F16, b_format_layout := b16, g_format_layout := PySem.W.mg_of X N a16, a_parse_layout := f17, d_parse_layout := _, F_parse_layout := F17, b_parse_layout := b17, g_parse_layout := PySem.W.mg_of X N a17, a__read_segment := f18, d__read_segment := _, F__read_segment := F18, b__read_segment := b18, g__read_segment := PySem.W.mg_of X N a18, a__read_slope := f19, d__read_slope := _, F__read_slope := F19, b__read_slope := b19, g__read_slope := PySem.W.mg_of X N a19, a__law_cell := f20, d__law_cell := _, F__law_cell := F20, b__law_cell := b20, g__law_cell := PySem.W.mg_of X N a20, a__law_draws := f21, d__law_draws := _, F__law_draws := F21, b__law_draws := b21, g__law_draws := PySem.W.mg_of X N a21, a__law_like := f22, d__law_like := _, F__law_like := F22, b__law_like := b22, g__law_like := PySem.W.mg_of X N a22, a__law_drawn_segments := f23, d__law_drawn_segments := _, F__law_drawn_segments := F23, b__law_drawn_segments := b23, g__law_drawn_segments := PySem.W.mg_of X N a23, a__law_drawn_layout := f24, d__law_drawn_layout := _, F__law_drawn_layout := F24, b__law_drawn_layout := b24, g__law_drawn_layout := PySem.W.mg_of X N a24, a__law_told := f25, d__law_told := _, F__law_told := F25, b__law_told := b25, g__law_told := PySem.W.mg_of X N a25, a_law := fa, d_law := _, F_law := F26, b_law := b26, g_law := PySem.W.mg_of X N a26, g_CoasterError := PySem.W.mg_of X N aE_CoasterError, te_CoasterError := exm_self bE_CoasterError iE_CoasterError tE_CoasterError sE_CoasterError, x_CoasterError := xE_CoasterError, kk_CoasterError := kE_CoasterError, bb_CoasterError := bE_CoasterError, tt_CoasterError := tE_CoasterError, g_BadNumber := PySem.W.mg_of X N aE_BadNumber, te_BadNumber := exm_self bE_BadNumber iE_BadNumber tE_BadNumber sE_BadNumber, x_BadNumber := xE_BadNumber, kk_BadNumber := kE_BadNumber, bb_BadNumber := bE_BadNumber, tt_BadNumber := tE_BadNumber, g_InvalidLayout := PySem.W.mg_of X N aE_InvalidLayout, te_InvalidLayout := exm_self bE_InvalidLayout iE_InvalidLayout tE_InvalidLayout sE_InvalidLayout, x_InvalidLayout := xE_InvalidLayout, kk_InvalidLayout := kE_InvalidLayout, bb_InvalidLayout := bE_InvalidLayout, tt_InvalidLayout := tE_InvalidLayout, g_InvalidText := PySem.W.mg_of X N aE_InvalidText, te_InvalidText := exm_self bE_InvalidText iE_InvalidText tE_InvalidText sE_InvalidText, a_InvalidText := fE_InvalidText, d_InvalidText := _, F_InvalidText := FE_InvalidText, b_InvalidText := bE_InvalidText_, oex_InvalidText := ⟨⟨nm_InvalidText, qn_InvalidText, N_InvalidText, bs_InvalidText, _, sn_InvalidText, sb_InvalidText, ab_InvalidText, col_InvalidText, dd_InvalidText, m0_InvalidText, m1_InvalidText, m2_InvalidText, m3_InvalidText, m5_InvalidText, xL_InvalidText, rfl⟩, sa_InvalidText, bE_InvalidText, tE_InvalidText, kx_InvalidText⟩, ii_InvalidText := iI_InvalidText, ti_InvalidText := tI_InvalidText, nf_InvalidText := nI_InvalidText, xf_InvalidText := ⟨gA_InvalidText, gG_InvalidText, bE_InvalidText, hD_InvalidText⟩, fa__read_segment := rfl, gf__read_segment := PySem.W.mg_of X N a18, z_abs := PySem.W.mg_none_of X N z_abs, z_all := PySem.W.mg_none_of X N z_all, z_bool := PySem.W.mg_none_of X N z_bool, z_enumerate := PySem.W.mg_none_of X N z_enumerate, z_int := PySem.W.mg_none_of X N z_int, z_isinstance := PySem.W.mg_none_of X N z_isinstance, z_len := PySem.W.mg_none_of X N z_len, z_list := PySem.W.mg_none_of X N z_list, z_max := PySem.W.mg_none_of X N z_max, z_min := PySem.W.mg_none_of X N z_min, z_range := PySem.W.mg_none_of X N z_range, z_str := PySem.W.mg_none_of X N z_str, z_sum := PySem.W.mg_none_of X N z_sum, z_tuple := PySem.W.mg_none_of X N z_tuple, t_DIGITS := _, k_DIGITS := PySem.W.mg_of X N kc_DIGITS, k_KINDS := PySem.W.mg_of X N kc_KINDS, q_KINDS := fun B => ⟨[(.str "coast"), (.str "lift"), (.str "brake")], Or.inr ⟨_, _, _, kd_KINDS, rfl, rfl, Nat.le_of_ble_eq_true rfl, .cons ⟨_, rfl⟩ (.cons ⟨_, rfl⟩ (.cons ⟨_, rfl⟩ (.nil)))⟩, .cons (.str _ (sok_lit _)) (.cons (.str _ (sok_lit _)) (.cons (.str _ (sok_lit _)) (.nil)))⟩, t_LEAST_BLOCKS := _, k_LEAST_BLOCKS := PySem.W.mg_of X N kc_LEAST_BLOCKS, t_MOST_BLOCKS := _, k_MOST_BLOCKS := PySem.W.mg_of X N kc_MOST_BLOCKS, t_MOST_DIGITS := _, k_MOST_DIGITS := PySem.W.mg_of X N kc_MOST_DIGITS, t_MOST_LENGTH := _, k_MOST_LENGTH := PySem.W.mg_of X N kc_MOST_LENGTH, t_MOST_METRES := _, k_MOST_METRES := PySem.W.mg_of X N kc_MOST_METRES, t_MOST_SLOPE := _, k_MOST_SLOPE := PySem.W.mg_of X N kc_MOST_SLOPE }
  exact ⟨T.d_law, fun s v => .of_eq rfl, fun base _ _ => (ok_law (P := l.prog) (w := w) (base := base) T).imp fun _ _ _ _ h => h G rfl⟩
end Lw
open PySem PySem.W PyProof.Rows
set_option maxRecDepth 100000 in
set_option maxHeartbeats 0 in
theorem PySem.Challenge.cw_coastersafe_k04_texts_of_layouts_holds : PySem.Challenge.rw_coastersafe_k04_texts_of_layouts.Holds := by
  w_on; o_law; k_head; (case hw => w_witness2)
  k_fill
  refine L2.walk_of (l := PySem.Challenge.rw_coastersafe_k04_texts_of_layouts) (n := 63) (k := 14) (x := "script") (CX := fun w => L2.CX PySem.Challenge.rw_coastersafe_k04_texts_of_layouts.prog w) (sp := fun w => Ci.spA _ Lw.m_law) rfl (by decide) rfl ⟨rfl, by decide, by decide⟩ (fun w h Y => PySem.W.kIn_of Y) ?F (fun _ H a ns hl hO hS => Ci.spA_start hS (Lw.law_true ns hl)) (fun _ _ _ _ _ h => by obtain ⟨_, _, _, _, _, _, _, _, _, _, _, _, z⟩ := h; exact z)
  case F =>
    intro w mg fa h KX N hmg
    refine' Lw.all_mk KX N hmg ?aC_Layout ?a1 ?l1 ?c1 ?k1 ?a2 ?l2 ?c2 ?k2 ?a3 ?i3 ?l3 ?c3 ?k3 ?a4 ?i4 ?l4 ?c4 ?k4 ?a5 ?i5 ?l5 ?c5 ?k5 ?a6 ?i6 ?l6 ?c6 ?k6 ?a7 ?i7 ?l7 ?c7 ?k7 ?a8 ?i8 ?l8 ?c8 ?k8 ?a9 ?i9 ?l9 ?c9 ?k9 ?a10 ?i10 ?l10 ?c10 ?k10 ?a11 ?i11 ?l11 ?c11 ?k11 ?a12 ?i12 ?l12 ?c12 ?k12 ?a13 ?i13 ?l13 ?c13 ?k13 ?a14 ?l14 ?c14 ?k14 ?a15 ?l15 ?c15 ?k15 ?a16 ?l16 ?c16 ?k16 ?a17 ?l17 ?c17 ?k17 ?a18 ?l18 ?c18 ?k18 ?a19 ?l19 ?c19 ?k19 ?a20 ?l20 ?c20 ?k20 ?a21 ?l21 ?c21 ?k21 ?a22 ?l22 ?c22 ?k22 ?a23 ?l23 ?c23 ?k23 ?a24 ?l24 ?c24 ?k24 ?a25 ?l25 ?c25 ?k25 ?a26 ?l26 ?c26 ?k26 ?pg_Layout ?hd_Layout ?po_Layout ?sa_Layout ?mk_Layout ?kc_Layout ?nf_Layout_segments ?nf_Layout__metres ?nf_Layout__heights ?nf_Layout__begins ?nf_Layout__brakes ?aE_CoasterError ?iE_CoasterError ?bE_CoasterError ?tE_CoasterError ?sE_CoasterError ?xE_CoasterError ?kE_CoasterError ?aE_BadNumber ?iE_BadNumber ?bE_BadNumber ?tE_BadNumber ?sE_BadNumber ?xE_BadNumber ?kE_BadNumber ?aE_InvalidLayout ?iE_InvalidLayout ?bE_InvalidLayout ?tE_InvalidLayout ?sE_InvalidLayout ?xE_InvalidLayout ?kE_InvalidLayout ?aE_InvalidText ?iE_InvalidText ?bE_InvalidText ?tE_InvalidText ?sE_InvalidText ?xL_InvalidText ?sa_InvalidText ?kx_InvalidText ?iI_InvalidText ?tI_InvalidText ?nI_InvalidText ?lI_InvalidText ?cI_InvalidText ?kI_InvalidText ?gA_InvalidText ?gG_InvalidText ?hD_InvalidText ?z_abs ?z_all ?z_bool ?z_enumerate ?z_int ?z_isinstance ?z_len ?z_list ?z_max ?z_min ?z_range ?z_str ?z_sum ?z_tuple ?kc_DIGITS ?kc_KINDS ?kd_KINDS ?kc_LEAST_BLOCKS ?kc_MOST_BLOCKS ?kc_MOST_DIGITS ?kc_MOST_LENGTH ?kc_MOST_METRES ?kc_MOST_SLOPE
    (case aC_Layout => first | k_is | rfl)
    (case a1 => first | k_is | rfl)
    (case l1 => first | k_is | rfl)
    (case c1 => first | k_is | rfl)
    (case k1 => first | k_is | rfl)
    (case a2 => first | k_is | rfl)
    (case l2 => first | k_is | rfl)
    (case c2 => first | k_is | rfl)
    (case k2 => first | k_is | rfl)
    (case a3 => first | k_is | rfl)
    (case i3 => first | k_is | rfl)
    (case l3 => first | k_is | rfl)
    (case c3 => first | k_is | rfl)
    (case k3 => first | k_is | rfl)
    (case a4 => first | k_is | rfl)
    (case i4 => first | k_is | rfl)
    (case l4 => first | k_is | rfl)
    (case c4 => first | k_is | rfl)
    (case k4 => first | k_is | rfl)
    (case a5 => first | k_is | rfl)
    (case i5 => first | k_is | rfl)
    (case l5 => first | k_is | rfl)
    (case c5 => first | k_is | rfl)
    (case k5 => first | k_is | rfl)
    (case a6 => first | k_is | rfl)
    (case i6 => first | k_is | rfl)
    (case l6 => first | k_is | rfl)
    (case c6 => first | k_is | rfl)
    (case k6 => first | k_is | rfl)
    (case a7 => first | k_is | rfl)
    (case i7 => first | k_is | rfl)
    (case l7 => first | k_is | rfl)
    (case c7 => first | k_is | rfl)
    (case k7 => first | k_is | rfl)
    (case a8 => first | k_is | rfl)
    (case i8 => first | k_is | rfl)
    (case l8 => first | k_is | rfl)
    (case c8 => first | k_is | rfl)
    (case k8 => first | k_is | rfl)
    (case a9 => first | k_is | rfl)
    (case i9 => first | k_is | rfl)
    (case l9 => first | k_is | rfl)
    (case c9 => first | k_is | rfl)
    (case k9 => first | k_is | rfl)
    (case a10 => first | k_is | rfl)
    (case i10 => first | k_is | rfl)
    (case l10 => first | k_is | rfl)
    (case c10 => first | k_is | rfl)
    (case k10 => first | k_is | rfl)
    (case a11 => first | k_is | rfl)
    (case i11 => first | k_is | rfl)
    (case l11 => first | k_is | rfl)
    (case c11 => first | k_is | rfl)
    (case k11 => first | k_is | rfl)
    (case a12 => first | k_is | rfl)
    (case i12 => first | k_is | rfl)
    (case l12 => first | k_is | rfl)
    (case c12 => first | k_is | rfl)
    (case k12 => first | k_is | rfl)
    (case a13 => first | k_is | rfl)
    (case i13 => first | k_is | rfl)
    (case l13 => first | k_is | rfl)
    (case c13 => first | k_is | rfl)
    (case k13 => first | k_is | rfl)
    (case a14 => first | k_is | rfl)
    (case l14 => first | k_is | rfl)
    (case c14 => first | k_is | rfl)
    (case k14 => first | k_is | rfl)
    (case a15 => first | k_is | rfl)
    (case l15 => first | k_is | rfl)
    (case c15 => first | k_is | rfl)
    (case k15 => first | k_is | rfl)
    (case a16 => first | k_is | rfl)
    (case l16 => first | k_is | rfl)
    (case c16 => first | k_is | rfl)
    (case k16 => first | k_is | rfl)
    (case a17 => first | k_is | rfl)
    (case l17 => first | k_is | rfl)
    (case c17 => first | k_is | rfl)
    (case k17 => first | k_is | rfl)
    (case a18 => first | k_is | rfl)
    (case l18 => first | k_is | rfl)
    (case c18 => first | k_is | rfl)
    (case k18 => first | k_is | rfl)
    (case a19 => first | k_is | rfl)
    (case l19 => first | k_is | rfl)
    (case c19 => first | k_is | rfl)
    (case k19 => first | k_is | rfl)
    (case a20 => first | k_is | rfl)
    (case l20 => first | k_is | rfl)
    (case c20 => first | k_is | rfl)
    (case k20 => first | k_is | rfl)
    (case a21 => first | k_is | rfl)
    (case l21 => first | k_is | rfl)
    (case c21 => first | k_is | rfl)
    (case k21 => first | k_is | rfl)
    (case a22 => first | k_is | rfl)
    (case l22 => first | k_is | rfl)
    (case c22 => first | k_is | rfl)
    (case k22 => first | k_is | rfl)
    (case a23 => first | k_is | rfl)
    (case l23 => first | k_is | rfl)
    (case c23 => first | k_is | rfl)
    (case k23 => first | k_is | rfl)
    (case a24 => first | k_is | rfl)
    (case l24 => first | k_is | rfl)
    (case c24 => first | k_is | rfl)
    (case k24 => first | k_is | rfl)
    (case a25 => first | k_is | rfl)
    (case l25 => first | k_is | rfl)
    (case c25 => first | k_is | rfl)
    (case k25 => first | k_is | rfl)
    (case a26 => first | k_is | rfl)
    (case l26 => first | k_is | rfl)
    (case c26 => first | k_is | rfl)
    (case k26 => first | k_is | rfl)
    (case pg_Layout => first | k_is | rfl)
    (case hd_Layout => first | k_is | rfl)
    (case po_Layout => first | k_is | rfl)
    (case sa_Layout => first | k_is | rfl)
    (case mk_Layout => first | k_is | rfl)
    (case kc_Layout => first | k_is | rfl)
    (case nf_Layout_segments => first | k_is | rfl)
    (case nf_Layout__metres => first | k_is | rfl)
    (case nf_Layout__heights => first | k_is | rfl)
    (case nf_Layout__begins => first | k_is | rfl)
    (case nf_Layout__brakes => first | k_is | rfl)
    (case aE_CoasterError => first | k_is | rfl)
    (case iE_CoasterError => first | k_is | rfl)
    (case bE_CoasterError => first | k_is | rfl)
    (case tE_CoasterError => first | k_is | rfl)
    (case sE_CoasterError => first | k_is | rfl)
    (case xE_CoasterError => k_exc)
    (case kE_CoasterError => first | k_is | rfl)
    (case aE_BadNumber => first | k_is | rfl)
    (case iE_BadNumber => first | k_is | rfl)
    (case bE_BadNumber => first | k_is | rfl)
    (case tE_BadNumber => first | k_is | rfl)
    (case sE_BadNumber => first | k_is | rfl)
    (case xE_BadNumber => k_exc)
    (case kE_BadNumber => first | k_is | rfl)
    (case aE_InvalidLayout => first | k_is | rfl)
    (case iE_InvalidLayout => first | k_is | rfl)
    (case bE_InvalidLayout => first | k_is | rfl)
    (case tE_InvalidLayout => first | k_is | rfl)
    (case sE_InvalidLayout => first | k_is | rfl)
    (case xE_InvalidLayout => k_exc)
    (case kE_InvalidLayout => first | k_is | rfl)
    (case aE_InvalidText => first | k_is | rfl)
    (case iE_InvalidText => first | k_is | rfl)
    (case bE_InvalidText => first | k_is | rfl)
    (case tE_InvalidText => first | k_is | rfl)
    (case sE_InvalidText => first | k_is | rfl)
    (case xL_InvalidText => first | k_is | rfl)
    (case sa_InvalidText => first | k_is | rfl)
    (case kx_InvalidText => first | k_is | rfl)
    (case iI_InvalidText => first | k_is | rfl)
    (case tI_InvalidText => first | k_is | rfl)
    (case nI_InvalidText => first | k_is | rfl)
    (case lI_InvalidText => first | k_is | rfl)
    (case cI_InvalidText => first | k_is | rfl)
    (case kI_InvalidText => first | k_is | rfl)
    (case gA_InvalidText => first | k_is | rfl)
    (case gG_InvalidText => first | k_is | rfl)
    (case hD_InvalidText => first | k_is | rfl)
    (case z_abs => first | k_is | rfl)
    (case z_all => first | k_is | rfl)
    (case z_bool => first | k_is | rfl)
    (case z_enumerate => first | k_is | rfl)
    (case z_int => first | k_is | rfl)
    (case z_isinstance => first | k_is | rfl)
    (case z_len => first | k_is | rfl)
    (case z_list => first | k_is | rfl)
    (case z_max => first | k_is | rfl)
    (case z_min => first | k_is | rfl)
    (case z_range => first | k_is | rfl)
    (case z_str => first | k_is | rfl)
    (case z_sum => first | k_is | rfl)
    (case z_tuple => first | k_is | rfl)
    (case kc_DIGITS => first | k_is | rfl)
    (case kc_KINDS => first | k_is | rfl)
    (case kd_KINDS => first | k_is | rfl)
    (case kc_LEAST_BLOCKS => first | k_is | rfl)
    (case kc_MOST_BLOCKS => first | k_is | rfl)
    (case kc_MOST_DIGITS => first | k_is | rfl)
    (case kc_MOST_LENGTH => first | k_is | rfl)
    (case kc_MOST_METRES => first | k_is | rfl)
    (case kc_MOST_SLOPE => first | k_is | rfl)
