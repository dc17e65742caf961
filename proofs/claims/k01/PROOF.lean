import PyProof.Rows.All
import Wide.All
import OpenK.AllK
import Wide.FinOn
import HandS.ForExc
import HandS.ForMost
import HandS.Evl
import HandS.IsInst
import HandS.Wide
import HandS.Gcd
import KE.DatumOrd
import PySem.Challenge.RW_coastersafe_k01_whole_numbers_and_interv
set_option Elab.async false
set_option linter.all false
set_option maxRecDepth 100000
set_option maxHeartbeats 4000000
namespace Cs
open PySem PySem.Spec PyProof.Rows L2 Evl

/-! ### data: what a value is worth, without addresses -/
inductive D where
  | non | bl (b : Bool) | int (i : Int) | str (s : Str) | tup (ds : List D) | lst (ds : List D) | ins (C : Addr) (fs : List (Str × D)) | scr (ns : List Int)

mutual
inductive Rep (K : PySem.W.Frag) (B : Hp) : V → D → Prop
  | non : Rep K B .non .non
  | bl (b : Bool) : Rep K B (.bl b) (.bl b)
  | int (i : Int) : Rep K B (.int i) (.int i)
  | str (s : Str) : Rep K B (.str s) (.str s)
  | tup {a : Addr} {vs : List V} {ds : List D} : SqT K B a vs → Reps K B vs ds → Rep K B (.ref a) (.tup ds)
  | lst {a : Addr} {vs : List V} {ds : List D} : B a = some (.lst vs) → Reps K B vs ds → Rep K B (.ref a) (.lst ds)
  | ins {a C dx : Addr} {fv : List (Str × V)} {fd : List (Str × D)} : B a = some (.ins C dx fv) → RepF K B fv fd → Rep K B (.ref a) (.ins C fd)
  | scr {a : Addr} {ns : List Int} : SqL K B a (ns.map V.int) → Rep K B (.ref a) (.scr ns)
inductive Reps (K : PySem.W.Frag) (B : Hp) : List V → List D → Prop
  | nil : Reps K B [] []
  | cons {v : V} {vs : List V} {d : D} {ds : List D} : Rep K B v d → Reps K B vs ds → Reps K B (v :: vs) (d :: ds)
inductive RepF (K : PySem.W.Frag) (B : Hp) : List (Str × V) → List (Str × D) → Prop
  | nil : RepF K B [] []
  | cons {f : Str} {v : V} {d : D} {fv : List (Str × V)} {fd : List (Str × D)} : Rep K B v d → RepF K B fv fd → RepF K B ((f, v) :: fv) ((f, d) :: fd)
end

section
variable {K : PySem.W.Frag} {B B' H H' : Hp}
mutual
theorem Rep.mono (e : Ex B B') {v : V} {d : D} : Rep K B v d → Rep K B' v d
  | .non => .non
  | .bl b => .bl b
  | .int i => .int i
  | .str s => .str s
  | .tup h r => .tup (ex_t e h) (Reps.mono e r)
  | .lst h r => .lst (e _ _ h) (Reps.mono e r)
  | .ins h r => .ins (e _ _ h) (RepF.mono e r)
  | .scr h => .scr (ex_l e h)
theorem Reps.mono (e : Ex B B') {vs : List V} {ds : List D} : Reps K B vs ds → Reps K B' vs ds
  | .nil => .nil
  | .cons h r => .cons (Rep.mono e h) (Reps.mono e r)
theorem RepF.mono (e : Ex B B') {vs : List (Str × V)} {ds : List (Str × D)} : RepF K B vs ds → RepF K B' vs ds
  | .nil => .nil
  | .cons h r => .cons (Rep.mono e h) (RepF.mono e r)
end
theorem Reps.len {vs : List V} {ds : List D} : Reps K B vs ds → vs.length = ds.length
  | .nil => rfl
  | .cons _ r => congrArg Nat.succ (Reps.len r)
theorem Reps.app {vs ws : List V} {ds es : List D} : Reps K B vs ds → Reps K B ws es → Reps K B (vs ++ ws) (ds ++ es)
  | .nil, s => s
  | .cons h r, s => .cons h (Reps.app r s)
theorem Reps.get {vs : List V} {ds : List D} {i : Nat} {d : D} : Reps K B vs ds → ds[i]? = some d → ∃ v, vs[i]? = some v ∧ Rep K B v d
  | .nil, h => by simp at h
  | .cons h r, e => by
    cases i with
    | zero =>
      have e' := Option.some.inj e
      subst e'
      exact ⟨_, rfl, h⟩
    | succ i => exact Reps.get (i := i) r e
theorem Reps.getV {vs : List V} {ds : List D} {i : Nat} {v : V} : Reps K B vs ds → vs[i]? = some v → ∃ d, ds[i]? = some d ∧ Rep K B v d
  | .nil, h => by simp at h
  | .cons h r, e => by
    cases i with
    | zero =>
      have e' := Option.some.inj e
      subst e'
      exact ⟨_, rfl, h⟩
    | succ i => exact Reps.getV (i := i) r e
theorem Reps.drop {vs : List V} {ds : List D} : ∀ (n : Nat), Reps K B vs ds → Reps K B (vs.drop n) (ds.drop n)
  | 0, r => r
  | n + 1, .nil => .nil
  | n + 1, .cons _ r => Reps.drop n r
theorem Reps.take {vs : List V} {ds : List D} : ∀ (n : Nat), Reps K B vs ds → Reps K B (vs.take n) (ds.take n)
  | 0, r => .nil
  | n + 1, .nil => .nil
  | n + 1, .cons h r => .cons h (Reps.take n r)
theorem Reps.set {vs : List V} {ds : List D} {v : V} {d : D} (q : Rep K B v d) : ∀ (n : Nat), Reps K B vs ds → Reps K B (vs.set n v) (ds.set n d)
  | _, .nil => .nil
  | 0, .cons _ r => .cons q r
  | n + 1, .cons h r => .cons h (Reps.set q n r)
theorem Reps.dropLast {vs : List V} {ds : List D} (r : Reps K B vs ds) : Reps K B vs.dropLast ds.dropLast := by
  rw [List.dropLast_eq_take, List.dropLast_eq_take, r.len]
  exact r.take _
theorem Reps.ints {vs : List V} {ns : List Int} (h : Reps K B vs (ns.map D.int)) : vs = ns.map V.int := by
  induction ns generalizing vs with
  | nil => cases h; rfl
  | cons n r ih =>
    cases h with
    | cons h1 h2 =>
      cases h1
      rw [ih h2]
      rfl
theorem Reps.bools {vs : List V} {ns : List Bool} (h : Reps K B vs (ns.map D.bl)) : vs = ns.map V.bl := by
  induction ns generalizing vs with
  | nil => cases h; rfl
  | cons n r ih =>
    cases h with
    | cons h1 h2 =>
      cases h1
      rw [ih h2]
      rfl
theorem RepF.look {f : Str} {d : D} {fv : List (Str × V)} {fd : List (Str × D)} : RepF K B fv fd → fd.lookup f = some d → ∃ v, fv.lookup f = some v ∧ Rep K B v d
  | .nil, h => by simp [List.lookup] at h
  | .cons (f := g) (v := v) (fv := fv') h r, e => by
    cases c : (f == g) with
    | true =>
      rw [List.lookup_cons, c] at e
      have e' := Option.some.inj e
      subst e'
      exact ⟨v, by rw [List.lookup_cons, c], h⟩
    | false =>
      rw [List.lookup_cons, c] at e
      obtain ⟨v', h1, h2⟩ := RepF.look r e
      exact ⟨v', by rw [List.lookup_cons, c]; exact h1, h2⟩
theorem RepF.lookN {f : Str} {fv : List (Str × V)} {fd : List (Str × D)} : RepF K B fv fd → fd.lookup f = none → fv.lookup f = none
  | .nil, h => rfl
  | .cons (f := g) (fv := fv') h r, e => by
    cases c : (f == g) with
    | true =>
      rw [List.lookup_cons, c] at e
      cases e
    | false =>
      rw [List.lookup_cons, c] at e
      rw [List.lookup_cons, c]
      exact RepF.lookN r e
end

/-! ### how the heap goes on: B what stands for good, H all -/
structure Go (B H B' H' : Hp) : Prop where
  bb : Ex B B'
  bh : Ex B' H'
  hh : Ex H H'
  fr : ∀ a o, H a = some o → B a = none → B' a = none
section
variable {K : PySem.W.Frag} {B H B1 H1 B2 H2 : Hp}
theorem Go.refl (h : Ex B H) : Go B H B H := ⟨Ex.refl B, h, Ex.refl H, fun _ _ _ h => h⟩
theorem Go.trans (a : Go B H B1 H1) (b : Go B1 H1 B2 H2) : Go B H B2 H2 :=
  ⟨a.bb.trans b.bb, b.bh, a.hh.trans b.hh, fun x o h1 h2 => b.fr x o (a.hh x o h1) (a.fr x o h1 h2)⟩
theorem none_of_ex (e : Ex B H) {p : Addr} (h : H p = none) : B p = none := by
  cases q : B p with
  | none => rfl
  | some o => rw [e p o q] at h; cases h
theorem Ex.upd2 {p : Addr} {o : HO} (e : Ex B H) : Ex (upd B p o) (upd H p o) := fun a u h => by
  by_cases c : a = p
  · subst c
    rw [upd_same] at h ⊢
    exact h
  · rw [upd_ne c] at h ⊢
    exact e a u h
theorem Go.new (e : Ex B H) {p : Addr} {o : HO} (h : H p = none) : Go B H (upd B p o) (upd H p o) :=
  ⟨Ex.new (none_of_ex e h), Ex.upd2 e, Ex.new h, fun a u h1 h2 => by rw [upd_ne (ne_of_none h1 h)]; exact h2⟩
theorem Go.newO (e : Ex B H) {p : Addr} {o : HO} (h : H p = none) : Go B H B (upd H p o) :=
  ⟨Ex.refl B, fun a u q => by rw [upd_ne (ne_of_none (e a u q) h)]; exact e a u q, Ex.new h, fun _ _ _ h2 => h2⟩
/-- an object of ours stands for good from now on -/
theorem Go.freeze (g : Go B H B1 H1) {p : Addr} {o : HO} (h : H p = none) (hb : B1 p = none) (ho : H1 p = some o) : Go B H (upd B1 p o) H1 :=
  ⟨g.bb.trans (Ex.new hb), fun a u q => by
    by_cases c : a = p
    · subst c
      rw [upd_same] at q
      rw [ho]
      exact q
    · rw [upd_ne c] at q
      exact g.bh a u q, g.hh, fun a u h1 h2 => by rw [upd_ne (ne_of_none h1 h)]; exact g.fr a u h1 h2⟩
end

/-! ### slots -/
inductive SV where
  | d (x : D)
  | own (ds : List D)
  | obj (l C : Addr) (fs : List (Str × D))
def SV.mine : SV → Bool
  | .d _ => false
  | _ => true
abbrev En := List (Option SV)
def SlotOk (K : PySem.W.Frag) (H0 B H : Hp) (v : V) : SV → Prop
  | .d x => Rep K B v x
  | .own ds => ∃ l vs, v = .ref l ∧ H0 l = none ∧ B l = none ∧ H l = some (.lst vs) ∧ Reps K B vs ds
  | .obj l C fs => ∃ dx fv, v = .ref l ∧ H0 l = none ∧ B l = none ∧ H l = some (.ins C dx fv) ∧ RepF K B fv fs
structure Slots (K : PySem.W.Frag) (H0 B H : Hp) (σ : L2.St) (ρ : En) : Prop where
  len : σ.length = ρ.length
  ex0 : Ex H0 H
  ex : Ex B H
  ok : ∀ (i : Nat) (s : SV), ρ[i]? = some (some s) → ∃ v, σ[i]? = some (some v) ∧ SlotOk K H0 B H v s
  ap : ∀ (i j : Nat) (si sj : SV) (v : V), ρ[i]? = some (some si) → ρ[j]? = some (some sj) → si.mine = true → sj.mine = true → σ[i]? = some (some v) → σ[j]? = some (some v) → i = j
section
variable {K : PySem.W.Frag} {H0 B H B1 H1 : Hp} {σ : L2.St} {ρ : En}
theorem SlotOk.go (g : Go B H B1 H1) {v : V} {s : SV} (h : SlotOk K H0 B H v s) : SlotOk K H0 B1 H1 v s := by
  cases s with
  | d x => exact Rep.mono g.bb h
  | own ds =>
    obtain ⟨l, vs, e, h0, hb, hl, r⟩ := h
    exact ⟨l, vs, e, h0, g.fr l _ hl hb, g.hh l _ hl, r.mono g.bb⟩
  | obj l C fs =>
    obtain ⟨dx, vs, e, h0, hb, hl, r⟩ := h
    exact ⟨dx, vs, e, h0, g.fr l _ hl hb, g.hh l _ hl, r.mono g.bb⟩
/-- the address of what is ours -/
theorem SlotOk.addr {v : V} {s : SV} (m : s.mine = true) (h : SlotOk K H0 B H v s) : ∃ l o, v = .ref l ∧ H0 l = none ∧ B l = none ∧ H l = some o := by
  cases s with
  | d x => cases m
  | own ds =>
    obtain ⟨l, vs, e, h0, hb, hl, r⟩ := h
    exact ⟨l, _, e, h0, hb, hl⟩
  | obj l C fs =>
    obtain ⟨dx, vs, e, h0, hb, hl, r⟩ := h
    exact ⟨l, _, e, h0, hb, hl⟩
/-- another object changes, or stands for good -/
theorem SlotOk.off {B' : Hp} {l : Addr} {o : HO} {v : V} {s : SV} (h : SlotOk K H0 B H v s) (ne : s.mine = true → v ≠ .ref l) (hb : B l = none) (eB : B' = B ∨ B' = upd B l o) {H' : Hp} (eH : ∀ a, a ≠ l → H' a = H a) : SlotOk K H0 B' H' v s := by
  have ex : Ex B B' := by
    rcases eB with e | e
    · rw [e]
      exact Ex.refl B
    · rw [e]
      exact Ex.new hb
  have keep : ∀ m, m ≠ l → B m = none → B' m = none := fun m hm hn => by
    rcases eB with e | e
    · rw [e]
      exact hn
    · rw [e, upd_ne hm]
      exact hn
  cases s with
  | d x => exact Rep.mono ex h
  | own dj =>
    obtain ⟨m, us, e, g0, gb, gl, gr⟩ := h
    have nm : m ≠ l := fun z => ne rfl (by rw [e, z])
    exact ⟨m, us, e, g0, keep m nm gb, by rw [eH m nm]; exact gl, gr.mono ex⟩
  | obj m C fs =>
    obtain ⟨dx, us, e, g0, gb, gl, gr⟩ := h
    have nm : m ≠ l := fun z => ne rfl (by rw [e, z])
    exact ⟨dx, us, e, g0, keep m nm gb, by rw [eH m nm]; exact gl, gr.mono ex⟩
theorem Slots.go (S : Slots K H0 B H σ ρ) (g : Go B H B1 H1) : Slots K H0 B1 H1 σ ρ :=
  ⟨S.len, S.ex0.trans g.hh, g.bh, fun i s h => by
    obtain ⟨v, h1, h2⟩ := S.ok i s h
    exact ⟨v, h1, h2.go g⟩, S.ap⟩
/-- a slot is stored anew -/
theorem Slots.setG (S : Slots K H0 B H σ ρ) {i : Nat} {v : V} {s : SV} (h : SlotOk K H0 B H v s) (ne : s.mine = true → ∀ (j : Nat) (t : SV), j ≠ i → ρ[j]? = some (some t) → t.mine = true → σ[j]? ≠ some (some v)) : Slots K H0 B H (σ.set i (some v)) (ρ.set i (some s)) := by
  have look : ∀ (j : Nat) (t : SV), (ρ.set i (some s))[j]? = some (some t) → (j = i ∧ t = s ∧ i < ρ.length) ∨ (j ≠ i ∧ ρ[j]? = some (some t)) := fun j t q => by
    by_cases c : i = j
    · subst c
      by_cases hi : i < ρ.length
      · rw [List.getElem?_set_self hi] at q
        exact .inl ⟨rfl, (Option.some.inj (Option.some.inj q)).symm, hi⟩
      · rw [List.getElem?_eq_none (by rw [List.length_set]; omega)] at q
        cases q
    · rw [List.getElem?_set_ne c] at q
      exact .inr ⟨fun z => c z.symm, q⟩
  refine ⟨by rw [List.length_set, List.length_set]; exact S.len, S.ex0, S.ex, fun j t q => ?_, fun j k sj sk w q1 q2 m1 m2 q3 q4 => ?_⟩
  · rcases look j t q with ⟨rfl, rfl, hi⟩ | ⟨c, q⟩
    · exact ⟨v, List.getElem?_set_self (by rw [S.len]; exact hi), h⟩
    · obtain ⟨w, h1, h2⟩ := S.ok j t q
      exact ⟨w, by rw [List.getElem?_set_ne (fun z => c z.symm)]; exact h1, h2⟩
  · rcases look j sj q1 with ⟨rfl, rfl, hi⟩ | ⟨c, p1⟩
    · rcases look k sk q2 with ⟨rfl, rfl, _⟩ | ⟨c2, p2⟩
      · rfl
      · exfalso
        rw [List.getElem?_set_self (by rw [S.len]; exact hi)] at q3
        have q3' := Option.some.inj (Option.some.inj q3)
        subst q3'
        rw [List.getElem?_set_ne (fun z => c2 z.symm)] at q4
        exact ne m1 k sk c2 p2 m2 q4
    · rcases look k sk q2 with ⟨rfl, rfl, hi⟩ | ⟨c2, p2⟩
      · exfalso
        rw [List.getElem?_set_self (by rw [S.len]; exact hi)] at q4
        have q4' := Option.some.inj (Option.some.inj q4)
        subst q4'
        rw [List.getElem?_set_ne (fun z => c z.symm)] at q3
        exact ne m2 j sj c p1 m1 q3
      · rw [List.getElem?_set_ne (fun z => c z.symm)] at q3
        rw [List.getElem?_set_ne (fun z => c2 z.symm)] at q4
        exact S.ap j k sj sk w p1 p2 m1 m2 q3 q4
theorem Slots.setD (S : Slots K H0 B H σ ρ) {i : Nat} {v : V} {x : D} (h : Rep K B v x) : Slots K H0 B H (σ.set i (some v)) (ρ.set i (some (.d x))) := S.setG (s := .d x) h fun m => nomatch m
/-- no slot holds what is new -/
theorem Slots.fresh (S : Slots K H0 B H σ ρ) {l : Addr} (h : H l = none) (j : Nat) (t : SV) (q : ρ[j]? = some (some t)) (m : t.mine = true) : σ[j]? ≠ some (some (.ref l)) := fun e => by
  obtain ⟨v, h1, h2⟩ := S.ok j _ q
  obtain ⟨l', o, e1, _, _, hl⟩ := h2.addr m
  rw [e] at h1
  have e2 := Option.some.inj (Option.some.inj h1)
  rw [e1] at e2
  cases e2
  rw [h] at hl
  cases hl
/-- a new list of ours comes into a slot -/
theorem Slots.setO (S : Slots K H0 B H σ ρ) {i : Nat} {l : Addr} {vs : List V} {ds : List D} (h0 : H0 l = none) (hb : B l = none) (hl : H l = some (.lst vs)) (r : Reps K B vs ds)
    (ne : ∀ (j : Nat) (t : SV), j ≠ i → ρ[j]? = some (some t) → t.mine = true → σ[j]? ≠ some (some (.ref l))) : Slots K H0 B H (σ.set i (some (.ref l))) (ρ.set i (some (.own ds))) :=
  S.setG (s := .own ds) ⟨l, vs, rfl, h0, hb, hl, r⟩ fun _ => ne
/-- the object in a slot is changed, or stands for good: the other slots -/
theorem Slots.others (S : Slots K H0 B H σ ρ) {i : Nat} {l : Addr} {s s' : SV} {o : HO} {B' H' : Hp} (hi : ρ[i]? = some (some s)) (m : s.mine = true) (hs : σ[i]? = some (some (.ref l))) (hb : B l = none) (eB : B' = B ∨ B' = upd B l o) (eH : ∀ a, a ≠ l → H' a = H a)
    (ex0 : Ex H0 H') (ex : Ex B' H') (new : SlotOk K H0 B' H' (.ref l) s') : Slots K H0 B' H' σ (ρ.set i (some s')) := by
  have hil := (List.getElem?_eq_some_iff.mp hi).1
  have look : ∀ (j : Nat) (t : SV), (ρ.set i (some s'))[j]? = some (some t) → (j = i ∧ t = s') ∨ (j ≠ i ∧ ρ[j]? = some (some t)) := fun j t q => by
    by_cases c : i = j
    · subst c
      rw [List.getElem?_set_self hil] at q
      exact .inl ⟨rfl, (Option.some.inj (Option.some.inj q)).symm⟩
    · rw [List.getElem?_set_ne c] at q
      exact .inr ⟨fun z => c z.symm, q⟩
  refine ⟨by rw [List.length_set]; exact S.len, ex0, ex, fun j t q => ?_, fun j k sj sk w q1 q2 m1 m2 q3 q4 => ?_⟩
  · rcases look j t q with ⟨rfl, rfl⟩ | ⟨c, q⟩
    · exact ⟨.ref l, hs, new⟩
    · obtain ⟨w, hw, ok⟩ := S.ok j t q
      exact ⟨w, hw, ok.off (fun mt e => c ((S.ap i j s t (.ref l) hi q m mt hs (by rw [hw, e])).symm)) hb eB eH⟩
  · have un : ∀ (j : Nat) (t : SV), (ρ.set i (some s'))[j]? = some (some t) → t.mine = true → ∃ t0, ρ[j]? = some (some t0) ∧ t0.mine = true := fun j t q mt => by
      rcases look j t q with ⟨rfl, rfl⟩ | ⟨c, q⟩
      · exact ⟨s, hi, m⟩
      · exact ⟨t, q, mt⟩
    obtain ⟨tj, a1, a2⟩ := un j sj q1 m1
    obtain ⟨tk, b1, b2⟩ := un k sk q2 m2
    exact S.ap j k tj tk w a1 b1 a2 b2 q3 q4
/-- a list of ours is changed -/
theorem Slots.upO (S : Slots K H0 B H σ ρ) {i : Nat} {l : Addr} {ds0 : List D} {vs : List V} {ds : List D} (hi : ρ[i]? = some (some (.own ds0))) (hs : σ[i]? = some (some (.ref l))) (r : Reps K B vs ds) :
    Slots K H0 B (upd H l (.lst vs)) σ (ρ.set i (some (.own ds))) := by
  obtain ⟨v, h1, l', vs0, e1, h0, hb, hl, r0⟩ := S.ok i _ hi
  rw [hs] at h1
  have e2 := Option.some.inj (Option.some.inj h1)
  rw [e1] at e2
  cases e2
  exact S.others (o := .lst vs) hi rfl hs hb (.inl rfl) (fun a ha => upd_ne ha) (fun a u q => by rw [upd_ne (ne_of_none q h0)]; exact S.ex0 a u q) (fun a u q => by rw [upd_ne (ne_of_none q hb)]; exact S.ex a u q) ⟨l, vs, rfl, h0, hb, upd_same, r⟩
/-- an object of ours is changed -/
theorem Slots.upF (S : Slots K H0 B H σ ρ) {i : Nat} {l C dx : Addr} {fs0 : List (Str × D)} {fv : List (Str × V)} {fs : List (Str × D)} (hi : ρ[i]? = some (some (.obj l C fs0))) (r : RepF K B fv fs) :
    Slots K H0 B (upd H l (.ins C dx fv)) σ (ρ.set i (some (.obj l C fs))) := by
  obtain ⟨v, hs, dx', vs0, e1, h0, hb, hl, r0⟩ := S.ok i _ hi
  subst e1
  exact S.others (o := .ins C dx fv) hi rfl hs hb (.inl rfl) (fun a ha => upd_ne ha) (fun a u q => by rw [upd_ne (ne_of_none q h0)]; exact S.ex0 a u q) (fun a u q => by rw [upd_ne (ne_of_none q hb)]; exact S.ex a u q) ⟨dx, fv, rfl, h0, hb, upd_same, r⟩
/-- a slot's list stands for good from now on -/
theorem Slots.freeze (S : Slots K H0 B H σ ρ) {i : Nat} {ds : List D} (hi : ρ[i]? = some (some (.own ds))) : ∃ B', Ex B B' ∧ (∀ a o, H0 a = some o → B a = none → B' a = none) ∧ Slots K H0 B' H σ (ρ.set i (some (.d (.lst ds)))) := by
  obtain ⟨v, hs, l, vs, e, h0, hb, hl, r⟩ := S.ok i _ hi
  subst e
  have eB : Ex B (upd B l (.lst vs)) := Ex.new hb
  refine ⟨upd B l (.lst vs), eB, fun a o q1 q2 => by rw [upd_ne (ne_of_none q1 h0)]; exact q2, S.others (o := .lst vs) hi rfl hs hb (.inr rfl) (fun _ _ => rfl) S.ex0 (fun a u q => ?_) (Rep.lst upd_same (r.mono eB))⟩
  by_cases c : a = l
  · subst c
    rw [upd_same] at q
    rw [hl]
    exact q
  · rw [upd_ne c] at q
    exact S.ex a u q
/-- a slot's object stands for good from now on -/
theorem Slots.freezeF (S : Slots K H0 B H σ ρ) {i : Nat} {l C : Addr} {fs : List (Str × D)} (hi : ρ[i]? = some (some (.obj l C fs))) : ∃ B', Ex B B' ∧ (∀ a o, H0 a = some o → B a = none → B' a = none) ∧ Slots K H0 B' H σ (ρ.set i (some (.d (.ins C fs)))) := by
  obtain ⟨v, hs, dx, vs, e, h0, hb, hl, r⟩ := S.ok i _ hi
  subst e
  have eB : Ex B (upd B l (.ins C dx vs)) := Ex.new hb
  refine ⟨upd B l (.ins C dx vs), eB, fun a o q1 q2 => by rw [upd_ne (ne_of_none q1 h0)]; exact q2, S.others (o := .ins C dx vs) hi rfl hs hb (.inr rfl) (fun _ _ => rfl) S.ex0 (fun a u q => ?_) (Rep.ins upd_same (r.mono eB))⟩
  by_cases c : a = l
  · subst c
    rw [upd_same] at q
    rw [hl]
    exact q
  · rw [upd_ne c] at q
    exact S.ex a u q
/-- what is forgotten -/
def Le (ρ' ρ : En) : Prop := ρ'.length = ρ.length ∧ ∀ (i : Nat) (s : SV), ρ'[i]? = some (some s) → ρ[i]? = some (some s)
theorem Le.refl (ρ : En) : Le ρ ρ := ⟨rfl, fun _ _ h => h⟩
theorem Slots.le {ρ' : En} (S : Slots K H0 B H σ ρ) (e : Le ρ' ρ) : Slots K H0 B H σ ρ' :=
  ⟨S.len.trans e.1.symm, S.ex0, S.ex, fun i s h => S.ok i s (e.2 i s h), fun i j si sj v h1 h2 => S.ap i j si sj v (e.2 _ _ h1) (e.2 _ _ h2)⟩
end
end Cs

namespace Cs
open PySem PySem.Spec PyProof.Rows L2 Evl

/-! ### what an expression is worth in an environment of data -/
section
variable (K : PySem.W.Frag)
def EvD (te : TE) (ρ : En) (d : D) : Prop := ∀ H0 B H σ, Slots K H0 B H σ ρ → ∀ Q : VK, (∀ v B' H', Go B H B' H' → Rep K B' v d → Q v H') → te σ H Q
/-- a new list, nobody else's -/
def EvO (te : TE) (ρ : En) (ds : List D) : Prop := ∀ H0 B H σ, Slots K H0 B H σ ρ → ∀ Q : VK, (∀ p B' H' vs, Go B H B' H' → H p = none → B' p = none → H' p = some (.lst vs) → Reps K B' vs ds → Q (.ref p) H') → te σ H Q
/-- some list that is to be read -/
def EvL (te : TE) (ρ : En) (ds : List D) : Prop := ∀ H0 B H σ, Slots K H0 B H σ ρ → ∀ Q : VK, (∀ p B' H' vs, Go B H B' H' → H' p = some (.lst vs) → Reps K B' vs ds → Q (.ref p) H') → te σ H Q
def EvT (tt : TT) (ρ : En) (b : Bool) : Prop := ∀ H0 B H σ, Slots K H0 B H σ ρ → ∀ Q : Bool → Hp → Prop, (∀ B' H', Go B H B' H' → Q b H') → tt σ H Q
def EvA (ta : TA) (ρ : En) (ds : List D) : Prop := ∀ H0 B H σ, Slots K H0 B H σ ρ → ∀ Q : List V → Hp → Prop, (∀ vs B' H', Go B H B' H' → Reps K B' vs ds → Q vs H') → ta σ H Q
def EvP (to : TO) (ρ : En) (o : Option Int) : Prop := ∀ H0 B H σ, Slots K H0 B H σ ρ → ∀ Q : Option Int → Hp → Prop, (∀ B' H', Go B H B' H' → Q o H') → to σ H Q
/-- by values: an operation, a call -/
def OpD (r : R2) (x y : D) (z : D) : Prop := ∀ B H v u, Ex B H → Rep K B v x → Rep K B u y → ∀ Q : VK, (∀ w B' H', Go B H B' H' → Rep K B' w z → Q w H') → r v u H Q
def UnD (r : V → Hp → VK → Prop) (x z : D) : Prop := ∀ B H v, Ex B H → Rep K B v x → ∀ Q : VK, (∀ w B' H', Go B H B' H' → Rep K B' w z → Q w H') → r v H Q
def CaD (r : List V → Hp → VK → Prop) (xs : List D) (z : D) : Prop := ∀ B H vs, Ex B H → Reps K B vs xs → ∀ Q : VK, (∀ w B' H', Go B H B' H' → Rep K B' w z → Q w H') → r vs H Q
end
section
variable {K : PySem.W.Frag} {ρ : En} {ta tb tc te : TE} {tt tu : TT} {a b c d x y z : D} {r : R2} {i : Nat}

theorem EvO.toD {ds : List D} (h : EvO K te ρ ds) : EvD K te ρ (.lst ds) := fun H0 B H σ S Q q => h H0 B H σ S _ fun p B' H' vs g hp hb hl r =>
  q (.ref p) (upd B' p (.lst vs)) H' (g.freeze hp hb hl) (.lst upd_same (r.mono (Ex.new hb)))
theorem EvO.toL {ds : List D} (h : EvO K te ρ ds) : EvL K te ρ ds := fun H0 B H σ S Q q => h H0 B H σ S _ fun p B' H' vs g _ _ hl r => q p B' H' vs g hl r
theorem EvD.toL {ds : List D} (h : EvD K te ρ (.lst ds)) : EvL K te ρ ds := fun H0 B H σ S Q q => h H0 B H σ S _ fun v B' H' g r => by
  cases r with
  | lst hb r => exact q _ B' H' _ g (g.bh _ _ hb) r
theorem evl_own {ds : List D} (h : ρ[i]? = some (some (.own ds))) : EvL K (tVar i) ρ ds := fun H0 B H σ S Q q => by
  obtain ⟨v, h1, l, vs, e, h0, hb, hl, r⟩ := S.ok i _ h
  subst e
  exact ⟨.ref l, h1, q l B H vs (Go.refl S.ex) hl r⟩
theorem ev_var (h : ρ[i]? = some (some (.d d))) : EvD K (tVar i) ρ d := fun H0 B H σ S Q q => by
  obtain ⟨v, h1, h2⟩ := S.ok i _ h
  exact ⟨v, h1, q v B H (Go.refl S.ex) h2⟩
theorem ev_int {n : Int} : EvD K (tC (.int n)) ρ (.int n) := fun H0 B H σ S Q q => q _ B H (Go.refl S.ex) (.int n)
theorem ev_bl {n : Bool} : EvD K (tC (.bl n)) ρ (.bl n) := fun H0 B H σ S Q q => q _ B H (Go.refl S.ex) (.bl n)
theorem ev_str {n : Str} : EvD K (tC (.str n)) ρ (.str n) := fun H0 B H σ S Q q => q _ B H (Go.refl S.ex) (.str n)
theorem ev_non : EvD K (tC .non) ρ .non := fun H0 B H σ S Q q => q _ B H (Go.refl S.ex) .non
/-- a written tuple of the top -/
theorem ev_ctup {p : Addr} {vs : List V} {ds : List D} (h : ∀ B, SqT K B p vs) (r : ∀ B, Reps K B vs ds) : EvD K (tC (.ref p)) ρ (.tup ds) := fun H0 B H σ S Q q => q _ B H (Go.refl S.ex) (.tup (h B) (r B))
theorem ev_is (h : EvD K te ρ a) (e : a = b) : EvD K te ρ b := e ▸ h

theorem evo_is {xs ys : List D} (h : EvO K te ρ xs) (e : xs = ys) : EvO K te ρ ys := e ▸ h
theorem ev_op (ha : EvD K ta ρ a) (hb : EvD K tb ρ b) (hr : OpD K r a b c) : EvD K (tOp r ta tb) ρ c := fun H0 B H σ S Q q =>
  ha H0 B H σ S _ fun v B1 H1 g1 r1 => hb H0 B1 H1 σ (S.go g1) _ fun u B2 H2 g2 r2 => hr B2 H2 v u g2.bh (r1.mono g2.bb) r2 Q fun w B3 H3 g3 r3 => q w B3 H3 ((g1.trans g2).trans g3) r3
theorem ev_un {f : V → Hp → VK → Prop} (ha : EvD K ta ρ a) (hr : UnD K f a c) : EvD K (tUn f ta) ρ c := fun H0 B H σ S Q q =>
  ha H0 B H σ S _ fun v B1 H1 g1 r1 => hr B1 H1 v g1.bh r1 Q fun w B3 H3 g3 r3 => q w B3 H3 (g1.trans g3) r3
theorem ev_cb {f : List V → Hp → VK → Prop} {t : TA} {ds : List D} (ha : EvA K t ρ ds) (hr : CaD K f ds c) : EvD K (tCB f t) ρ c := fun H0 B H σ S Q q =>
  ha H0 B H σ S _ fun v B1 H1 g1 r1 => hr B1 H1 v g1.bh r1 Q fun w B3 H3 g3 r3 => q w B3 H3 (g1.trans g3) r3
theorem ea_nil : EvA K tNil ρ [] := fun H0 B H σ S Q q => q [] B H (Go.refl S.ex) .nil
theorem ea_cons {t : TA} {ds : List D} (ha : EvD K ta ρ a) (ht : EvA K t ρ ds) : EvA K (tCons ta t) ρ (a :: ds) := fun H0 B H σ S Q q =>
  ha H0 B H σ S _ fun v B1 H1 g1 r1 => ht H0 B1 H1 σ (S.go g1) _ fun vs B2 H2 g2 r2 => q (v :: vs) B2 H2 (g1.trans g2) (.cons (r1.mono g2.bb) r2)
theorem ev_tup {t : TA} {ds : List D} (h : EvA K t ρ ds) (hl : ds.length ≤ sizeLine) : EvD K (tTup t) ρ (.tup ds) := fun H0 B H σ S Q q =>
  h H0 B H σ S _ fun vs B1 H1 g1 r1 => ⟨by rw [r1.len]; exact hl, fun p hp => q (.ref p) _ _ (g1.trans (Go.new g1.bh hp)) (.tup (st_of upd_same) (r1.mono (Ex.new (none_of_ex g1.bh hp))))⟩
theorem evo_lst {t : TA} {ds : List D} (h : EvA K t ρ ds) (hl : ds.length ≤ sizeLine) : EvO K (tLst t) ρ ds := fun H0 B H σ S Q q =>
  h H0 B H σ S _ fun vs B1 H1 g1 r1 => ⟨by rw [r1.len]; exact hl, fun p hp => q p B1 _ vs (g1.trans (Go.newO g1.bh hp)) (none_of_ex g1.hh hp) (none_of_ex g1.bh hp) upd_same r1⟩

/-! ### operations -/
theorem op_I0 {g : Int → Int → V} {m n : Int} (h : ∀ B, Rep K B (g m n) z) : OpD K (rI0 g) (.int m) (.int n) z := fun B H v u e h1 h2 Q q => by
  cases h1
  cases h2
  exact ⟨m, n, rfl, rfl, q _ B H (Go.refl e) (h B)⟩
theorem op_I {C : Int → Int → Prop} {g : Int → Int → V} {m n : Int} (hc : C m n) (h : ∀ B, Rep K B (g m n) z) : OpD K (rI C g) (.int m) (.int n) z := fun B H v u e h1 h2 Q q => by
  cases h1
  cases h2
  exact ⟨m, n, rfl, rfl, hc, q _ B H (Go.refl e) (h B)⟩
theorem OpD.left {r r' : R2} (h : OpD K r x y z) : OpD K (fun x y H Q => r x y H Q ∨ r' x y H Q) x y z := fun B H v u e h1 h2 Q q => .inl (h B H v u e h1 h2 Q q)
theorem OpD.right {r r' : R2} (h : OpD K r' x y z) : OpD K (fun x y H Q => r x y H Q ∨ r' x y H Q) x y z := fun B H v u e h1 h2 Q q => .inr (h B H v u e h1 h2 Q q)
/-- + -/
def rAddS : R2 := fun x y H Q => ∃ i j, x = .str i ∧ y = .str j ∧ i.length + j.length ≤ sizeLine ∧ Q (.str (i ++ j)) H
def rPlus (K : PySem.W.Frag) : R2 := fun x y H Q => rI0 (fun i j => .int (i + j)) x y H Q ∨ (rAddS x y H Q ∨ (rCat x y H Q ∨ rCatT K x y H Q))
theorem op_plus {X : Cx} : OpR X (binaryOp .Add) (rPlus X.K) := op_add.or (op_add_str.or (op_cat.or op_catT))
theorem ev_add {m n : Int} (ha : EvD K ta ρ (.int m)) (hb : EvD K tb ρ (.int n)) : EvD K (tOp (rPlus K) ta tb) ρ (.int (m + n)) := ev_op ha hb (OpD.left (op_I0 fun B => .int _))
theorem ev_addS {s t : Str} (ha : EvD K ta ρ (.str s)) (hb : EvD K tb ρ (.str t)) (hl : s.length + t.length ≤ sizeLine) : EvD K (tOp (rPlus K) ta tb) ρ (.str (s ++ t)) := ev_op ha hb (OpD.right (OpD.left fun B H v u e h1 h2 Q q => by
  cases h1
  cases h2
  exact ⟨s, t, rfl, rfl, hl, q _ B H (Go.refl e) (.str _)⟩))
/-- two lists, tuples -/
theorem evo_cat {xs ys : List D} (ha : EvL K ta ρ xs) (hb : EvL K tb ρ ys) (hl : xs.length + ys.length ≤ sizeLine) : EvO K (tOp (rPlus K) ta tb) ρ (xs ++ ys) := fun H0 B H σ S Q q =>
  ha H0 B H σ S _ fun p B1 H1 vs g1 h1 r1 => hb H0 B1 H1 σ (S.go g1) _ fun p2 B2 H2 us g2 h2 r2 => by
    refine .inr (.inr (.inl ⟨p, p2, vs, us, rfl, rfl, g2.hh p _ h1, h2, by rw [r1.len, r2.len]; exact hl, fun l hl => ?_⟩))
    exact q l B2 _ (vs ++ us) ((g1.trans g2).trans (Go.newO g2.bh hl)) (none_of_ex (g1.trans g2).hh hl) (none_of_ex g2.bh hl) upd_same ((r1.mono g2.bb).app r2)
theorem ev_catT {xs ys : List D} (ha : EvD K ta ρ (.tup xs)) (hb : EvD K tb ρ (.tup ys)) (h1 : xs ≠ []) (h2 : ys ≠ []) (hl : xs.length + ys.length ≤ sizeLine)
    (hx : ∀ (a b : Addr) (vs us : List V) (H : Hp) (Q : VK), SqT K H a vs → SqT K H b us → vs ≠ [] → us ≠ [] → vs.length + us.length ≤ sizeLine → (∀ p, H p = none → Q (.ref p) (upd H p (.tup (vs ++ us)))) → rCatT K (.ref a) (.ref b) H Q) :
    EvD K (tOp (rPlus K) ta tb) ρ (.tup (xs ++ ys)) := ev_op ha hb (OpD.right (OpD.right (OpD.right fun B H v u e r1 r2 Q q => by
  cases r1 with
  | tup s1 q1 =>
    cases r2 with
    | tup s2 q2 =>
      refine hx _ _ _ _ H Q (ex_t e s1) (ex_t e s2) (fun z => h1 ?_) (fun z => h2 ?_) (by rw [q1.len, q2.len]; exact hl) fun p hp => ?_
      · subst z
        cases q1
        rfl
      · subst z
        cases q2
        rfl
      · exact q (.ref p) _ _ (Go.new e hp) (.tup (st_of upd_same) ((q1.app q2).mono (Ex.new (none_of_ex e hp)))))))
theorem ev_sub {m n : Int} (ha : EvD K ta ρ (.int m)) (hb : EvD K tb ρ (.int n)) : EvD K (tOp (rI0 fun i j => .int (i - j)) ta tb) ρ (.int (m - n)) := ev_op ha hb (op_I0 fun B => .int _)
theorem ev_mod {m n : Int} (ha : EvD K ta ρ (.int m)) (hb : EvD K tb ρ (.int n)) (h : 0 < n) : EvD K (tOp (rI (fun _ j => 0 < j) fun i j => .int (i % j)) ta tb) ρ (.int (m % n)) := ev_op ha hb (op_I h fun B => .int _)
theorem ev_pow {m n : Int} (ha : EvD K ta ρ (.int m)) (hb : EvD K tb ρ (.int n)) (h : CPow m n) : EvD K (tOp (rI CPow fun i j => .int (i ^ j.toNat)) ta tb) ρ (.int (m ^ n.toNat)) := ev_op ha hb (op_I h fun B => .int _)
theorem ev_neg {m : Int} (ha : EvD K ta ρ (.int m)) : EvD K (tUn (rU fun i => .int (-i)) ta) ρ (.int (-m)) := ev_un ha fun B H v e h Q q => by
  cases h
  exact ⟨m, rfl, q _ B H (Go.refl e) (.int _)⟩
theorem ev_cmp {f : Int → Int → Bool} {m n : Int} (ha : EvD K ta ρ (.int m)) (hb : EvD K tb ρ (.int n)) : EvD K (tOp (rI0 fun i j => .bl (f i j)) ta tb) ρ (.bl (f m n)) := ev_op ha hb (op_I0 fun B => .bl _)
/-- is None -/
def rIsN : R2 := fun x y H Q => y = .non ∧ Q (.bl (decide (x = .non))) H
def rNotN : R2 := fun x y H Q => y = .non ∧ Q (.bl (!decide (x = .non))) H
theorem op_isN1 {X : Cx} : OpR X (compareOp .Is) rIsN := op_isN
theorem op_notN1 {X : Cx} : OpR X (compareOp .IsNot) rNotN := op_notN
def D.isNon : D → Bool
  | .non => true
  | _ => false
theorem Rep.isNon {B : Hp} {v : V} (h : Rep K B v d) : decide (v = .non) = d.isNon := by
  cases h <;> first | rfl | exact decide_eq_false (by intro h; cases h)
theorem ev_isN (ha : EvD K ta ρ a) : EvD K (tOp rIsN ta (tC .non)) ρ (.bl a.isNon) := ev_op ha ev_non fun B H v u e h1 h2 Q q => by
  cases h2
  exact ⟨rfl, q _ B H (Go.refl e) (by rw [h1.isNon]; exact .bl _)⟩
theorem ev_notN (ha : EvD K ta ρ a) : EvD K (tOp rNotN ta (tC .non)) ρ (.bl (!a.isNon)) := ev_op ha ev_non fun B H v u e h1 h2 Q q => by
  cases h2
  exact ⟨rfl, q _ B H (Go.refl e) (by rw [h1.isNon]; exact .bl _)⟩
/-- chains -/
theorem ev_chain {r' : R2} {k : Bool} (ha : EvD K ta ρ a) (hb : EvD K tb ρ b) (hc : EvD K tc ρ c) (h1 : OpD K r a b (.bl k)) (h2 : k = true → OpD K r' b c d) (h3 : k = false → d = .bl false) : EvD K (tChain r r' ta tb tc) ρ d := fun H0 B H σ S Q q =>
  ha H0 B H σ S _ fun v B1 H1 g1 r1 => hb H0 B1 H1 σ (S.go g1) _ fun u B2 H2 g2 r2 => h1 B2 H2 v u g2.bh (r1.mono g2.bb) r2 _ fun w B3 H3 g3 r3 => by
    cases r3
    refine ⟨k, rfl, ?_⟩
    cases k with
    | true =>
      refine iteT ?_
      refine hc H0 B3 H3 σ (S.go ((g1.trans g2).trans g3)) _ fun w' B4 H4 g4 r4 => ?_
      exact h2 rfl B4 H4 u w' g4.bh (r2.mono (g3.trans g4).bb) r4 Q fun w B5 H5 g5 r5 => q w B5 H5 (((g1.trans g2).trans g3).trans (g4.trans g5)) r5
    | false =>
      refine iteF ?_
      rw [h3 rfl] at q
      exact q _ B3 H3 ((g1.trans g2).trans g3) (.bl _)
theorem ev_chainI {f f' : Int → Int → Bool} {l m n : Int} (ha : EvD K ta ρ (.int l)) (hb : EvD K tb ρ (.int m)) (hc : EvD K tc ρ (.int n)) :
    EvD K (tChain (rI0 fun i j => .bl (f i j)) (rI0 fun i j => .bl (f' i j)) ta tb tc) ρ (.bl (f l m && f' m n)) := by
  refine ev_chain (k := f l m) ha hb hc (op_I0 fun B => .bl _) (fun h => ?_) (fun h => by rw [h] <;> rfl)
  rw [h]
  exact op_I0 fun B => .bl _
/-- and, or, not as values -/
theorem ev_and {p q : Bool} (ha : EvD K ta ρ (.bl p)) (hb : p = true → EvD K tb ρ (.bl q)) : EvD K (tAndV ta tb) ρ (.bl (p && q)) := fun H0 B H σ S Q k => ha H0 B H σ S _ fun v B1 H1 g1 r1 => by
  cases r1
  refine ⟨p, rfl, ?_⟩
  cases p with
  | true => exact iteT (hb rfl H0 B1 H1 σ (S.go g1) Q fun w B2 H2 g2 r2 => k w B2 H2 (g1.trans g2) r2)
  | false => exact iteF (k _ B1 H1 g1 (.bl _))
theorem ev_or {p q : Bool} (ha : EvD K ta ρ (.bl p)) (hb : p = false → EvD K tb ρ (.bl q)) : EvD K (tOrV ta tb) ρ (.bl (p || q)) := fun H0 B H σ S Q k => ha H0 B H σ S _ fun v B1 H1 g1 r1 => by
  cases r1
  refine ⟨p, rfl, ?_⟩
  cases p with
  | true => exact iteT (k _ B1 H1 g1 (.bl _))
  | false => exact iteF (hb rfl H0 B1 H1 σ (S.go g1) Q fun w B2 H2 g2 r2 => k w B2 H2 (g1.trans g2) r2)
theorem ev_not {p : Bool} (ha : EvD K ta ρ (.bl p)) : EvD K (tNotV ta) ρ (.bl (!p)) := fun H0 B H σ S Q k => ha H0 B H σ S _ fun v B1 H1 g1 r1 => by
  cases r1
  exact ⟨p, rfl, k _ B1 H1 g1 (.bl _)⟩
/-- tests -/
theorem et_is {p q : Bool} (h : EvT K tt ρ p) (e : p = q) : EvT K tt ρ q := e ▸ h
theorem et_test {p : Bool} (h : EvD K te ρ (.bl p)) : EvT K (tTest te) ρ p := fun H0 B H σ S Q k => h H0 B H σ S _ fun v B1 H1 g1 r1 => by
  cases r1
  exact ⟨p, rfl, k B1 H1 g1⟩
theorem et_B {p : Bool} (h : EvD K te ρ (.bl p)) : EvT K (tB te) ρ p := fun H0 B H σ S Q k => h H0 B H σ S _ fun v B1 H1 g1 r1 => by
  cases r1
  exact ⟨p, rfl, k B1 H1 g1⟩
theorem et_not {p : Bool} (h : EvT K tt ρ p) : EvT K (tNot tt) ρ (!p) := fun H0 B H σ S Q k => h H0 B H σ S _ fun B1 H1 g1 => k B1 H1 g1
theorem et_and {p q : Bool} (ha : EvT K tt ρ p) (hb : p = true → EvT K tu ρ q) : EvT K (tAnd tt tu) ρ (p && q) := fun H0 B H σ S Q k => ha H0 B H σ S _ fun B1 H1 g1 => by
  cases p with
  | true => exact iteT (hb rfl H0 B1 H1 σ (S.go g1) Q fun B2 H2 g2 => k B2 H2 (g1.trans g2))
  | false => exact iteF (k B1 H1 g1)
theorem et_or {p q : Bool} (ha : EvT K tt ρ p) (hb : p = false → EvT K tu ρ q) : EvT K (tOr tt tu) ρ (p || q) := fun H0 B H σ S Q k => ha H0 B H σ S _ fun B1 H1 g1 => by
  cases p with
  | true => exact iteT (k B1 H1 g1)
  | false => exact iteF (hb rfl H0 B1 H1 σ (S.go g1) Q fun B2 H2 g2 => k B2 H2 (g1.trans g2))
theorem et_yes : EvT K tYes ρ true := fun H0 B H σ S Q k => k B H (Go.refl S.ex)
theorem ev_if {p : Bool} (h : EvT K tt ρ p) (h1 : p = true → EvD K ta ρ d) (h2 : p = false → EvD K tb ρ d) : EvD K (tIf tt ta tb) ρ d := fun H0 B H σ S Q k => h H0 B H σ S _ fun B1 H1 g1 => by
  cases p with
  | true => exact iteT (h1 rfl H0 B1 H1 σ (S.go g1) Q fun w B2 H2 g2 r => k w B2 H2 (g1.trans g2) r)
  | false => exact iteF (h2 rfl H0 B1 H1 σ (S.go g1) Q fun w B2 H2 g2 r => k w B2 H2 (g1.trans g2) r)

/-! ### subscripts, lengths -/
theorem atI_getD {α : Type} {xs : List α} {n : Int} {j : Nat} (e : n = (j : Int)) (hj : j < xs.length) : atI xs n = xs[j]? := by
  subst e
  cases h : xs[j]? with
  | none => rw [List.getElem?_eq_none_iff] at h; omega
  | some v => exact atI_nat h
theorem atI_repl {B : Hp} {vs : List V} {ds : List D} {n : Int} (r : Reps K B vs ds) (h : atI ds n = some d) : ∃ v, atI vs n = some v ∧ Rep K B v d := by
  unfold atI at h ⊢
  rw [r.len]
  cases e : ixN ds.length n with
  | none => rw [e] at h; cases h
  | some j =>
    rw [e] at h
    exact r.get h
theorem ev_ixT {ds : List D} {n : Int} (ha : EvD K ta ρ (.tup ds)) (hb : EvD K tb ρ (.int n)) (h : atI ds n = some d) : EvD K (tOp (rIx K) ta tb) ρ d := ev_op ha hb fun B H v u e r1 r2 Q q => by
  cases r2
  cases r1 with
  | tup s r =>
    obtain ⟨w, h1, h2⟩ := atI_repl r h
    exact .inr (.inl ⟨_, _, n, w, rfl, rfl, ex_t e s, h1, q w B H (Go.refl e) h2⟩)
theorem ev_ixL {ds : List D} {n : Int} (ha : EvL K ta ρ ds) (hb : EvD K tb ρ (.int n)) (h : atI ds n = some d) : EvD K (tOp (rIx K) ta tb) ρ d := fun H0 B H σ S Q q =>
  ha H0 B H σ S _ fun p B1 H1 vs g1 h1 r1 => hb H0 B1 H1 σ (S.go g1) _ fun u B2 H2 g2 r2 => by
    cases r2
    obtain ⟨w, k1, k2⟩ := atI_repl (r1.mono g2.bb) h
    exact .inl ⟨p, vs, n, w, rfl, rfl, sq_of (g2.hh _ _ h1), k1, q w B2 H2 (g1.trans g2) k2⟩
theorem ev_ixS {s : Str} {n : Int} {k : Nat} (ha : EvD K ta ρ (.str s)) (hb : EvD K tb ρ (.int n)) (hz : s.length ≤ sizeLine) (h : atI s.cps.toList n = some k) : EvD K (tOp (rIx K) ta tb) ρ (.str ⟨#[k]⟩) := ev_op ha hb fun B H v u e r1 r2 Q q => by
  cases r2
  cases r1
  exact .inr (.inr ⟨s, n, k, rfl, rfl, hz, h, q _ B H (Go.refl e) (.str _)⟩)
def rLenX (K : PySem.W.Frag) : List V → Hp → VK → Prop := fun xs H Q => ∃ x n, xs = [x] ∧ LenV K x H n ∧ Q (.int n) H
theorem ev_lenL {ds : List D} (ha : EvL K ta ρ ds) : EvD K (tCB (rLenX K) (tCons ta tNil)) ρ (.int ds.length) := fun H0 B H σ S Q q =>
  ha H0 B H σ S _ fun p B1 H1 vs g1 h1 r1 => ⟨.ref p, vs.length, rfl, .inl ⟨_, sq_of h1, rfl⟩, q _ B1 H1 g1 (by rw [r1.len]; exact .int _)⟩
theorem ev_lenT {ds : List D} (ha : EvD K ta ρ (.tup ds)) : EvD K (tCB (rLenX K) (tCons ta tNil)) ρ (.int ds.length) := fun H0 B H σ S Q q =>
  ha H0 B H σ S _ fun v B1 H1 g1 r1 => by
    cases r1 with
    | tup s r => exact ⟨_, _, rfl, .inr ⟨_, ex_t g1.bh s, rfl⟩, q _ B1 H1 g1 (by rw [r.len]; exact .int _)⟩
theorem ev_lenS {s : Str} (ha : EvD K ta ρ (.str s)) (hz : s.length ≤ sizeLine) : EvD K (tCB (rLenX K) (tCons ta tNil)) ρ (.int s.length) := fun H0 B H σ S Q q =>
  ha H0 B H σ S _ fun v B1 H1 g1 r1 => by
    cases r1
    exact ⟨_, s.length, rfl, ⟨hz, rfl⟩, q _ B1 H1 g1 (.int _)⟩
theorem ca_abs {n : Int} : CaD K (fun xs H Q => ∃ i, xs = [.int i] ∧ Q (.int (if i < 0 then -i else i)) H) [.int n] (.int (if n < 0 then -n else n)) := fun B H vs e r Q q => by
  obtain ⟨⟩ | ⟨r1, r2⟩ := r
  cases r1
  cases r2
  exact ⟨n, rfl, q _ B H (Go.refl e) (.int _)⟩
theorem ca_int {n : Int} : CaD K (fun xs H Q => (∃ i, xs = [.int i] ∧ Q (.int i) H) ∨ ∃ k, xs = [.bl k] ∧ Q (.int (if k then 1 else 0)) H) [.int n] (.int n) := fun B H vs e r Q q => by
  obtain ⟨⟩ | ⟨r1, r2⟩ := r
  cases r1
  cases r2
  exact .inl ⟨n, rfl, q _ B H (Go.refl e) (.int _)⟩
theorem ca_max2 {m n : Int} : CaD K (fun xs H Q => ∃ i j, xs = [.int i, .int j] ∧ Q (.int (if j > i then j else i)) H) [.int m, .int n] (.int (if n > m then n else m)) := fun B H vs e r Q q => by
  obtain ⟨⟩ | ⟨r1, r2⟩ := r
  obtain ⟨⟩ | ⟨r3, r4⟩ := r2
  cases r1
  cases r3
  cases r4
  exact ⟨m, n, rfl, q _ B H (Go.refl e) (.int _)⟩
theorem ca_min2 {m n : Int} : CaD K (fun xs H Q => ∃ i j, xs = [.int i, .int j] ∧ Q (.int (if j < i then j else i)) H) [.int m, .int n] (.int (if n < m then n else m)) := fun B H vs e r Q q => by
  obtain ⟨⟩ | ⟨r1, r2⟩ := r
  obtain ⟨⟩ | ⟨r3, r4⟩ := r2
  cases r1
  cases r3
  cases r4
  exact ⟨m, n, rfl, q _ B H (Go.refl e) (.int _)⟩
theorem ev_sum {ns : List Int} (ha : EvL K ta ρ (ns.map D.int)) : EvD K (tCB (rSum K) (tCons ta tNil)) ρ (.int ns.sum) := fun H0 B H σ S Q q =>
  ha H0 B H σ S _ fun p B1 H1 vs g1 h1 r1 => ⟨p, ns, rfl, by rw [← r1.ints]; exact sq_of h1, q _ B1 H1 g1 (.int _)⟩
theorem ev_all {bs : List Bool} (ha : EvL K ta ρ (bs.map D.bl)) : EvD K (tCB (rAll K) (tCons ta tNil)) ρ (.bl (bs.all id)) := fun H0 B H σ S Q q =>
  ha H0 B H σ S _ fun p B1 H1 vs g1 h1 r1 => ⟨p, bs, rfl, by rw [← r1.bools]; exact sq_of h1, q _ B1 H1 g1 (.bl _)⟩
theorem ev_any {bs : List Bool} (ha : EvL K ta ρ (bs.map D.bl)) : EvD K (tCB (rAny K) (tCons ta tNil)) ρ (.bl (bs.any id)) := fun H0 B H σ S Q q =>
  ha H0 B H σ S _ fun p B1 H1 vs g1 h1 r1 => ⟨p, bs, rfl, by rw [← r1.bools]; exact sq_of h1, q _ B1 H1 g1 (.bl _)⟩
/-- a field -/
theorem ev_fld {C : Addr} {fs : List (Str × D)} {f : Str} (ha : EvD K ta ρ (.ins C fs)) (hc : Cls K C) (hn : NoAttr K C f) (h : fs.lookup f = some d) : EvD K (tFld K ta f) ρ d := fun H0 B H σ S Q q =>
  ha H0 B H σ S _ fun v B1 H1 g1 r1 => by
    cases r1 with
    | ins hb r =>
      obtain ⟨w, h1, h2⟩ := r.look h
      exact ⟨_, C, _, _, w, rfl, g1.bh _ _ hb, hc, hn, h1, q w B1 H1 g1 h2⟩

/-- the script -/
theorem ev_lenScr {ns : List Int} (ha : EvD K ta ρ (.scr ns)) : EvD K (tCB (rLenX K) (tCons ta tNil)) ρ (.int ns.length) := fun H0 B H σ S Q q =>
  ha H0 B H σ S _ fun v B1 H1 g1 r1 => by
    cases r1 with
    | scr s => exact ⟨_, _, rfl, .inl ⟨_, ex_l g1.bh s, rfl⟩, q _ B1 H1 g1 (by rw [List.length_map]; exact .int _)⟩
theorem ev_ixScr {ns : List Int} {n m : Int} (ha : EvD K ta ρ (.scr ns)) (hb : EvD K tb ρ (.int n)) (h : atI ns n = some m) : EvD K (tOp (rIx K) ta tb) ρ (.int m) := ev_op ha hb fun B H v u e r1 r2 Q q => by
  cases r2
  cases r1 with
  | scr s =>
    refine .inl ⟨_, _, n, .int m, rfl, rfl, ex_l e s, ?_, q _ B H (Go.refl e) (.int m)⟩
    unfold atI at h ⊢
    rw [List.length_map]
    cases z : ixN ns.length n with
    | none => rw [z] at h; cases h
    | some j =>
      rw [z] at h
      have h' : ns[j]? = some m := h
      show (ns.map V.int)[j]? = some (.int m)
      rw [List.getElem?_map, h']
      rfl
/-! ### == of data -/
mutual
def toP : D → PyData
  | .non => .none
  | .bl b => .bool b
  | .int i => .int i
  | .str s => .str s
  | .tup ds => .tuple (toPs ds)
  | .lst ds => .list (toPs ds)
  | .ins _ _ => .none
  | .scr _ => .none
def toPs : List D → List PyData
  | [] => []
  | d :: ds => toP d :: toPs ds
end
mutual
def noIns : D → Bool
  | .ins _ _ => false
  | .scr _ => false
  | .str s => PyData.canLay0 (.str s)
  | .tup ds => noInss ds
  | .lst ds => noInss ds
  | _ => true
def noInss : List D → Bool
  | [] => true
  | d :: ds => noIns d && noInss ds
end
mutual
theorem Rep.dp {B H : Hp} (e : Ex B H) {v : V} : ∀ {d : D}, noIns d = true → Rep K B v d → Dp K H v (toP d)
  | .non, _, .non => .non
  | .bl b, _, .bl _ => .bl b
  | .int i, _, .int _ => .int i
  | .str s, _, .str _ => .str s
  | .tup ds, n, .tup h r => .tup (ex_t e h) (Reps.dp e (by unfold noIns at n; exact n) r)
  | .lst ds, n, .lst h r => .lst (sq_of (e _ _ h)) (Reps.dp e (by unfold noIns at n; exact n) r)
  | .ins C fs, n, _ => by unfold noIns at n; cases n
  | .scr ns, n, _ => by unfold noIns at n; cases n
theorem Reps.dp {B H : Hp} (e : Ex B H) {vs : List V} : ∀ {ds : List D}, noInss ds = true → Reps K B vs ds → DpAll K H vs (toPs ds)
  | [], _, .nil => .nil
  | d :: ds, n, .cons h r => by
    unfold noInss at n
    rw [Bool.and_eq_true] at n
    exact .cons (Rep.dp e n.1 h) (Reps.dp e n.2 r)
end
theorem ev_eqD (ha : EvD K ta ρ a) (hb : EvD K tb ρ b) (n1 : noIns a = true) (n2 : noIns b = true) (s1 : SeqAt.shaped (toP a) = true) (s2 : SeqAt.shaped (toP b) = true) {k : Bool} (hk : PyData.eqv (toP a) (toP b) = k) :
    EvD K (tOp (rEqD K) ta tb) ρ (.bl k) := ev_op ha hb fun B H v u e r1 r2 Q q => ⟨_, _, r1.dp e n1, r2.dp e n2, s1, s2, by rw [hk]; exact q _ B H (Go.refl e) (.bl _)⟩
theorem ev_neD (ha : EvD K ta ρ a) (hb : EvD K tb ρ b) (n1 : noIns a = true) (n2 : noIns b = true) (s1 : SeqAt.shaped (toP a) = true) (s2 : SeqAt.shaped (toP b) = true) {k : Bool} (hk : PyData.eqv (toP a) (toP b) = k) :
    EvD K (tOp (rNeD K) ta tb) ρ (.bl (!k)) := ev_op ha hb fun B H v u e r1 r2 Q q => ⟨_, _, r1.dp e n1, r2.dp e n2, s1, s2, by rw [hk]; exact q _ B H (Go.refl e) (.bl _)⟩
end
end Cs

namespace Cs
open PySem PySem.Spec PyProof.Rows L2 Evl

/-! ### what a def hands back -/
inductive Er where
  | badNumber | invalidLayout | invalidTrain | invalidRide | invalidText | notFitting | unknownName | tooLarge | coasterError | none1 | none2
  deriving DecidableEq
inductive Out where
  | ok (d : D)
  | new (ds : List D)
  | err (x : Er)
  | errF (x : Er) (f : Str) (d : D)
  | bad
/-- err: an own error without fields; errF: one whose own dict holds one field; where the classes stand: ca -/
def Pr (K : PySem.W.Frag) (ca : Er → Addr) {α : Type} (enc : α → List D) (f : α → Out) : Sp := fun vs H Q E => ∃ B a, Ex B H ∧ Reps K B vs (enc a) ∧ match f a with
  | .ok d => ∀ v B' H', Go B H B' H' → Rep K B' v d → Q v H'
  | .new ds => ∀ p B' H' us, Go B H B' H' → H p = none → B' p = none → H' p = some (.lst us) → Reps K B' us ds → Q (.ref p) H'
  | .err x => ∀ B' H', Go B H B' H' → E (.ref (ca x)) none H'
  | .errF x g d => ∀ B' H' dd v, Go B H B' H' → H' dd = some (.xd [(g, v)]) → Rep K B' v d → E (.ref (ca x)) (some dd) H'
  | .bad => False
theorem Pr.len {K : PySem.W.Frag} {ca : Er → Addr} {α : Type} {enc : α → List D} {f : α → Out} {n : Nat} (h : ∀ a, (enc a).length = n) : ∀ vs H Q E, Pr K ca enc f vs H Q E → vs.length = n := fun vs H Q E ⟨B, a, _, r, _⟩ => r.len.trans (h a)

section
variable {K : PySem.W.Frag} {ca : Er → Addr} {ρ ρ' ρ2 : En} {ta tb tc te : TE} {tt tu : TT} {a b c d x y z : D} {i : Nat}
/-! ### calls of defs -/
variable {α : Type} {enc : α → List D} {f : α → Out} {A : α} {ds : List D} {t : TA} {E : XK}
theorem ev_call (h : EvA K t ρ (enc A)) (hf : f A = .ok d) : EvD K (tCall (Pr K ca enc f) [] E t) ρ d := fun H0 B H σ S Q q => h H0 B H σ S _ fun vs B1 H1 g1 r1 => by
  refine ⟨B1, A, g1.bh, by rw [List.append_nil]; exact r1, ?_⟩
  rw [hf]
  exact fun v B2 H2 g2 r2 => q v B2 H2 (g1.trans g2) r2
theorem evo_call (h : EvA K t ρ (enc A)) (hf : f A = .new ds) : EvO K (tCall (Pr K ca enc f) [] E t) ρ ds := fun H0 B H σ S Q q => h H0 B H σ S _ fun vs B1 H1 g1 r1 => by
  refine ⟨B1, A, g1.bh, by rw [List.append_nil]; exact r1, ?_⟩
  rw [hf]
  exact fun p B2 H2 us g2 h1 h2 h3 r2 => q p B2 H2 us (g1.trans g2) (none_of_ex g1.hh h1) h2 h3 r2
theorem ev_callS {W : L2.St → XK} (h : EvA K t ρ (enc A)) (hf : f A = .ok d) : EvD K (tCallS (Pr K ca enc f) W t) ρ d := fun H0 B H σ S Q q => h H0 B H σ S _ fun vs B1 H1 g1 r1 => by
  refine ⟨B1, A, g1.bh, r1, ?_⟩
  rw [hf]
  exact fun v B2 H2 g2 r2 => q v B2 H2 (g1.trans g2) r2
/-- o.m(..) -/
theorem ev_meth {C : Addr} {fs : List (Str × D)} {m : Str} (ho : EvD K ta ρ (.ins C fs)) (hm : fs.lookup m = none) (h : EvA K t ρ ds) (he : enc A = .ins C fs :: ds) (hf : f A = .ok d) : EvD K (tMeth C m (Pr K ca enc f) [] E ta t) ρ d := fun H0 B H σ S Q q =>
  ho H0 B H σ S _ fun v B1 H1 g1 r1 => by
    cases r1 with
    | ins hb r =>
      refine ⟨_, _, _, rfl, g1.bh _ _ hb, r.lookN hm, ?_⟩
      refine h H0 B1 H1 σ (S.go g1) _ fun vs B2 H2 g2 r2 => ?_
      refine ⟨B2, A, g2.bh, by rw [he, List.append_nil]; exact .cons (Rep.mono g2.bb (.ins hb r)) r2, ?_⟩
      rw [hf]
      exact fun w B3 H3 g3 r3 => q w B3 H3 ((g1.trans g2).trans g3) r3
theorem evo_meth {C : Addr} {fs : List (Str × D)} {m : Str} {es : List D} (ho : EvD K ta ρ (.ins C fs)) (hm : fs.lookup m = none) (h : EvA K t ρ ds) (he : enc A = .ins C fs :: ds) (hf : f A = .new es) : EvO K (tMeth C m (Pr K ca enc f) [] E ta t) ρ es := fun H0 B H σ S Q q =>
  ho H0 B H σ S _ fun v B1 H1 g1 r1 => by
    cases r1 with
    | ins hb r =>
      refine ⟨_, _, _, rfl, g1.bh _ _ hb, r.lookN hm, ?_⟩
      refine h H0 B1 H1 σ (S.go g1) _ fun vs B2 H2 g2 r2 => ?_
      refine ⟨B2, A, g2.bh, by rw [he, List.append_nil]; exact .cons (Rep.mono g2.bb (.ins hb r)) r2, ?_⟩
      rw [hf]
      exact fun p B3 H3 us g3 h1 h2 h3 r3 => q p B3 H3 us ((g1.trans g2).trans g3) (none_of_ex (g1.trans g2).hh h1) h2 h3 r3

/-! ### an expression that raises -/
def EvX (K : PySem.W.Frag) (ca : Er → Addr) (E : XK) (te : TE) (ρ : En) (x : Er) : Prop := ∀ H0 B H σ, Slots K H0 B H σ ρ → (∀ B' H', Go B H B' H' → E (.ref (ca x)) none H') → ∀ Q : VK, te σ H Q
def EvXF (K : PySem.W.Frag) (ca : Er → Addr) (E : XK) (te : TE) (ρ : En) (x : Er) (g : Str) (d : D) : Prop := ∀ H0 B H σ, Slots K H0 B H σ ρ → (∀ B' H' dd v, Go B H B' H' → H' dd = some (.xd [(g, v)]) → Rep K B' v d → E (.ref (ca x)) (some dd) H') → ∀ Q : VK, te σ H Q
theorem ex_call {e : Er} (h : EvA K t ρ (enc A)) (hf : f A = .err e) : EvX K ca E (tCall (Pr K ca enc f) [] E t) ρ e := fun H0 B H σ S q Q => h H0 B H σ S _ fun vs B1 H1 g1 r1 => by
  refine ⟨B1, A, g1.bh, by rw [List.append_nil]; exact r1, ?_⟩
  rw [hf]
  exact fun B2 H2 g2 => q B2 H2 (g1.trans g2)
theorem ex_meth {e : Er} {C : Addr} {fs : List (Str × D)} {m : Str} (ho : EvD K ta ρ (.ins C fs)) (hm : fs.lookup m = none) (h : EvA K t ρ ds) (he : enc A = .ins C fs :: ds) (hf : f A = .err e) : EvX K ca E (tMeth C m (Pr K ca enc f) [] E ta t) ρ e := fun H0 B H σ S q Q =>
  ho H0 B H σ S _ fun v B1 H1 g1 r1 => by
    cases r1 with
    | ins hb r =>
      refine ⟨_, _, _, rfl, g1.bh _ _ hb, r.lookN hm, ?_⟩
      refine h H0 B1 H1 σ (S.go g1) _ fun vs B2 H2 g2 r2 => ?_
      refine ⟨B2, A, g2.bh, by rw [he, List.append_nil]; exact .cons (Rep.mono g2.bb (.ins hb r)) r2, ?_⟩
      rw [hf]
      exact fun B3 H3 g3 => q B3 H3 ((g1.trans g2).trans g3)
theorem ex_un {u : V → Hp → VK → Prop} {e : Er} (h : EvX K ca E ta ρ e) : EvX K ca E (tUn u ta) ρ e := fun H0 B H σ S q Q => h H0 B H σ S q _
theorem ex_opL {r : R2} {e : Er} (h : EvX K ca E ta ρ e) : EvX K ca E (tOp r ta tb) ρ e := fun H0 B H σ S q Q => h H0 B H σ S q _
theorem ex_opR {r : R2} {e : Er} (ha : EvD K ta ρ a) (h : EvX K ca E tb ρ e) : EvX K ca E (tOp r ta tb) ρ e := fun H0 B H σ S q Q => ha H0 B H σ S _ fun v B1 H1 g1 r1 => h H0 B1 H1 σ (S.go g1) (fun B2 H2 g2 => q B2 H2 (g1.trans g2)) _

/-! ### statements -/
structure Po where
  nx : En → Prop := fun _ => False
  bk : En → Prop := fun _ => False
  ct : En → Prop := fun _ => False
  rt : Out → Prop := fun _ => False
structure Sat (K : PySem.W.Frag) (ca : Er → Addr) (E : XK) (B0 H0 : Hp) (D' : Ends) (P : Po) : Prop where
  nx : ∀ ρ, P.nx ρ → ∀ B H σ, Go B0 H0 B H → Slots K H0 B H σ ρ → D'.nx σ H
  bk : ∀ ρ, P.bk ρ → ∀ B H σ, Go B0 H0 B H → Slots K H0 B H σ ρ → D'.bk σ H
  ct : ∀ ρ, P.ct ρ → ∀ B H σ, Go B0 H0 B H → Slots K H0 B H σ ρ → D'.ct σ H
  rt : ∀ d, P.rt (.ok d) → ∀ B H v, Go B0 H0 B H → Rep K B v d → D'.rt v H
  rn : ∀ ds, P.rt (.new ds) → ∀ B H p vs, Go B0 H0 B H → H0 p = none → B p = none → H p = some (.lst vs) → Reps K B vs ds → D'.rt (.ref p) H
  er : ∀ x, P.rt (.err x) → ∀ B H, Go B0 H0 B H → E (.ref (ca x)) none H
  ef : ∀ x g d, P.rt (.errF x g d) → ∀ B H dd v, Go B0 H0 B H → H dd = some (.xd [(g, v)]) → Rep K B v d → E (.ref (ca x)) (some dd) H
/-- a block's reading from an environment to what is behind it -/
def Run (K : PySem.W.Frag) (ca : Er → Addr) (E : XK) (ts : TS) (ρ : En) (P : Po) : Prop := ∀ B0 H0 B H σ, Go B0 H0 B H → Slots K H0 B H σ ρ → ∀ D' : Ends, Sat K ca E B0 H0 D' P → ts D' σ H
/-- one statement, which always ends where it should -/
def Run1 (K : PySem.W.Frag) (ts : TS) (ρ ρ' : En) : Prop := ∀ B0 H0 B H σ, Go B0 H0 B H → Slots K H0 B H σ ρ → ∀ D' : Ends, (∀ B' H' σ', Go B0 H0 B' H' → Slots K H0 B' H' σ' ρ' → D'.nx σ' H') → ts D' σ H
variable {ts ts' : TS} {P : Po}
theorem Run.le (h : Run K ca E ts ρ' P) (e : Le ρ' ρ) : Run K ca E ts ρ P := fun B0 H0 B H σ g S D' s => h B0 H0 B H σ g (S.le e) D' s
theorem seq1 (h1 : Run1 K ts ρ ρ') (h2 : Run K ca E ts' ρ' P) : Run K ca E (tSeq ts ts') ρ P := fun B0 H0 B H σ g S D' s => h1 B0 H0 B H σ g S _ fun B1 H1 σ1 g1 S1 => h2 B0 H0 B1 H1 σ1 g1 S1 D' s
theorem last1 (h1 : Run1 K ts ρ ρ') (h2 : P.nx ρ') : Run K ca E ts ρ P := fun B0 H0 B H σ g S D' s => h1 B0 H0 B H σ g S _ fun B1 H1 σ1 g1 S1 => s.nx ρ' h2 B1 H1 σ1 g1 S1
theorem run_next (h : P.nx ρ) : Run K ca E tNext ρ P := fun B0 H0 B H σ g S D' s => s.nx ρ h B H σ g S
theorem seq_next (h : Run K ca E ts ρ P) : Run K ca E (tSeq tNext ts) ρ P := h
theorem seq_assoc {t3 : TS} (h : Run K ca E (tSeq ts (tSeq ts' t3)) ρ P) : Run K ca E (tSeq (tSeq ts ts') t3) ρ P := h
theorem seq_run {Mid : En → Prop} (h1 : Run K ca E ts ρ { P with nx := Mid }) (h2 : ∀ ρ', Mid ρ' → Run K ca E ts' ρ' P) : Run K ca E (tSeq ts ts') ρ P := fun B0 H0 B H σ g S D' s =>
  h1 B0 H0 B H σ g S _ ⟨fun ρ' m B1 H1 σ1 g1 S1 => h2 ρ' m B0 H0 B1 H1 σ1 g1 S1 D' s, s.bk, s.ct, s.rt, s.rn, s.er, s.ef⟩
theorem run_imp {P' : Po} (h : Run K ca E ts ρ P') (h1 : ∀ r, P'.nx r → P.nx r) (h2 : ∀ r, P'.bk r → P.bk r) (h3 : ∀ r, P'.ct r → P.ct r) (h4 : ∀ r, P'.rt r → P.rt r) : Run K ca E ts ρ P := fun B0 H0 B H σ g S D' s =>
  h B0 H0 B H σ g S D' ⟨fun r q => s.nx r (h1 r q), fun r q => s.bk r (h2 r q), fun r q => s.ct r (h3 r q), fun d q => s.rt d (h4 _ q), fun d q => s.rn d (h4 _ q), fun x q => s.er x (h4 _ q), fun x g d q => s.ef x g d (h4 _ q)⟩
theorem run_brk (h : P.bk ρ) : Run K ca E tBreak ρ P := fun B0 H0 B H σ g S D' s => s.bk ρ h B H σ g S
theorem run_cont (h : P.ct ρ) : Run K ca E tCont ρ P := fun B0 H0 B H σ g S D' s => s.ct ρ h B H σ g S
theorem seq_brk (h : P.bk ρ) : Run K ca E (tSeq tBreak ts) ρ P := fun B0 H0 B H σ g S D' s => s.bk ρ h B H σ g S
theorem seq_cont (h : P.ct ρ) : Run K ca E (tSeq tCont ts) ρ P := fun B0 H0 B H σ g S D' s => s.ct ρ h B H σ g S
theorem run_ret (h : EvD K te ρ d) (q : P.rt (.ok d)) : Run K ca E (tRet te) ρ P := fun B0 H0 B H σ g S D' s => h H0 B H σ S _ fun v B1 H1 g1 r => s.rt d q B1 H1 v (g.trans g1) r
theorem seq_ret (h : EvD K te ρ d) (q : P.rt (.ok d)) : Run K ca E (tSeq (tRet te) ts) ρ P := fun B0 H0 B H σ g S D' s => h H0 B H σ S _ fun v B1 H1 g1 r => s.rt d q B1 H1 v (g.trans g1) r
theorem run_retO (h : EvO K te ρ ds) (q : P.rt (.new ds)) : Run K ca E (tRet te) ρ P := fun B0 H0 B H σ g S D' s => h H0 B H σ S _ fun p B1 H1 vs g1 h1 h2 h3 r => s.rn ds q B1 H1 p vs (g.trans g1) (none_of_ex S.ex0 h1) h2 h3 r
theorem run_retOwn (h : ρ[i]? = some (some (.own ds))) (q : P.rt (.new ds)) : Run K ca E (tRet (tVar i)) ρ P := fun B0 H0 B H σ g S D' s => by
  obtain ⟨v, h1, l, vs, e, h0, hb, hl, r⟩ := S.ok i _ h
  subst e
  exact ⟨.ref l, h1, s.rn ds q B H l vs g h0 hb hl r⟩
theorem run_retN (q : P.rt (.ok .non)) : Run K ca E tRetN ρ P := fun B0 H0 B H σ g S D' s => s.rt .non q B H .non g .non
theorem run_retX {e : Er} (h : EvX K ca E te ρ e) (q : P.rt (.err e)) : Run K ca E (tRet te) ρ P := fun B0 H0 B H σ g S D' s => h H0 B H σ S (fun B1 H1 g1 => s.er e q B1 H1 (g.trans g1)) _
theorem seq_asgX {g : TG} {e : Er} (h : EvX K ca E te ρ e) (q : P.rt (.err e)) : Run K ca E (tSeq (tAsg te g) ts) ρ P := fun B0 H0 B H σ g0 S D' s => h H0 B H σ S (fun B1 H1 g1 => s.er e q B1 H1 (g0.trans g1)) _
theorem run_asgX {g : TG} {e : Er} (h : EvX K ca E te ρ e) (q : P.rt (.err e)) : Run K ca E (tAsg te g) ρ P := fun B0 H0 B H σ g0 S D' s => h H0 B H σ S (fun B1 H1 g1 => s.er e q B1 H1 (g0.trans g1)) _
theorem seq_dropX {e : Er} (h : EvX K ca E te ρ e) (q : P.rt (.err e)) : Run K ca E (tSeq (tDrop te) ts) ρ P := fun B0 H0 B H σ g0 S D' s => h H0 B H σ S (fun B1 H1 g1 => s.er e q B1 H1 (g0.trans g1)) _
theorem run_dropX {e : Er} (h : EvX K ca E te ρ e) (q : P.rt (.err e)) : Run K ca E (tDrop te) ρ P := fun B0 H0 B H σ g0 S D' s => h H0 B H σ S (fun B1 H1 g1 => s.er e q B1 H1 (g0.trans g1)) _
/-- x = e -/
theorem asg (h : EvD K te ρ d) : Run1 K (tAsg te (gName i)) ρ (ρ.set i (some (.d d))) := fun B0 H0 B H σ g S D' k => h H0 B H σ S _ fun v B1 H1 g1 r => k B1 H1 _ (g.trans g1) ((S.go g1).setD r)
theorem asgO (h : EvO K te ρ ds) : Run1 K (tAsg te (gName i)) ρ (ρ.set i (some (.own ds))) := fun B0 H0 B H σ g S D' k => h H0 B H σ S _ fun p B1 H1 vs g1 h1 h2 h3 r =>
  k B1 H1 _ (g.trans g1) ((S.go g1).setO (none_of_ex S.ex0 h1) h2 h3 r fun j t _ q m => S.fresh h1 j t q m)
theorem drop (h : EvD K te ρ d) : Run1 K (tDrop te) ρ ρ := fun B0 H0 B H σ g S D' k => h H0 B H σ S _ fun v B1 H1 g1 r => k B1 H1 _ (g.trans g1) (S.go g1)
/-- xs.append(e) -/
theorem app (hi : ρ[i]? = some (some (.own ds))) (h : EvD K te ρ d) (hz : ds.length < sizeLine) : Run1 K (tDrop (tBM K "list" rAppend (tVar i) (tCons te tNil))) ρ (ρ.set i (some (.own (ds ++ [d])))) := fun B0 H0 B H σ g S D' k => by
  obtain ⟨v, h1, l, vs, e, h0, hb, hl, r⟩ := S.ok i _ hi
  subst e
  refine ⟨.ref l, h1, .inl ⟨rfl, _, sq_of hl⟩, ?_⟩
  refine h H0 B H σ S _ fun v B1 H1 g1 rv => ?_
  refine ⟨l, vs, v, rfl, rfl, g1.hh _ _ hl, by rw [r.len]; exact hz, ?_⟩
  have S1 := (S.go g1).upO hi h1 ((r.mono g1.bb).app (.cons rv .nil))
  have g2 := g.trans g1
  exact k B1 _ _ ⟨g2.bb, S1.ex, S1.ex0, g2.fr⟩ S1
theorem ext {es : List D} (hi : ρ[i]? = some (some (.own ds))) (h : EvL K te ρ es) (hz : ds.length + es.length ≤ sizeLine) : Run1 K (tDrop (tBM K "list" rExtend (tVar i) (tCons te tNil))) ρ (ρ.set i (some (.own (ds ++ es)))) := fun B0 H0 B H σ g S D' k => by
  obtain ⟨v, h1, l, vs, e, h0, hb, hl, r⟩ := S.ok i _ hi
  subst e
  refine ⟨.ref l, h1, .inl ⟨rfl, _, sq_of hl⟩, ?_⟩
  refine h H0 B H σ S _ fun p B1 H1 us g1 hp ru => ?_
  refine ⟨l, p, vs, us, rfl, rfl, g1.hh _ _ hl, hp, by rw [r.len, ru.len]; exact hz, ?_⟩
  have S1 := (S.go g1).upO hi h1 ((r.mono g1.bb).app ru)
  have g2 := g.trans g1
  exact k B1 _ _ ⟨g2.bb, S1.ex, S1.ex0, g2.fr⟩ S1
/-- xs[j] = e -/
theorem setI {n : Int} {j : Nat} (hi : ρ[i]? = some (some (.own ds))) (h : EvD K te ρ d) (hn : EvD K ta ρ (.int n)) (hj : ixN ds.length n = some j) : Run1 K (tAsg te (gSub (tVar i) ta rSetL)) ρ (ρ.set i (some (.own (ds.set j d)))) := fun B0 H0 B H σ g S D' k => by
  refine h H0 B H σ S _ fun v B1 H1 g1 rv => ?_
  obtain ⟨w, h1, l, vs, e, h0, hb, hl, r⟩ := (S.go g1).ok i _ hi
  subst e
  refine ⟨.ref l, h1, ?_⟩
  refine hn H0 B1 H1 σ (S.go g1) _ fun w B2 H2 g2 rw' => ?_
  cases rw'
  refine ⟨l, vs, n, j, rfl, rfl, g2.hh _ _ hl, by rw [r.len]; exact hj, ?_⟩
  have S1 := (S.go (g1.trans g2)).upO hi h1 ((r.mono g2.bb).set (rv.mono g2.bb) j)
  have g3 := g.trans (g1.trans g2)
  exact k B2 _ _ ⟨g3.bb, S1.ex, S1.ex0, g3.fr⟩ S1
/-- ours stands for good -/
theorem frz (hi : ρ[i]? = some (some (.own ds))) (h : Run K ca E ts (ρ.set i (some (.d (.lst ds)))) P) : Run K ca E ts ρ P := fun B0 H0 B H σ g S D' s => by
  obtain ⟨B1, e1, f1, S1⟩ := S.freeze hi
  exact h B0 H0 B1 H σ ⟨g.bb.trans e1, S1.ex, g.hh, fun a o q1 q2 => f1 a o q1 (g.fr a o q1 q2)⟩ S1 D' s
/-- x op= e -/
theorem aug {n m k : Int} (hi : ρ[i]? = some (some (.d (.int n)))) (h : EvD K te ρ (.int m)) {fn : Int → Int → Int} : Run1 K (tAug i te (ipI fn)) ρ (ρ.set i (some (.d (.int (fn n m))))) := fun B0 H0 B H σ g S D' k => by
  obtain ⟨v, h1, h2⟩ := S.ok i _ hi
  cases h2
  refine ⟨_, h1, ?_⟩
  refine h H0 B H σ S _ fun v B1 H1 g1 r => ?_
  cases r
  exact ⟨n, m, rfl, rfl, k B1 H1 _ (g.trans g1) ((S.go g1).setD (.int _))⟩
theorem seq_if {p : Bool} {t1 t2 : TS} (h : EvT K tt ρ p) (h1 : p = true → Run K ca E (tSeq t1 ts) ρ P) (h2 : p = false → Run K ca E (tSeq t2 ts) ρ P) : Run K ca E (tSeq (tIfS tt t1 t2) ts) ρ P := fun B0 H0 B H σ g S D' s =>
  h H0 B H σ S _ fun B1 H1 g1 => by
    cases p with
    | true => exact iteT (h1 rfl B0 H0 B1 H1 σ (g.trans g1) (S.go g1) D' s)
    | false => exact iteF (h2 rfl B0 H0 B1 H1 σ (g.trans g1) (S.go g1) D' s)
theorem run_if {p : Bool} {t1 t2 : TS} (h : EvT K tt ρ p) (h1 : p = true → Run K ca E t1 ρ P) (h2 : p = false → Run K ca E t2 ρ P) : Run K ca E (tIfS tt t1 t2) ρ P := fun B0 H0 B H σ g S D' s =>
  h H0 B H σ S _ fun B1 H1 g1 => by
    cases p with
    | true => exact iteT (h1 rfl B0 H0 B1 H1 σ (g.trans g1) (S.go g1) D' s)
    | false => exact iteF (h2 rfl B0 H0 B1 H1 σ (g.trans g1) (S.go g1) D' s)
/-- raise -/
theorem run_raise {e : Er} (q : P.rt (.err e)) : Run K ca E (fun _ _ H => E (.ref (ca e)) none H) ρ P := fun B0 H0 B H σ g S D' s => s.er e q B H g
theorem seq_raise {e : Er} (q : P.rt (.err e)) : Run K ca E (tSeq (fun _ _ H => E (.ref (ca e)) none H) ts) ρ P := fun B0 H0 B H σ g S D' s => s.er e q B H g

/-! ### targets -/
def TgD (K : PySem.W.Frag) (g : TG) (ρ : En) (x : D) (ρ' : En) (js : List Nat) : Prop := ∀ H0 B H σ v, Slots K H0 B H σ ρ → Rep K B v x → ∀ Q : L2.St → Hp → Prop, (∀ σ', Slots K H0 B H σ' ρ' → σ'.length = σ.length → (∀ i, i ∉ js → σ'[i]? = σ[i]?) → Q σ' H) → g v σ H Q
def TgsD (K : PySem.W.Frag) (g : TGs) (ρ : En) (xs : List D) (ρ' : En) (js : List Nat) : Prop := ∀ H0 B H σ vs, Slots K H0 B H σ ρ → Reps K B vs xs → ∀ Q : L2.St → Hp → Prop, (∀ σ', Slots K H0 B H σ' ρ' → σ'.length = σ.length → (∀ i, i ∉ js → σ'[i]? = σ[i]?) → Q σ' H) → g vs σ H Q
theorem tg_name : TgD K (gName i) ρ x (ρ.set i (some (.d x))) [i] := fun H0 B H σ v S r Q q => q _ (S.setD r) (List.length_set ..) fun j hj => List.getElem?_set_ne (fun e => hj (by rw [e]; exact List.mem_singleton.mpr rfl))
theorem tgs_nil : TgsD K gNil ρ [] ρ [] := fun H0 B H σ vs S r Q q => by
  cases r
  exact ⟨rfl, q σ S rfl fun _ _ => rfl⟩
theorem tgs_cons {g : TG} {gs : TGs} {xs : List D} {js ks : List Nat} (h1 : TgD K g ρ x ρ' js) (h2 : TgsD K gs ρ' xs ρ2 ks) : TgsD K (gCons g gs) ρ (x :: xs) ρ2 (js ++ ks) := fun H0 B H σ vs S r Q q => by
  cases r with
  | cons r1 r2 =>
    refine ⟨_, _, rfl, ?_⟩
    refine h1 H0 B H σ _ S r1 _ fun σ1 S1 l1 e1 => ?_
    exact h2 H0 B H σ1 _ S1 r2 _ fun σ2 S2 l2 e2 => q σ2 S2 (l2.trans l1) fun i hi => (e2 i fun z => hi (List.mem_append_right _ z)).trans (e1 i fun z => hi (List.mem_append_left _ z))
theorem tg_tup {gs : TGs} {xs : List D} {n : Nat} {js : List Nat} (h : TgsD K gs ρ xs ρ' js) (hn : xs.length = n) : TgD K (gTup K n gs) ρ (.tup xs) ρ' js := fun H0 B H σ v S r Q q => by
  cases r with
  | tup s r => exact ⟨_, _, rfl, ex_t S.ex s, r.len.trans hn, h H0 B H σ _ S r Q q⟩
/-- a, b = e -/
theorem asgG {g : TG} {js : List Nat} (h : EvD K te ρ x) (hg : TgD K g ρ x ρ' js) : Run1 K (tAsg te g) ρ ρ' := fun B0 H0 B H σ g0 S D' k => h H0 B H σ S _ fun v B1 H1 g1 r =>
  hg H0 B1 H1 σ v (S.go g1) r _ fun σ' S' _ _ => k B1 H1 σ' (g0.trans g1) S'

/-! ### what is walked -/
def Steady (K : PySem.W.Frag) (J : It) (B1 : Hp) (xs : List D) : Prop := ∀ i B H, Ex B1 B → Ex B H → (xs.length ≤ i → J.stop i H) ∧ ∀ x, xs[i]? = some x → J.go i H ∧ ∀ v H', J.yld i H v H' → ∃ B', Go B H B' H' ∧ Rep K B' v x
def ItD (K : PySem.W.Frag) (wi : TI) (ρ : En) (xs : List D) : Prop := ∀ H0 B H σ, Slots K H0 B H σ ρ → ∀ R : It → Hp → Prop, (∀ J B1 H1, Go B H B1 H1 → Steady K J B1 xs → R J H1) → wi σ H R
theorem it_list {tl : TE} {xs : List D} (h : EvD K tl ρ (.lst xs)) : ItD K (iList K tl) ρ xs := fun H0 B H σ S R q => h H0 B H σ S _ fun v B1 H1 g1 r => by
  cases r with
  | lst hb r =>
    refine ⟨_, rfl, ⟨_, sq_of (g1.bh _ _ hb)⟩, q _ B1 H1 g1 fun i B2 H2 e1 e2 => ?_⟩
    have hq := sq_of (K := K) (e2 _ _ (e1 _ _ hb))
    refine ⟨fun hi => ⟨_, hq, by rw [r.len]; exact hi⟩, fun x hx => ?_⟩
    obtain ⟨w, h1, h2⟩ := r.get hx
    refine ⟨⟨_, w, hq, h1⟩, fun v H' ⟨e, f⟩ => ⟨B2, by rw [e]; exact Go.refl e2, ?_⟩⟩
    have e3 := Option.some.inj ((f _ hq).symm.trans h1)
    rw [e3]
    exact h2.mono e1
theorem it_tup {tl : TE} {xs : List D} (h : EvD K tl ρ (.tup xs)) : ItD K (iTup K tl) ρ xs := fun H0 B H σ S R q => h H0 B H σ S _ fun v B1 H1 g1 r => by
  cases r with
  | tup hb r =>
    refine ⟨_, rfl, ⟨_, ex_t g1.bh hb⟩, q _ B1 H1 g1 fun i B2 H2 e1 e2 => ?_⟩
    have hq := ex_t e2 (ex_t e1 hb)
    refine ⟨fun hi => ⟨_, hq, by rw [r.len]; exact hi⟩, fun x hx => ?_⟩
    obtain ⟨w, h1, h2⟩ := r.get hx
    refine ⟨⟨_, w, hq, h1⟩, fun v H' ⟨e, f⟩ => ⟨B2, by rw [e]; exact Go.refl e2, ?_⟩⟩
    have e3 := Option.some.inj ((f _ hq).symm.trans h1)
    rw [e3]
    exact h2.mono e1
/-- lo, lo + 1, .. -/
def rng (lo : Int) (n : Nat) : List D := (List.range n).map fun (k : Nat) => D.int (lo + (k : Int))
theorem rng_len (lo : Int) (n : Nat) : (rng lo n).length = n := by
  unfold rng
  rw [List.length_map, List.length_range]
theorem rng_get {lo : Int} {n i : Nat} {x : D} (h : (rng lo n)[i]? = some x) : i < n ∧ x = .int (lo + (i : Int)) := by
  unfold rng at h
  rw [List.getElem?_map] at h
  by_cases hi : i < n
  · rw [List.getElem?_range hi] at h
    exact ⟨hi, (Option.some.inj h).symm⟩
  · rw [List.getElem?_eq_none (by rw [List.length_range]; omega)] at h
    cases h
theorem steady_rng {B1 : Hp} {lo : Int} {n : Nat} : Steady K (Itr lo n) B1 (rng lo n) := fun i B H e1 e2 => by
  refine ⟨fun hi => by rw [rng_len] at hi; exact hi, fun x hx => ?_⟩
  obtain ⟨hi, rfl⟩ := rng_get hx
  refine ⟨hi, fun v H' ⟨e, f⟩ => ⟨B, by rw [e]; exact Go.refl e2, ?_⟩⟩
  rw [f]
  exact .int _
theorem it_rng1 {t : TA} {n : Int} (h : EvA K t ρ [.int n]) (h1 : -(2 ^ 62) ≤ n) (h2 : n < 2 ^ 62) : ItD K (iRng1 t) ρ (rng 0 n.toNat) := fun H0 B H σ S R q => h H0 B H σ S _ fun v B1 H1 g1 r => by
  obtain ⟨⟩ | ⟨r1, r2⟩ := r
  cases r1
  cases r2
  exact ⟨n, rfl, h1, h2, q _ B1 H1 g1 steady_rng⟩
theorem it_rng2 {t : TA} {m n : Int} (h : EvA K t ρ [.int m, .int n]) (h1 : -(2 ^ 62) ≤ m) (h2 : m < 2 ^ 62) (h3 : -(2 ^ 62) ≤ n) (h4 : n < 2 ^ 62) : ItD K (iRng2 t) ρ (rng m (n - m).toNat) := fun H0 B H σ S R q => h H0 B H σ S _ fun v B1 H1 g1 r => by
  obtain ⟨⟩ | ⟨r1, r2⟩ := r
  obtain ⟨⟩ | ⟨r3, r4⟩ := r2
  cases r1
  cases r3
  cases r4
  exact ⟨m, n, rfl, ⟨h1, h2, h3, h4⟩, q _ B1 H1 g1 steady_rng⟩

/-! ### for -/
theorem seq_for {wi : TI} {g : TG} {tb : TS} {xs : List D} (hi : ItD K wi ρ xs) (I : Nat → En → Prop) (Bk : En → Prop) (h0 : I 0 ρ)
    (hs : ∀ (i : Nat) (x : D) (r : En), xs[i]? = some x → I i r → ∃ r2 js, TgD K g r x r2 js ∧ Run K ca E tb r2 { P with nx := I (i + 1), ct := I (i + 1), bk := Bk })
    (hd : ∀ r, I xs.length r ∨ Bk r → Run K ca E ts r P) : Run K ca E (tSeq (tFor wi g tb) ts) ρ P := fun B0 H0 B H σ g0 S D' s =>
  hi H0 B H σ S _ fun J B1 H1 g1 st => by
    refine ⟨fun i m σ' H' => m = xs.length - i ∧ i ≤ xs.length ∧ ∃ r B', I i r ∧ Go B0 H0 B' H' ∧ Ex B1 B' ∧ Slots K H0 B' H' σ' r, ⟨_, rfl, Nat.zero_le _, ρ, B1, h0, g0.trans g1, Ex.refl B1, S.go g1⟩, ?_⟩
    rintro i m σ' H' ⟨rfl, hi, r, B', hI, g2, e1, S2⟩
    by_cases hlt : i < xs.length
    · obtain ⟨hgo, hy⟩ := (st i B' H' e1 g2.bh).2 xs[i] (List.getElem?_eq_getElem hlt)
      obtain ⟨r2, js, tg, run⟩ := hs i _ r (List.getElem?_eq_getElem hlt) hI
      refine .inr ⟨hgo, fun σ2 H2 => ∃ r B', I (i + 1) r ∧ Go B0 H0 B' H2 ∧ Ex B1 B' ∧ Slots K H0 B' H2 σ2 r, fun σ2 H2 ⟨r', B2, h1, h2, h3, h4⟩ => ⟨_, by omega, rfl, hlt, r', B2, h1, h2, h3, h4⟩, fun v H2 hv => ?_⟩
      obtain ⟨B2, g3, rv⟩ := hy v H2 hv
      refine tg H0 B2 H2 σ' v (S2.go g3) rv _ fun σ3 S3 _ _ => ?_
      have g4 := g2.trans g3
      have e4 : Ex B1 B2 := e1.trans g3.bb
      -- the turn, from B2 on
      refine run B2 H0 B2 H2 σ3 ⟨Ex.refl _, g4.bh, g4.hh, fun _ _ _ q => q⟩ S3 _ ⟨fun r' q B3 H3 σ4 g5 S4 => ?_, fun r' q B3 H3 σ4 g5 S4 => ?_, fun r' q B3 H3 σ4 g5 S4 => ?_, fun d q B3 H3 v g5 rr => ?_, fun d q B3 H3 p vs g5 a1 a2 a3 rr => ?_, fun x q B3 H3 g5 => ?_, fun x gg d q B3 H3 dd v g5 a1 rr => ?_⟩
      all_goals have g6 : Go B0 H0 B3 H3 := ⟨g4.bb.trans g5.bb, g5.bh, g5.hh, fun a o q1 q2 => g5.fr a o q1 (g4.fr a o q1 q2)⟩
      · exact ⟨r', B3, q, g6, e4.trans g5.bb, S4⟩
      · exact hd r' (.inr q) B0 H0 B3 H3 σ4 g6 S4 D' s
      · exact ⟨r', B3, q, g6, e4.trans g5.bb, S4⟩
      · exact s.rt d q B3 H3 v g6 rr
      · exact s.rn d q B3 H3 p vs g6 a1 a2 a3 rr
      · exact s.er x q B3 H3 g6
      · exact s.ef x gg d q B3 H3 dd v g6 a1 rr
    · refine .inl ⟨(st i B' H' e1 g2.bh).1 (by omega), ?_⟩
      have hil : i = xs.length := by omega
      subst hil
      exact hd r (.inl hI) B0 H0 B' H' σ' g2 S2 D' s
/-! ### while -/
theorem seq_while {tb : TS} (I : Nat → En → Prop) (Bk : En → Prop) (m0 : Nat) (h0 : I m0 ρ)
    (hs : ∀ (m : Nat) (r : En), I m r → ∃ p, EvT K tt r p ∧ (p = true → Run K ca E tb r { P with nx := fun r' => ∃ m', m' < m ∧ I m' r', ct := fun r' => ∃ m', m' < m ∧ I m' r', bk := Bk }) ∧ (p = false → Run K ca E ts r P))
    (hd : ∀ r, Bk r → Run K ca E ts r P) : Run K ca E (tSeq (tWhile tt tb) ts) ρ P := fun B0 H0 B H σ g0 S D' s => by
  refine ⟨fun m σ' H' => ∃ r B', I m r ∧ Go B0 H0 B' H' ∧ Slots K H0 B' H' σ' r, ⟨m0, ρ, B, h0, g0, S⟩, ?_⟩
  rintro m σ' H' ⟨r, B', hI, g2, S2⟩
  obtain ⟨p, ht, h1, h2⟩ := hs m r hI
  refine ht H0 B' H' σ' S2 _ fun B2 H2 g3 => ?_
  have g4 := g2.trans g3
  cases p with
  | true =>
    refine iteT ⟨fun σ2 H2 => ∃ m', m' < m ∧ ∃ r B', I m' r ∧ Go B0 H0 B' H2 ∧ Slots K H0 B' H2 σ2 r, fun σ2 H2 h => h, ?_⟩
    exact h1 rfl B0 H0 B2 H2 σ' g4 (S2.go g3) _ ⟨fun r' ⟨m', hm, q⟩ B3 H3 σ4 g5 S4 => ⟨m', hm, r', B3, q, g5, S4⟩, fun r' q B3 H3 σ4 g5 S4 => hd r' q B0 H0 B3 H3 σ4 g5 S4 D' s, fun r' ⟨m', hm, q⟩ B3 H3 σ4 g5 S4 => ⟨m', hm, r', B3, q, g5, S4⟩, s.rt, s.rn, s.er, s.ef⟩
  | false => exact iteF (h2 rfl B0 H0 B2 H2 σ' g4 (S2.go g3) D' s)

/-! ### comprehensions -/
def wipeE (ρ : En) : List Nat → En
  | [] => ρ
  | v :: vs => (wipeE ρ vs).set v none
theorem wipeE_length (ρ : En) : ∀ vs : List Nat, (wipeE ρ vs).length = ρ.length
  | [] => rfl
  | v :: vs => by unfold wipeE; rw [List.length_set, wipeE_length ρ vs]
theorem wipe_get {σ : L2.St} {i : Nat} : ∀ {vs : List Nat}, i ∉ vs → (wipe σ vs)[i]? = σ[i]?
  | [], _ => rfl
  | v :: vs, h => by
    unfold wipe
    rw [List.getElem?_set_ne (fun e => h (by rw [e]; exact List.mem_cons_self)), wipe_get fun z => h (List.mem_cons_of_mem _ z)]
theorem wipe_in {σ : L2.St} {i : Nat} : ∀ {vs : List Nat}, i ∈ vs → i < σ.length → (wipe σ vs)[i]? = some none
  | [], h, _ => by cases h
  | v :: vs, h, hl => by
    unfold wipe
    by_cases e : v = i
    · subst e
      rw [List.getElem?_set_self (by rw [wipe_length]; exact hl)]
    · rw [List.getElem?_set_ne e]
      exact wipe_in ((List.mem_cons.mp h).resolve_left fun z => e z.symm) hl
theorem wipe_same {σ σ' : L2.St} {vs : List Nat} (hl : σ'.length = σ.length) (h : ∀ i, i ∉ vs → σ'[i]? = σ[i]?) : wipe σ' vs = wipe σ vs := by
  apply List.ext_getElem?
  intro i
  by_cases c : i ∈ vs
  · by_cases hi : i < σ.length
    · rw [wipe_in c hi, wipe_in c (by rw [hl]; exact hi)]
    · rw [List.getElem?_eq_none (by rw [wipe_length]; omega), List.getElem?_eq_none (by rw [wipe_length]; omega)]
  · rw [wipe_get c, wipe_get c, h i c]
theorem wipeE_some {i : Nat} {s : SV} : ∀ {vs : List Nat}, (wipeE ρ vs)[i]? = some (some s) → ρ[i]? = some (some s) ∧ i ∉ vs
  | [], h => ⟨h, by simp⟩
  | v :: vs, h => by
    unfold wipeE at h
    by_cases hi : v = i
    · subst hi
      by_cases hv : v < (wipeE ρ vs).length
      · rw [List.getElem?_set_self hv] at h
        cases h
      · rw [List.getElem?_eq_none (by rw [List.length_set]; omega)] at h
        cases h
    · rw [List.getElem?_set_ne hi] at h
      obtain ⟨h1, h2⟩ := wipeE_some h
      exact ⟨h1, fun z => (List.mem_cons.mp z).elim (fun e => hi e.symm) h2⟩
theorem Slots.wipe {H0 B H : Hp} {σ : L2.St} (S : Slots K H0 B H σ ρ) (vs : List Nat) : Slots K H0 B H (L2.wipe σ vs) (wipeE ρ vs) :=
  ⟨by rw [wipe_length, wipeE_length]; exact S.len, S.ex0, S.ex, fun i s h => by
    obtain ⟨h1, h2⟩ := wipeE_some h
    obtain ⟨v, h3, h4⟩ := S.ok i s h1
    exact ⟨v, by rw [wipe_get h2]; exact h3, h4⟩, fun i j si sj v h1 h2 m1 m2 h3 h4 => by
    obtain ⟨k1, n1⟩ := wipeE_some h1
    obtain ⟨k2, n2⟩ := wipeE_some h2
    rw [wipe_get n1] at h3
    rw [wipe_get n2] at h4
    exact S.ap i j si sj v k1 k2 m1 m2 h3 h4⟩
/-- the turns' tests and values -/
def picked {β : Type} (p : β → Bool) (h : β → D) (xs : List β) : List D := (xs.filter p).map h
theorem evo_lc {wi : TI} {g : TG} {vs : List Nat} {xs : List D} (p : Nat → Bool) (e : Nat → D) (hi : ItD K wi ρ xs) (hz : xs.length ≤ 1000000)
    (hs : ∀ (i : Nat) (x : D), xs[i]? = some x → ∃ r2 js, TgD K g (wipeE ρ vs) x r2 js ∧ (∀ j, j ∈ js → j ∈ vs) ∧ EvT K tt r2 (p i) ∧ (p i = true → EvD K te r2 (e i))) :
    EvO K (tLc wi g tt te vs) ρ (((List.range xs.length).filter p).map e) := fun H0 B H σ S Q q =>
  hi H0 B H σ S _ fun J B1 H1 g1 st => by
    intro Dl hD
    have S1 := (S.go g1).wipe vs
    have hB : B1 Dl = none := none_of_ex g1.bh hD
    have hH : H Dl = none := none_of_ex g1.hh hD
    refine ⟨fun i m H' => m = xs.length - i ∧ i ≤ xs.length ∧ ∃ B' us, Go B H B' H' ∧ Ex B1 B' ∧ Go B1 H1 B' H' ∧ B' Dl = none ∧ H' Dl = some (.lst us) ∧ Reps K B' us (((List.range i).filter p).map e),
      ⟨_, rfl, Nat.zero_le _, B1, [], g1.trans (Go.newO g1.bh hD), Ex.refl _, Go.newO g1.bh hD, hB, upd_same, .nil⟩, ?_⟩
    rintro i m H' ⟨rfl, hi, B', us, g2, e1, g1', hn, hl, rs⟩
    by_cases hlt : i < xs.length
    · obtain ⟨hgo, hy⟩ := (st i B' H' e1 g2.bh).2 xs[i] (List.getElem?_eq_getElem hlt)
      obtain ⟨r2, js, tg, hjs, ht, he⟩ := hs i _ (List.getElem?_eq_getElem hlt)
      refine .inr ⟨hgo, fun H2 => ∃ B' us, Go B H B' H2 ∧ Ex B1 B' ∧ Go B1 H1 B' H2 ∧ B' Dl = none ∧ H2 Dl = some (.lst us) ∧ Reps K B' us (((List.range (i + 1)).filter p).map e), fun H2 h => ⟨_, by omega, rfl, hlt, h⟩, fun v H2 hv => ?_⟩
      obtain ⟨B2, g3, rv⟩ := hy v H2 hv
      refine tg H0 B2 H2 _ v (S1.go (g1'.trans g3)) rv _ fun σ3 S3 l3 e3 => ?_
      refine ⟨wipe_same (l3.trans (wipe_length _ _)) fun j hj => (e3 j fun z => hj (hjs j z)).trans (wipe_get hj), ?_⟩
      refine ht H0 B2 H2 σ3 S3 _ fun B3 H3 g4 => ?_
      have g5 := g3.trans g4
      cases hp : p i with
      | true =>
        refine iteT ?_
        refine he hp H0 B3 H3 σ3 (S3.go g4) _ fun y B4 H4 g6 ry => ?_
        have g7 := g5.trans g6
        have hl4 := g7.hh _ _ hl
        have hz4 : us.length < sizeLine := by
          rw [rs.len, List.length_map]
          have h1 := List.length_filter_le p (List.range i)
          rw [List.length_range] at h1
          exact Nat.lt_of_le_of_lt h1 (Nat.lt_of_lt_of_le (Nat.lt_of_lt_of_le hlt hz) (by decide))
        have hn4 : B4 Dl = none := g7.fr _ _ hl hn
        have exU : Ex B4 (upd H4 Dl (.lst (us ++ [y]))) := fun a u q => by rw [upd_ne (ne_of_none q hn4)]; exact g7.bh a u q
        have hhU : ∀ {Hx : Hp}, Ex Hx H4 → Hx Dl = none → Ex Hx (upd H4 Dl (.lst (us ++ [y]))) := fun ex hx a u q => by rw [upd_ne (ne_of_none q hx)]; exact ex a u q
        refine ⟨us, hl4, hz4, B4, us ++ [y], ?_, e1.trans g7.bb, ?_, hn4, upd_same, ?_⟩
        · have gg := g2.trans g7
          exact ⟨gg.bb, exU, hhU gg.hh hH, gg.fr⟩
        · have gg := g1'.trans g7
          exact ⟨gg.bb, exU, hhU gg.hh hD, gg.fr⟩
        · rw [List.range_succ, List.filter_append, List.map_append, List.filter_cons, if_pos hp]
          exact (rs.mono g7.bb).app (.cons ry .nil)
      | false =>
        refine iteF ?_
        refine ⟨B3, us, g2.trans g5, e1.trans g5.bb, g1'.trans g5, g5.fr _ _ hl hn, g5.hh _ _ hl, ?_⟩
        rw [List.range_succ, List.filter_append, List.map_append, List.filter_cons, if_neg (by rw [hp]; exact Bool.false_ne_true)]
        show Reps K B3 us (_ ++ [])
        rw [List.append_nil]
        exact rs.mono g5.bb
    · refine .inl ⟨(st i B' H' e1 g2.bh).1 (by omega), ?_⟩
      have hil : i = xs.length := by omega
      subst hil
      exact q Dl B' H' us g2 hH hn hl rs
end

/-! ### a def's body -/
theorem start_slots {K : PySem.W.Frag} {B H : Hp} {N : List Str} {vs : List V} {ds : List D} (e : Ex B H) (r : Reps K B vs ds) (hl : ds.length ≤ N.length) : Slots K H B H (L2.start N vs) (ds.map (fun d => some (SV.d d)) ++ List.replicate (N.length - ds.length) none) := by
  refine ⟨?_, Ex.refl H, e, fun i s h => ?_, fun i j si sj v h1 _ m1 _ _ _ => ?_⟩
  · unfold L2.start
    rw [List.length_append, List.length_append, List.length_map, List.length_map, List.length_replicate, List.length_replicate, r.len]
  · by_cases hi : i < ds.length
    · rw [List.getElem?_append_left (by rw [List.length_map]; exact hi), List.getElem?_map, List.getElem?_eq_getElem hi] at h
      have h' := Option.some.inj (Option.some.inj h)
      subst h'
      obtain ⟨v, h1, h2⟩ := r.get (List.getElem?_eq_getElem hi)
      refine ⟨v, ?_, h2⟩
      unfold L2.start
      rw [List.getElem?_append_left (by rw [List.length_map, r.len]; exact hi), List.getElem?_map, h1]
      rfl
    · rw [List.getElem?_append_right (by rw [List.length_map]; omega)] at h
      by_cases c : i - (ds.map (fun d => some (SV.d d))).length < N.length - ds.length
      · rw [List.getElem?_replicate_of_lt c] at h
        cases h
      · rw [List.getElem?_eq_none (by rw [List.length_replicate]; omega)] at h
        cases h
  · exfalso
    by_cases hi : i < ds.length
    · rw [List.getElem?_append_left (by rw [List.length_map]; exact hi), List.getElem?_map, List.getElem?_eq_getElem hi] at h1
      have h1' := Option.some.inj (Option.some.inj h1)
      subst h1'
      cases m1
    · rw [List.getElem?_append_right (by rw [List.length_map]; omega)] at h1
      by_cases c : i - (ds.map (fun d => some (SV.d d))).length < N.length - ds.length
      · rw [List.getElem?_replicate_of_lt c] at h1
        cases h1
      · rw [List.getElem?_eq_none (by rw [List.length_replicate]; omega)] at h1
        cases h1
/-- the body's reading from the promise -/
theorem body {K : PySem.W.Frag} {ca : Er → Addr} {α : Type} {enc : α → List D} {f : α → Out} {N : List Str} {ts : TS} {vs : List V} {H : Hp} {Q : VK} {E : XK} (h : Pr K ca enc f vs H Q E)
    (hl : ∀ a, (enc a).length ≤ N.length)
    (hr : ∀ a, f a ≠ .bad → Run K ca E ts ((enc a).map (fun d => some (SV.d d)) ++ List.replicate (N.length - (enc a).length) none) { nx := fun _ => f a = .ok .non, rt := fun o => o = f a }) :
    ts { nx := fun _ H' => Q .non H', rt := Q } (L2.start N vs) H := by
  obtain ⟨B, a, e, r, k⟩ := h
  have nb : f a ≠ .bad := fun z => by
    rw [z] at k
    exact k
  refine hr a nb B H B H _ (Go.refl e) (start_slots e r (hl a)) _ ⟨fun ρ q B' H' σ g S => ?_, fun ρ q => q.elim, fun ρ q => q.elim, fun d q B' H' v g rv => ?_, fun d q B' H' p us g h1 h2 h3 rv => ?_, fun x q B' H' g => ?_, fun x g' d q B' H' dd v g h1 rv => ?_⟩
  · rw [q] at k
    exact k .non B' H' g .non
  · have q' : f a = .ok d := Eq.symm q
    rw [q'] at k
    exact k v B' H' g rv
  · have q' : f a = .new d := Eq.symm q
    rw [q'] at k
    exact k p B' H' us g h1 h2 h3 rv
  · have q' : f a = .err x := Eq.symm q
    rw [q'] at k
    exact k B' H' g
  · have q' : f a = .errF x g' d := Eq.symm q
    rw [q'] at k
    exact k B' H' dd v g h1 rv
end Cs

namespace Cs
open PySem PySem.Spec PyProof.Rows L2 Evl
section
variable {K : PySem.W.Frag} {ρ ρ' : En} {ta tb tc te : TE} {tt tu : TT} {a b c d x y z : D} {i : Nat}
/-! ### truth -/
def tTru (K : PySem.W.Frag) (ta : TE) : TT := fun σ H Q => ta σ H fun x H' => ∃ k, TruV K x H' k ∧ Q k H'
theorem pt_tru {X : Cx} {e : Expr} {ta : TE} (ha : PE X e ta) (he : ∀ whole, isTrue e X.env whole = (do let v ← whole; standAt e.pos; holding [v] (truthy v)) := by intro _; rfl) : PT X e (tTru X.K ta) := pt_truth ha he
def truD : D → Option Bool
  | .non => some false
  | .bl b => some b
  | .int n => some (n != 0)
  | .tup ds => some (!ds.isEmpty)
  | .lst ds => some (!ds.isEmpty)
  | _ => none
theorem isEmpty_reps {B : Hp} {vs : List V} {ds : List D} (r : Reps K B vs ds) : (!vs.isEmpty) = !ds.isEmpty := by cases r <;> rfl
theorem et_tru {k : Bool} (h : EvD K ta ρ d) (hk : truD d = some k) : EvT K (tTru K ta) ρ k := fun H0 B H σ S Q q => h H0 B H σ S _ fun v B1 H1 g1 r => by
  refine ⟨k, ?_, q B1 H1 g1⟩
  cases r with
  | non => exact (Option.some.inj hk).symm
  | bl b => exact (Option.some.inj hk).symm
  | int n => exact (Option.some.inj hk).symm
  | str s => cases hk
  | tup s r => exact .inr (.inl ⟨_, ex_t g1.bh s, by rw [isEmpty_reps r]; exact (Option.some.inj hk).symm⟩)
  | lst s r => exact .inl ⟨_, sq_of (g1.bh _ _ s), by rw [isEmpty_reps r]; exact (Option.some.inj hk).symm⟩
  | ins s r => cases hk
  | scr s => cases hk
theorem et_truL {ds : List D} (h : EvL K ta ρ ds) : EvT K (tTru K ta) ρ (!ds.isEmpty) := fun H0 B H σ S Q q => h H0 B H σ S _ fun p B1 H1 vs g1 hp r =>
  ⟨_, .inl ⟨_, sq_of hp, rfl⟩, by rw [isEmpty_reps r]; exact q B1 H1 g1⟩

/-! ### isinstance -/
def tyD : D → String
  | .non => "NoneType"
  | .bl _ => "bool"
  | .int _ => "int"
  | .str _ => "str"
  | .tup _ => "tuple"
  | .lst _ => "list"
  | .ins _ _ => "object"
  | .scr _ => "list"
theorem Rep.tyx {B H : Hp} {v : V} (e : Ex B H) (n : noIns d = true) (r : Rep K B v d) : TyX K H v (.type (tyD d)) := by
  cases r with
  | non => exact .base .non
  | bl b => exact .base (.bl b)
  | int i => exact .base (.int i)
  | str s => exact .base (.str s)
  | lst h r => exact .base (.lst (e _ _ h))
  | tup h r =>
    rcases ex_t e h with (h | ⟨o, h⟩) | ⟨o, its, m, h1, h2, _⟩
    · exact .base (.tup h)
    · exact .fTuple h
    · exact .kTuple h1 h2
  | ins h r =>
    unfold noIns at n
    cases n
  | scr h =>
    unfold noIns at n
    cases n
theorem ev_isi {T : String} {k : Bool} (h : EvD K ta ρ d) (n : noIns d = true) (hk : kitB (tyD d) T = some k) : EvD K (tCB (rIsi K) (tCons ta (tCons (tC (.ty T)) tNil))) ρ (.bl k) := fun H0 B H σ S Q q =>
  h H0 B H σ S _ fun v B1 H1 g1 r => ⟨v, .ty T, _, _, k, rfl, .ty T, r.tyx g1.bh n, kit_ty hk, q _ B1 H1 g1 (.bl k)⟩

/-! ### * and // -/
def rTimes : R2 := fun x y H Q => rI CMul (fun i j => .int (i * j)) x y H Q ∨ (rI CMulW (fun i j => .int (i * j)) x y H Q ∨ rRep x y H Q)
theorem op_times {X : Cx} : OpR X (binaryOp .Mult) rTimes := op_mul.or (op_mulW.or op_rep)
theorem ev_mul {m n : Int} (ha : EvD K ta ρ (.int m)) (hb : EvD K tb ρ (.int n)) (h : CMul m n) : EvD K (tOp rTimes ta tb) ρ (.int (m * n)) := ev_op ha hb (OpD.left (op_I h fun B => .int _))
theorem ev_mulW {m n : Int} (ha : EvD K ta ρ (.int m)) (hb : EvD K tb ρ (.int n)) (h : CMulW m n) : EvD K (tOp rTimes ta tb) ρ (.int (m * n)) := ev_op ha hb (OpD.right (OpD.left (op_I h fun B => .int _)))
theorem cmulR {m n : Int} (h1 : -(2 ^ 64) < n) (h2 : n < 2 ^ 64) : CMul m n := .inr ⟨h1, h2⟩
theorem cmulL {m n : Int} (h1 : -(2 ^ 64) < m) (h2 : m < 2 ^ 64) : CMul m n := .inl ⟨h1, h2⟩
theorem repl_reps {B : Hp} {vs : List V} {ds : List D} (r : Reps K B vs ds) : ∀ n : Nat, Reps K B (List.replicate n vs).flatten (List.replicate n ds).flatten
  | 0 => .nil
  | n + 1 => by
    rw [List.replicate_succ, List.replicate_succ, List.flatten_cons, List.flatten_cons]
    exact r.app (repl_reps r n)
theorem evo_rep {ds : List D} {n : Int} (ha : EvL K ta ρ ds) (hb : EvD K tb ρ (.int n)) (h1 : -(2 ^ 63) ≤ n) (h2 : n < 2 ^ 63) (hz : ds.length * n.toNat ≤ sizeLine) : EvO K (tOp rTimes ta tb) ρ (List.replicate n.toNat ds).flatten := fun H0 B H σ S Q q =>
  ha H0 B H σ S _ fun p B1 H1 vs g1 hp r1 => hb H0 B1 H1 σ (S.go g1) _ fun u B2 H2 g2 r2 => by
    cases r2
    exact .inr (.inr ⟨p, n, vs, rfl, rfl, g2.hh _ _ hp, h1, h2, by rw [r1.len]; exact hz, fun l hl => q l B2 _ _ ((g1.trans g2).trans (Go.newO g2.bh hl)) (none_of_ex (g1.trans g2).hh hl) (none_of_ex g2.bh hl) upd_same (repl_reps (r1.mono g2.bb) _)⟩)
theorem ev_div {m n : Int} (ha : EvD K ta ρ (.int m)) (hb : EvD K tb ρ (.int n)) (h : CDivW m n) : EvD K (tOp (rI CDivW fun i j => .int (i / j)) ta tb) ρ (.int (m / n)) := ev_op ha hb (op_I h fun B => .int _)
theorem cdivS {m n : Int} (h1 : 0 < n) (h2 : n < 2 ^ 64) : CDivW m n := by
  refine ⟨h1, ?_⟩
  have h3 : n.natAbs < 2 ^ 64 := by omega
  have h4 : n.natAbs.log2 < 64 := (Nat.log2_lt (by omega)).mpr h3
  omega

/-! ### slices -/
theorem tn {x : Option Int} : True := trivial
theorem ep_none : EvP K tNoPart ρ none := fun H0 B H σ S Q q => q B H (Go.refl S.ex)
theorem ep_some {n : Int} (h : EvD K te ρ (.int n)) : EvP K (tPart te) ρ (some n) := fun H0 B H σ S Q q => h H0 B H σ S _ fun v B1 H1 g1 r => by
  cases r
  exact ⟨n, rfl, q B1 H1 g1⟩
def cutD (xs : List D) (lo hi : Option Int) : List D := (xs.drop (HT.sIx xs.length 0 lo)).take (HT.sIx xs.length xs.length hi - HT.sIx xs.length 0 lo)
theorem cut_reps {B : Hp} {vs : List V} {ds : List D} (r : Reps K B vs ds) (lo hi : Option Int) : Reps K B (cutV vs lo hi) (cutD ds lo hi) := by
  unfold cutV cutD
  rw [r.len]
  exact (r.drop _).take _
theorem evo_slice {ds : List D} {tl th : TO} {lo hi : Option Int} (ha : EvL K ta ρ ds) (hl : EvP K tl ρ lo) (hh : EvP K th ρ hi) : EvO K (tSl (rSlL K) ta tl th) ρ (cutD ds lo hi) := fun H0 B H σ S Q q =>
  ha H0 B H σ S _ fun p B1 H1 vs g1 hp r1 => hl H0 B1 H1 σ (S.go g1) _ fun B2 H2 g2 => hh H0 B2 H2 σ (S.go (g1.trans g2)) _ fun B3 H3 g3 =>
    ⟨p, vs, rfl, sq_of ((g2.trans g3).hh _ _ hp), fun l hl => q l B3 _ _ (((g1.trans g2).trans g3).trans (Go.newO g3.bh hl)) (none_of_ex ((g1.trans g2).trans g3).hh hl) (none_of_ex g3.bh hl) upd_same (cut_reps (r1.mono (g2.trans g3).bb) lo hi)⟩

theorem sl_any {X : Cx} : SlR X (rSlL X.K) := sl_list
/-! ### min, max of lists -/
theorem ev_maxL {ns : List Int} {m : Int} (ha : EvL K ta ρ (ns.map D.int)) (hn : 0 < ns.length) (hm : ∀ k, k ∈ ns → (∀ y, y ∈ ns → y ≤ k) → k = m) : EvD K (tCB (rMax K) (tCons ta tNil)) ρ (.int m) := fun H0 B H σ S Q q =>
  ha H0 B H σ S _ fun p B1 H1 vs g1 h1 r1 => ⟨p, ns, rfl, by rw [← r1.ints]; exact sq_of h1, hn, fun k h2 h3 => by rw [hm k h2 h3]; exact q _ B1 H1 g1 (.int _)⟩
theorem ev_minL {ns : List Int} {m : Int} (ha : EvL K ta ρ (ns.map D.int)) (hn : 0 < ns.length) (hm : ∀ k, k ∈ ns → (∀ y, y ∈ ns → k ≤ y) → k = m) : EvD K (tCB (rMin K) (tCons ta tNil)) ρ (.int m) := fun H0 B H σ S Q q =>
  ha H0 B H σ S _ fun p B1 H1 vs g1 h1 r1 => ⟨p, ns, rfl, by rw [← r1.ints]; exact sq_of h1, hn, fun k h2 h3 => by rw [hm k h2 h3]; exact q _ B1 H1 g1 (.int _)⟩

/-! ### zip, enumerate -/
theorem Go.newT {B H : Hp} (e : Ex B H) {p : Addr} {vs : List V} {ds : List D} (h : H p = none) (r : Reps K B vs ds) : Go B H (upd B p (.tup vs)) (upd H p (.tup vs)) ∧ Rep K (upd B p (.tup vs)) (.ref p) (.tup ds) :=
  ⟨Go.new e h, .tup (st_of upd_same) (r.mono (Ex.new (none_of_ex e h)))⟩
def zipD (xs ys : List D) : List D := (xs.zip ys).map fun p => .tup [p.1, p.2]
theorem it_zip {t : TA} {xs ys : List D} (h : EvA K t ρ [.lst xs, .lst ys]) : ItD K (iZip K t) ρ (zipD xs ys) := fun H0 B H σ S R q => h H0 B H σ S _ fun vs B1 H1 g1 r => by
  obtain ⟨⟩ | ⟨r1, r2⟩ := r
  obtain ⟨⟩ | ⟨r3, r4⟩ := r2
  cases r4
  cases r1 with
  | lst ha ra =>
    cases r3 with
    | lst hb rb =>
      refine ⟨_, _, _, _, rfl, sq_of (g1.bh _ _ ha), sq_of (g1.bh _ _ hb), q _ B1 H1 g1 fun i B2 H2 e1 e2 => ?_⟩
      have qa := sq_of (K := K) (e2 _ _ (e1 _ _ ha))
      have qb := sq_of (K := K) (e2 _ _ (e1 _ _ hb))
      refine ⟨fun hi => ⟨_, _, qa, qb, ?_⟩, fun x hx => ?_⟩
      · rw [ra.len, rb.len]
        unfold zipD at hi
        rw [List.length_map, List.length_zip] at hi
        omega
      · unfold zipD at hx
        rw [List.getElem?_map] at hx
        cases hz : (xs.zip ys)[i]? with
        | none => rw [hz] at hx; cases hx
        | some p =>
          rw [hz] at hx
          have hx' := Option.some.inj hx
          subst hx'
          obtain ⟨p1, p2⟩ := p
          obtain ⟨z1, z2⟩ := List.getElem?_zip_eq_some.mp hz
          obtain ⟨v1, k1, k2⟩ := ra.get z1
          obtain ⟨v2, k3, k4⟩ := rb.get z2
          refine ⟨⟨_, _, v1, v2, qa, qb, k1, k3⟩, ?_⟩
          rintro v H' ⟨T, w1, w2, rfl, hT, rfl, f1, f2⟩
          have e3 := Option.some.inj ((f1 _ qa).symm.trans k1)
          have e4 := Option.some.inj ((f2 _ qb).symm.trans k3)
          subst e3
          subst e4
          exact ⟨_, Go.newT e2 hT (.cons (k2.mono e1) (.cons (k4.mono e1) .nil))⟩
def enumD (xs : List D) : List D := (List.range xs.length).zip xs |>.map fun p => .tup [.int (p.1 : Int), p.2]

/-! ### a for that ends a block -/
theorem run_for {ca : Er → Addr} {E : XK} {P : Po} {wi : TI} {g : TG} {tb : TS} {xs : List D} (hi : ItD K wi ρ xs) (I : Nat → En → Prop) (Bk : En → Prop) (h0 : I 0 ρ)
    (hs : ∀ (i : Nat) (x : D) (r : En), xs[i]? = some x → I i r → ∃ r2 js, TgD K g r x r2 js ∧ Run K ca E tb r2 { P with nx := I (i + 1), ct := I (i + 1), bk := Bk })
    (hd : ∀ r, I xs.length r ∨ Bk r → P.nx r) : Run K ca E (tFor wi g tb) ρ P := fun B0 H0 B H σ g0 S D' s =>
  seq_for (ts := tNext) hi I Bk h0 hs (fun r h => run_next (hd r h)) B0 H0 B H σ g0 S D' s

/-! ### the script -/
theorem same_len {ns : List Int} : (ns.map V.int).length = ns.length := List.length_map ..
end
end Cs
namespace Cs
open PySem PySem.Spec PyProof.Rows L2 Evl
/-! ### either way of walking -/
def iOr (w1 w2 : TI) : TI := fun σ H R => w1 σ H R ∨ w2 σ H R
theorem pi_or {X : Cx} {tg e : Expr} {w1 w2 : TI} (h1 : PI X tg e w1) (h2 : PI X tg e w2) : PI X tg e (iOr w1 w2) := ⟨fun pins s σ H R I h => h.elim (fun q => h1.run pins s σ H R I q) fun q => h2.run pins s σ H R I q⟩
def iSeq (K : PySem.W.Frag) (te : TE) : TI := iOr (iList K te) (iTup K te)
theorem pi_seq {X : Cx} {tg e : Expr} {te : TE} (h : PE X e te) : PI X tg e (iSeq X.K te) := pi_or (pi_list h) (pi_tup h)
section
variable {K : PySem.W.Frag} {ρ : En} {te : TE} {xs : List D} {ca : Er → Addr} {E : XK} {P : Po}
theorem it_seqL (h : EvD K te ρ (.lst xs)) : ItD K (iSeq K te) ρ xs := fun H0 B H σ S R q => .inl (it_list h H0 B H σ S R q)
theorem it_seqT (h : EvD K te ρ (.tup xs)) : ItD K (iSeq K te) ρ xs := fun H0 B H σ S R q => .inr (it_tup h H0 B H σ S R q)
/-! ### try: body except c: suite -/
def tTry (K : PySem.W.Frag) (c : Value) (E : XK) (tb : WX → TS) (ts : Addr → Value → Option Addr → TS) : TS := fun D' σ H => tb (wOnly K c ts (fun cl d _ H => E cl d H) D') D' σ H
theorem ps_tryE {X : Cx} {x : Str} {c : Value} {body suite : List Stmt} {b₀ : Stmt} {np pos pos' : Pos} {tb : WX → TS} {ts : Addr → Value → Option Addr → TS} (hK : X.K = K) (hs : X.stack = X.env :: X.outer) (hf : X.env.frame = some X.env.locals) (hc : Names X x c) (tk : Takes X (fun cl d _ H => E cl d H))
    (hb : ∀ (W : WX) (pn : List (Addr × Obj)) (xe : Value → Shared → Prop), Takes (X.tr pn xe) W → PassesOwn (model X.prog X.w) X.A X.env xe → PSs (X.tr pn xe) body (tb W))
    (hsu : ∀ (a : Addr) (oe : Obj) (cls : Value) (d : Option Addr) (pn : List (Addr × Obj)), Zc cls d oe → (∃ vs, oe.data = .fields vs) → PSs (X.suite a ((a, oe) :: pn)) (b₀ :: suite) (ts a cls d)) :
    PS X (.Try body [.ExceptHandler (some (.Name x np)) none (b₀ :: suite) pos'] [] [] pos) (tTry K c E tb ts) := hK ▸ ps_try_only hs hf hc tk hb hsu
theorem run_try {tb : WX → TS} {ts : Addr → Value → Option Addr → TS} {c : Value} (caught : Er → Prop)
    (hb : ∀ W : WX, Run K ca (fun cl d H => ∀ σ, W cl d σ H) (tb W) ρ { P with rt := fun o => match o with | .err x => caught x ∨ (P.rt (.err x) ∧ PySem.W.exmOne K (.ref (ca x)) c = some false) | .errF _ _ _ => False | o => P.rt o })
    (hc : ∀ x, caught x → PySem.W.exmOne K (.ref (ca x)) c = some true) (hs : (∃ x, caught x) → ∀ n a cl d, Run K ca E (ts a cl d) (List.replicate n none) P) :
    Run K ca E (tTry K c E tb ts) ρ P := fun B0 H0 B H σ g S D' s => by
  refine hb _ B0 H0 B H σ g S D' ⟨s.nx, s.bk, s.ct, fun d q => s.rt d q, fun ds q => s.rn ds q, fun x q B1 H1 g1 σ' => ?_, fun x g d q => q.elim⟩
  rcases q with q | ⟨q, e⟩
  · refine ⟨true, hc x q, fun _ a ha => ?_, (fun z => nomatch z)⟩
    refine hs ⟨x, q⟩ σ'.length a _ _ B0 H0 B1 H1 σ' g1 ⟨(List.length_replicate ..).symm, g1.hh, g1.bh, fun i t h => ?_, fun i j si sj v h => ?_⟩ D' s
    · rw [List.getElem?_replicate] at h
      split at h <;> cases h
    · rw [List.getElem?_replicate] at h
      split at h <;> cases h
  · exact ⟨false, e, (fun z => nomatch z), fun _ => s.er x q B1 H1 g1⟩
theorem ex_callS {α : Type} {enc : α → List D} {f : α → Out} {A : α} {t : TA} {W : WX} {e : Er} (h : EvA K t ρ (enc A)) (hf : f A = .err e) : EvX K ca (fun cl d H => ∀ σ, W cl d σ H) (tCallS (Pr K ca enc f) (WE W) t) ρ e := fun H0 B H σ S q Q => h H0 B H σ S _ fun vs B1 H1 g1 r1 => by
  refine ⟨B1, A, g1.bh, r1, ?_⟩
  rw [hf]
  exact fun B2 H2 g2 => q B2 H2 (g1.trans g2) σ
theorem evo_callS {α : Type} {enc : α → List D} {f : α → Out} {A : α} {t : TA} {W : L2.St → XK} {ds : List D} (h : EvA K t ρ (enc A)) (hf : f A = .new ds) : EvO K (tCallS (Pr K ca enc f) W t) ρ ds := fun H0 B H σ S Q q => h H0 B H σ S _ fun vs B1 H1 g1 r1 => by
  refine ⟨B1, A, g1.bh, r1, ?_⟩
  rw [hf]
  exact fun p B2 H2 us g2 h1 h2 h3 r2 => q p B2 H2 us (g1.trans g2) (none_of_ex g1.hh h1) h2 h3 r2

/-! ### C(..): a promise of __init__ that says what the new object is worth -/
inductive OutI where
  | made (fs : List (Str × D))
  | err (x : Er)
  | bad
/-- __init__: self is a new object without attributes; behind it, it is worth C's data -/
def PrI (K : PySem.W.Frag) (ca : Er → Addr) (C : Addr) {α : Type} (enc : α → List D) (f : α → OutI) : Sp := fun vs H Q E => ∃ B a p dx ws, vs = .ref p :: ws ∧ H p = some (.ins C dx []) ∧ B p = none ∧ Ex B H ∧ Reps K B ws (enc a) ∧ match f a with
  | .made fs => ∀ B' H' dy fv, Ex B B' → Ex B' H' → (∀ b o, H b = some o → b ≠ p → H' b = some o) → (∀ b o, H b = some o → b ≠ p → B b = none → B' b = none) → B' p = none → H' p = some (.ins C dy fv) → RepF K B' fv fs → Q .non H'
  | .err x => ∀ B' H', Ex B B' → Ex B' H' → (∀ b o, H b = some o → b ≠ p → H' b = some o) → (∀ b o, H b = some o → b ≠ p → B b = none → B' b = none) → E (.ref (ca x)) none H'
  | .bad => False
section
variable {α : Type} {enc : α → List D} {f : α → OutI} {A : α} {t : TA} {C : Addr} {fs : List (Str × D)}
theorem made_start {B1 H1 : Hp} {x dx : Addr} (nx : H1 x = none) (nd : H1 dx = none) (ne : dx ≠ x) : Ex H1 (upd (upd H1 dx (.own x)) x (.ins C dx [])) := fun a o e => by
  rw [upd_ne (ne_of_none e nx), upd_ne (ne_of_none e nd)]
  exact e
theorem ev_make (h : EvA K t ρ (enc A)) (hf : f A = .made fs) : EvD K (tMake C (PrI K ca C enc f) [] E t) ρ (.ins C fs) := fun H0 B H σ S Q q => h H0 B H σ S _ fun vs B1 H1 g1 r1 => by
  intro x dx nx nd ne
  have e1 := made_start (C := C) (B1 := B1) nx nd ne
  refine ⟨B1, A, x, dx, vs, by rw [List.append_nil], upd_same, none_of_ex g1.bh nx, g1.bh.trans e1, r1, ?_⟩
  rw [hf]
  intro B2 H2 dy fv a1 a2 a3 a4 a5 a6 a7
  refine ⟨rfl, q _ (upd B2 x (.ins C dy fv)) H2 ⟨g1.bb.trans (a1.trans (Ex.new a5)), fun a u z => ?_, fun a o z => ?_, fun a o z1 z2 => ?_⟩ (.ins upd_same (a7.mono (Ex.new a5)))⟩
  · by_cases c : a = x
    · subst c
      rw [upd_same] at z
      rw [a6]
      exact z
    · rw [upd_ne c] at z
      exact a2 a u z
  · have z1 := g1.hh a o z
    exact a3 a o (e1 a o z1) (ne_of_none z1 nx)
  · have z3 := g1.hh a o z1
    have c : a ≠ x := ne_of_none z3 nx
    rw [upd_ne c]
    exact a4 a o (e1 a o z3) c (g1.fr a o z1 z2)
theorem ex_make {e : Er} (h : EvA K t ρ (enc A)) (hf : f A = .err e) : EvX K ca E (tMake C (PrI K ca C enc f) [] E t) ρ e := fun H0 B H σ S q Q => h H0 B H σ S _ fun vs B1 H1 g1 r1 => by
  intro x dx nx nd ne
  have e1 := made_start (C := C) (B1 := B1) nx nd ne
  refine ⟨B1, A, x, dx, vs, by rw [List.append_nil], upd_same, none_of_ex g1.bh nx, g1.bh.trans e1, r1, ?_⟩
  rw [hf]
  intro B2 H2 a1 a2 a3 a4
  refine q B2 H2 ⟨g1.bb.trans a1, a2, fun a o z => ?_, fun a o z1 z2 => ?_⟩
  · have z1 := g1.hh a o z
    exact a3 a o (e1 a o z1) (ne_of_none z1 nx)
  · have z3 := g1.hh a o z1
    exact a4 a o (e1 a o z3) (ne_of_none z3 nx) (g1.fr a o z1 z2)
/-! ### self.f = e within __init__ -/
def putD (f : Str) (d : D) : List (Str × D) → List (Str × D)
  | [] => [(f, d)]
  | (g, x) :: r => if g = f then (g, d) :: r else (g, x) :: putD f d r
theorem put_rep {B : Hp} {f : Str} {v : V} {d : D} (h : Rep K B v d) : ∀ {fv : List (Str × V)} {fs : List (Str × D)}, RepF K B fv fs → RepF K B (putF f v fv) (putD f d fs)
  | _, _, .nil => .cons h .nil
  | _, _, .cons (f := g) h1 r => by
    unfold putF putD
    by_cases c : g = f
    · rw [if_pos c, if_pos c]
      exact .cons h r
    · rw [if_neg c, if_neg c]
      exact .cons h1 (put_rep h r)
theorem RepF.len {B : Hp} {vs : List (Str × V)} {ds : List (Str × D)} : RepF K B vs ds → vs.length = ds.length
  | .nil => rfl
  | .cons _ r => congrArg Nat.succ (RepF.len r)
theorem fldO {tv : TE} {i : Nat} {l : Addr} {g : Str} {d : D} (hi : ρ[i]? = some (some (.obj l C fs))) (h : EvD K tv ρ d) (hc : Cls K C) (hn : NoAttr K C g) (hl : fs.length < 1000) : Run1 K (sFld K (tVar i) tv g) ρ (ρ.set i (some (.obj l C (putD g d fs)))) := fun B0 H0 B H σ g0 S D' k => by
  refine h H0 B H σ S _ fun v B1 H1 g1 rv => ?_
  obtain ⟨w, h1, dx, fv, e, h0, hb, hl', r⟩ := (S.go g1).ok i _ hi
  subst e
  refine ⟨.ref l, h1, l, C, dx, fv, rfl, hl', hc, hn, by rw [r.len]; exact hl, ?_⟩
  have S1 := (S.go g1).upF (dx := dx) hi (put_rep (f := g) rv r)
  have g2 := g0.trans g1
  exact k B1 _ _ ⟨g2.bb, S1.ex, S1.ex0, g2.fr⟩ S1
theorem ev_fldO {i : Nat} {l : Addr} {g : Str} {d : D} (hi : ρ[i]? = some (some (.obj l C fs))) (hc : Cls K C) (hn : NoAttr K C g) (h : fs.lookup g = some d) : EvD K (tFld K (tVar i) g) ρ d := fun H0 B H σ S Q q => by
  obtain ⟨w, h1, dx, fv, e, h0, hb, hl', r⟩ := S.ok i _ hi
  subst e
  obtain ⟨w, k1, k2⟩ := r.look h
  exact ⟨.ref l, h1, l, C, dx, fv, w, rfl, hl', hc, hn, k1, q w B H (Go.refl S.ex) k2⟩
/-- the body of __init__ from its promise; slot 0 is self -/
theorem bodyI {N : List Str} {ts : TS} {vs : List V} {H : Hp} {Q : VK} (h : PrI K ca C enc f vs H Q E) (hl : ∀ a, (enc a).length + 1 ≤ N.length)
    (hr : ∀ a l, f a ≠ .bad → Run K ca E ts (some (.obj l C []) :: ((enc a).map (fun d => some (SV.d d)) ++ List.replicate (N.length - 1 - (enc a).length) none))
      { nx := fun ρ => ∃ fs, f a = .made fs ∧ ρ[0]? = some (some (.obj l C fs)), rt := fun o => ∃ x, o = .err x ∧ f a = .err x }) :
    ts { nx := fun _ H' => Q .non H', rt := Q } (L2.start N vs) H := by
  obtain ⟨B, a, p, dx, ws, rfl, hp, hb, e, r, k⟩ := h
  have nb : f a ≠ .bad := fun z => by
    rw [z] at k
    exact k
  have hN := hl a
  generalize hH0 : (fun b => if b = p then none else H b : Hp) = H0
  have n0 : H0 p = none := by
    rw [← hH0]
    exact if_pos rfl
  have k0 : ∀ b, b ≠ p → H0 b = H b := fun b hb' => by
    rw [← hH0]
    exact if_neg hb'
  have e0 : Ex H0 H := fun b o q => by
    rw [← k0 b (ne_of_none q n0)]
    exact q
  have eB0 : Ex B H0 := fun b o q => by
    rw [k0 b (ne_of_none q hb)]
    exact e b o q
  have S0 : Slots K H0 B H (L2.start (N.drop 1) ws) ((enc a).map (fun d => some (SV.d d)) ++ List.replicate ((N.drop 1).length - (enc a).length) none) :=
    let S := start_slots (N := N.drop 1) e r (by rw [List.length_drop]; omega)
    ⟨S.len, e0, e, (fun i s q => by
      obtain ⟨v, h1, h2⟩ := S.ok i s q
      refine ⟨v, h1, ?_⟩
      cases s with
      | d x => exact h2
      | own ds =>
        obtain ⟨l, vs, _, z0, _, zl, _⟩ := h2
        rw [z0] at zl
        cases zl
      | obj l C fs =>
        obtain ⟨dx, vs, _, z0, _, zl, _⟩ := h2
        rw [z0] at zl
        cases zl), S.ap⟩
  have hst : L2.start N (.ref p :: ws) = some (.ref p) :: L2.start (N.drop 1) ws := by
    unfold L2.start
    rw [List.map_cons, List.cons_append, List.length_drop, List.length_cons]
    congr 3
    omega
  have nomine : ∀ (j : Nat) (t : SV), ((enc a).map (fun d => some (SV.d d)) ++ List.replicate ((N.drop 1).length - (enc a).length) none)[j]? = some (some t) → t.mine = false := fun j t q => by
    by_cases c : j < ((enc a).map (fun d => some (SV.d d))).length
    · rw [List.getElem?_append_left c, List.getElem?_map] at q
      cases z : (enc a)[j]? with
      | none =>
        rw [z] at q
        cases q
      | some d =>
        rw [z] at q
        have q' := Option.some.inj (Option.some.inj q)
        subst q'
        rfl
    · rw [List.getElem?_append_right (by omega), List.getElem?_replicate] at q
      split at q <;> cases q
  have S1 : Slots K H0 B H (L2.start N (.ref p :: ws)) (some (.obj p C []) :: ((enc a).map (fun d => some (SV.d d)) ++ List.replicate (N.length - 1 - (enc a).length) none)) := by
    rw [hst]
    have eL : N.length - 1 - (enc a).length = (N.drop 1).length - (enc a).length := by rw [List.length_drop]
    rw [eL]
    refine ⟨by rw [List.length_cons, List.length_cons, S0.len], e0, e, fun i s q => ?_, fun i j si sj v q1 q2 m1 m2 _ _ => ?_⟩
    · cases i with
      | zero =>
        have q' := Option.some.inj (Option.some.inj q)
        subst q'
        exact ⟨.ref p, rfl, dx, [], rfl, n0, hb, hp, .nil⟩
      | succ i => exact S0.ok i s q
    · cases i with
      | zero =>
        cases j with
        | zero => rfl
        | succ j =>
          have z := nomine j sj q2
          rw [m2] at z
          cases z
      | succ i =>
        have z := nomine i si q1
        rw [m1] at z
        cases z
  refine hr a p nb B H0 B H _ ⟨Ex.refl B, e, e0, fun _ _ _ q => q⟩ S1 _ ⟨fun ρ ⟨fs, q, q0⟩ B' H' σ g S => ?_, fun ρ q => q.elim, fun ρ q => q.elim, fun d ⟨x, q, _⟩ => (nomatch q), fun d ⟨x, q, _⟩ => (nomatch q), fun x ⟨y, q, q2⟩ B' H' g => ?_, fun x g' d ⟨y, q, _⟩ => (nomatch q)⟩
  · rw [q] at k
    obtain ⟨v, h1, dy, fv, e1, h0, hb', hl', r'⟩ := S.ok 0 _ q0
    exact k B' H' dy fv g.bb g.bh (fun b o z c => g.hh b o (by rw [k0 b c]; exact z)) (fun b o z c zb => g.fr b o (by rw [k0 b c]; exact z) zb) hb' hl' r'
  · cases q
    rw [q2] at k
    exact k B' H' g.bb g.bh (fun b o z c => g.hh b o (by rw [k0 b c]; exact z)) (fun b o z c zb => g.fr b o (by rw [k0 b c]; exact z) zb)
end
end
end Cs
namespace Cs
open PySem PySem.Spec PyProof.Rows L2 Evl
theorem PrI.len {K : PySem.W.Frag} {ca : Er → Addr} {C : Addr} {α : Type} {enc : α → List D} {f : α → OutI} {n : Nat} (h : ∀ a, (enc a).length + 1 = n) : ∀ vs H Q E, PrI K ca C enc f vs H Q E → vs.length = n := fun vs H Q E ⟨B, a, p, dx, ws, e, _, _, _, r, _⟩ => by
  rw [e, List.length_cons, r.len]
  exact h a
/-- a def that is promised nothing -/
theorem fn_none {P : Program} {w : World} {K : PySem.W.Frag} {mg : Str → Option Value} {base : Heap} {CX : CXT} {k : Nat} {f : Addr} {fd : FuncData} {ps : List Str} {sp : Sp} (h : ∀ vs H Q E, ¬ sp vs H Q E) : FnOk P w K mg base CX k f fd ps sp :=
  ⟨fun vs H Q E q => (h vs H Q E q).elim, fun A outer s H args us vs Q E hr he hb hv hs => (h vs H Q E hs).elim⟩
/-- an error of the class at S is what «except S» names -/
theorem exm_self {K : PySem.W.Frag} {S : Addr} (h1 : PySem.W.subIn K (.ref S) (.type "BaseException") = some true) (h2 : PySem.W.isClsIn K S = true) (h3 : PySem.W.typeIn K (.ref S) = some (.type "type")) (h4 : PySem.W.subIn K (.ref S) (.ref S) = some true) :
    PySem.W.exmOne K (.ref S) (.ref S) = some true := by
  have e1 : (PySem.W.subIn K (.ref S) (.type "BaseException") == some true) = true := by rw [h1] <;> rfl
  have e2 : ((PySem.W.clsIn K S).isSome && PySem.W.typeIn K (.ref S) == some (.type "type")) = true := by
    have h2' : (PySem.W.clsIn K S).isSome = true := h2
    rw [h2', h3] <;> rfl
  show (if (PySem.W.subIn K (.ref S) (.type "BaseException") == some true) = true then (if ((PySem.W.clsIn K S).isSome && PySem.W.typeIn K (.ref S) == some (.type "type")) = true then PySem.W.subIn K (.ref S) (.ref S) else none) else none) = some true
  rw [if_pos e1, if_pos e2]
  exact h4
/-- the law's promise -/
def spLaw (K : PySem.W.Frag) (ca : Er → Addr) : Sp := Pr K ca (fun ns : { l : List Int // l.length ≤ 63 } => [.scr ns.1]) (fun _ => .ok (.bl true))
theorem law_start {K : PySem.W.Frag} (ca : Er → Addr) (H : Hp) (a : Addr) (ns : List Int) (hl : ns.length ≤ 63) (hS : SqL K H a (ns.map V.int)) : spLaw K ca [.ref a] H (fun v _ => v = .bl true) fun _ _ _ => False :=
  ⟨H, ⟨ns, hl⟩, Ex.refl H, .cons (.scr hS) .nil, fun v B' H' _ r => by
    cases r
    rfl⟩
end Cs
namespace Cs
open PySem PySem.Spec PyProof.Rows L2 Evl
theorem bF {b : Bool} (h : (!b) = true) : b = false := by cases b <;> simp_all
theorem bT {b : Bool} (h : (!b) = false) : b = true := by cases b <;> simp_all
theorem putD_lt {f : Str} {d : D} {n : Nat} : ∀ {fs : List (Str × D)}, fs.length < n → (putD f d fs).length < n + 1
  | [], h => by show 1 < n + 1; omega
  | (g, x) :: r, h => by
    unfold putD
    by_cases c : g = f
    · rw [if_pos c]
      exact Nat.lt_succ_of_lt h
    · rw [if_neg c]
      have := putD_lt (f := f) (d := d) (n := n - 1) (fs := r) (by rw [List.length_cons] at h; omega)
      rw [List.length_cons]
      rw [List.length_cons] at h
      omega
end Cs
/-! ### rules with the written part named (within comprehensions) -/
namespace Cs
open PySem PySem.Spec PyProof.Rows L2 Evl
theorem smallLen {n : Nat} (h : Nat.ble n 1000 = true) : n ≤ sizeLine := Nat.le_trans (Nat.le_of_ble_eq_true h) (by decide)
section
variable {X : Cx} {K : PySem.W.Frag} {a b e : Expr} {ta tb te : TE} {pos : Pos}
theorem op_plusK (h : X.K = K) : OpR X (binaryOp .Add) (rPlus K) := h ▸ op_plus
theorem op_eqDK (h : X.K = K) (hu : X.A.units + 64 < cLine) : OpR X (compareOp .Eq) (rEqD K) := h ▸ op_eqD hu
theorem op_neDK (h : X.K = K) (hu : X.A.units + 64 < cLine) : OpR X (compareOp .NotEq) (rNeD K) := h ▸ op_neD hu
theorem ix_seqK (h : X.K = K) : IxR X (rIx K) := h ▸ ix_seq
theorem sl_anyK (h : X.K = K) : SlR X (rSlL K) := h ▸ sl_list
theorem call_lenK (h : X.K = K) : CallR X (.builtin "len") (rLenX K) := h ▸ call_len
theorem call_isiX (h : X.K = K) : CallR X (.builtin "isinstance") (rIsi K) := h ▸ call_isi
theorem cr_sumK (h : X.K = K) (hc : X.calm = true) : CallR X (.builtin "sum") (rSum K) := h ▸ cr_sum hc
theorem cr_allK (h : X.K = K) (hc : X.calm = true) : CallR X (.builtin "all") (rAll K) := h ▸ cr_all hc
theorem cr_anyK (h : X.K = K) (hc : X.calm = true) : CallR X (.builtin "any") (rAny K) := h ▸ cr_any hc
theorem cr_maxK (h : X.K = K) (hc : X.calm = true) : CallR X (.builtin "max") (rMax K) := h ▸ cr_max hc
theorem cr_minK (h : X.K = K) (hc : X.calm = true) : CallR X (.builtin "min") (rMin K) := h ▸ cr_min hc
theorem pe_fldK {f : Str} (h : X.K = K) (he : PE X e ta) (hb : attributeBase e f X.env (eval e X.env) = eval e X.env) : PE X (.Attribute e f pos) (tFld K ta f) := h ▸ pe_fld he hb
theorem pt_truK (h : X.K = K) (ha : PE X e ta) (he : ∀ whole, isTrue e X.env whole = (do let v ← whole; standAt e.pos; holding [v] (truthy v)) := by intro _; rfl) : PT X e (tTru K ta) := h ▸ pt_tru ha he
theorem pi_seqK {tg : Expr} (h : X.K = K) (ha : PE X e te) : PI X tg e (iSeq K te) := h ▸ pi_seq ha
theorem pg_tupK {es : List Expr} {k : Nat} {t : TGs} {n : Nat} (hK : X.K = K) (hc : X.calm = true) (h : PGs X es t)
    (hn : (assignEach es X.env).length = n := by rfl) (hst : (assignEach es X.env).findIdx? (·.1) = none := by rfl) : PG X (.Tuple es k pos) (gTup K n t) := hK ▸ pg_tup hc h hn hst
end
end Cs
namespace Cs
open PySem PySem.Spec PyProof.Rows L2 Evl
section
variable {K : PySem.W.Frag} {ρ : En} {te : TE}
/-- [e for x in xs], one name, no test -/
theorem evo_lcM {β : Type} {wi : TI} {j : Nat} {xs : List β} (enc f : β → D) (hi : ItD K wi ρ (xs.map enc)) (hz : xs.length ≤ 1000000) (hs : ∀ x, x ∈ xs → EvD K te ((wipeE ρ [j]).set j (some (.d (enc x)))) (f x)) : EvO K (tLc wi (gName j) tYes te [j]) ρ (xs.map f) := by
  have z := evo_lc (K := K) (te := te) (tt := tYes) (g := gName j) (vs := [j]) (fun _ => true) (fun i => (xs[i]?.map f).getD .non) hi (by rw [List.length_map]; exact hz) (fun i x hx => by
    rw [List.getElem?_map] at hx
    cases he : xs[i]? with
    | none => rw [he] at hx; cases hx
    | some y =>
      rw [he] at hx
      have hx' := Option.some.inj hx
      subst hx'
      refine ⟨_, _, tg_name, fun j hj => hj, et_yes, fun _ => ?_⟩
      exact hs y (List.mem_of_getElem? he))
  have e : ((List.range (xs.map enc).length).filter fun _ => true).map (fun i => (xs[i]?.map f).getD .non) = xs.map f := by
    rw [List.filter_eq_self.mpr fun _ _ => rfl, List.length_map]
    apply List.ext_getElem?
    intro i
    rw [List.getElem?_map, List.getElem?_map]
    by_cases h : i < xs.length
    · rw [List.getElem?_range h, List.getElem?_eq_getElem h]
      show some ((xs[i]?.map f).getD .non) = some (f xs[i])
      rw [List.getElem?_eq_getElem h]
      rfl
    · rw [List.getElem?_eq_none (by rw [List.length_range]; omega), List.getElem?_eq_none (by omega)]
      rfl
  rw [e] at z
  exact z
end
end Cs

namespace Cs
open PySem PySem.Spec PyProof.Rows L2 Evl
section
variable {X : Cx} {K : PySem.W.Frag} {ρ : En} {ta tb te : TE} {t : TA}
/-! ### isqrt -/
def rIsq : List V → Hp → VK → Prop := fun vs H Q => ∃ a : Int, vs = [.int a] ∧ 0 ≤ a ∧ a.toNat.log2 ≤ 13000 ∧ Q (.int ((Float64.isqrt a.toNat : Nat) : Int)) H
theorem vals_one {v : V} {us : List Value} (r : Vals [v] us) : ∃ u, us = [u] ∧ RelV v u := by
  cases r with
  | cons h t =>
    cases t
    exact ⟨_, rfl, h⟩
theorem cr_isqrt : CallR X (.builtin "math.isqrt") rIsq := by
  intro pins s σ H vs us Q I r h
  obtain ⟨a, rfl, h0, h1, q⟩ := h
  obtain ⟨u, rfl, t, rfl⟩ := vals_one r
  exact PySem.call_function_meets PySem.W.MGF.kind_isqrt PySem.W.MGF.plain_isqrt PySem.W.MGF.entry_isqrt (PySem.W.MGF.args_isqrt _) (PySem.W.mg_run_isqrt a t (by omega) (by omega) (by omega)).meets ⟨.int _, H, I.tok _, ⟨_, rfl⟩, q⟩
theorem ev_isqrt {n : Int} (h : EvD K ta ρ (.int n)) (h0 : 0 ≤ n) (h1 : n.toNat.log2 ≤ 13000) : EvD K (tCB rIsq (tCons ta tNil)) ρ (.int ((Float64.isqrt n.toNat : Nat) : Int)) := fun H0 B H σ S Q q => h H0 B H σ S _ fun v B1 H1 g1 r => by
  cases r
  exact ⟨n, rfl, h0, h1, q _ B1 H1 g1 (.int _)⟩
/-! ### min, max of a tuple -/
def rMinT (K : PySem.W.Frag) : List V → Hp → VK → Prop := fun vs H Q => ∃ (a : Addr) (x : Int) (xs : List Int), vs = [V.ref a] ∧ SqT K H a ((x :: xs).map V.int) ∧ Q (.int (PySem.W.minOf x xs)) H
def rMaxT (K : PySem.W.Frag) : List V → Hp → VK → Prop := fun vs H Q => ∃ (a : Addr) (x : Int) (xs : List Int), vs = [V.ref a] ∧ SqT K H a ((x :: xs).map V.int) ∧ Q (.int (PySem.W.maxOf x xs)) H
theorem holdAll_ints {h : Heap} : ∀ {ns : List Int} {us : List Value}, Vals (ns.map V.int) us → PySem.W.HoldAll h us ns
  | [], _, r => by
    cases r
    exact ⟨_, ReadsAll.nil⟩
  | n :: ns, _, r => by
    cases r with
    | cons r1 r2 =>
      obtain ⟨t, rfl⟩ := r1
      obtain ⟨as, q⟩ := holdAll_ints (h := h) r2
      exact ⟨_, ReadsAll.cons (Reads.int n t) q⟩
theorem holds_int {h : Heap} {v : Value} {n : Int} (x : PySem.W.Holds h v n) : ∃ t, v = .int n t := by
  obtain ⟨as, r⟩ := x
  cases r
  exact ⟨_, rfl⟩
theorem cr_minT (hc : X.calm = true) (hu : X.A.units + 64 < cLine) : CallR X (.builtin "min") (rMinT X.K) := by
  intro pins s σ H vs us Q I r h
  obtain ⟨a, x, xs, rfl, hs, q⟩ := h
  obtain ⟨its, rv, hl, _⟩ := I.tuple hs
  obtain ⟨u, rfl, ru⟩ := vals_one r
  cases (show u = Value.ref a from ru)
  refine PySem.W.min_tuple_datum (α := Int) (x := x) (xs := xs) (I.ok.hd hc) (let ⟨o, h1, h2, n, h3⟩ := hl; ⟨o, h1, h2, n, h3⟩) (by simpa using holdAll_ints rv) (Nat.lt_of_le_of_lt (show X.A.units + 1 + PySem.W.Datum.depth Int ≤ X.A.units + 64 by have : PySem.W.Datum.depth Int ≤ 63 := (by decide); omega) hu) fun i v h' tk hi hv hk => ?_
  obtain ⟨t, rfl⟩ := holds_int hv
  exact ⟨.int _, H, I.kept hk, ⟨_, rfl⟩, q⟩
theorem cr_maxT (hc : X.calm = true) (hu : X.A.units + 64 < cLine) : CallR X (.builtin "max") (rMaxT X.K) := by
  intro pins s σ H vs us Q I r h
  obtain ⟨a, x, xs, rfl, hs, q⟩ := h
  obtain ⟨its, rv, hl, _⟩ := I.tuple hs
  obtain ⟨u, rfl, ru⟩ := vals_one r
  cases (show u = Value.ref a from ru)
  refine PySem.W.max_tuple_datum (α := Int) (x := x) (xs := xs) (I.ok.hd hc) (let ⟨o, h1, h2, n, h3⟩ := hl; ⟨o, h1, h2, n, h3⟩) (by simpa using holdAll_ints rv) (Nat.lt_of_le_of_lt (show X.A.units + 1 + PySem.W.Datum.depth Int ≤ X.A.units + 64 by have : PySem.W.Datum.depth Int ≤ 63 := (by decide); omega) hu) fun i v h' tk hi hv hk => ?_
  obtain ⟨t, rfl⟩ := holds_int hv
  exact ⟨.int _, H, I.kept hk, ⟨_, rfl⟩, q⟩
def rMinA (K : PySem.W.Frag) : List V → Hp → VK → Prop := fun vs H Q => rMin K vs H Q ∨ rMinT K vs H Q
def rMaxA (K : PySem.W.Frag) : List V → Hp → VK → Prop := fun vs H Q => rMax K vs H Q ∨ rMaxT K vs H Q
theorem cr_minA (h : X.K = K) (hc : X.calm = true) (hu : X.A.units + 64 < cLine) : CallR X (.builtin "min") (rMinA K) := h ▸ (cr_min hc).or (cr_minT hc hu)
theorem cr_maxA (h : X.K = K) (hc : X.calm = true) (hu : X.A.units + 64 < cLine) : CallR X (.builtin "max") (rMaxA K) := h ▸ (cr_max hc).or (cr_maxT hc hu)
theorem ev_minT {x : Int} {xs : List Int} (h : EvD K ta ρ (.tup ((x :: xs).map D.int))) : EvD K (tCB (rMinA K) (tCons ta tNil)) ρ (.int (PySem.W.minOf x xs)) := fun H0 B H σ S Q q => h H0 B H σ S _ fun v B1 H1 g1 r => by
  cases r with
  | tup s r => exact .inr ⟨_, x, xs, rfl, by rw [← r.ints]; exact ex_t g1.bh s, q _ B1 H1 g1 (.int _)⟩
theorem ev_maxT {x : Int} {xs : List Int} (h : EvD K ta ρ (.tup ((x :: xs).map D.int))) : EvD K (tCB (rMaxA K) (tCons ta tNil)) ρ (.int (PySem.W.maxOf x xs)) := fun H0 B H σ S Q q => h H0 B H σ S _ fun v B1 H1 g1 r => by
  cases r with
  | tup s r => exact .inr ⟨_, x, xs, rfl, by rw [← r.ints]; exact ex_t g1.bh s, q _ B1 H1 g1 (.int _)⟩
theorem ev_minAL {ns : List Int} {m : Int} (ha : EvL K ta ρ (ns.map D.int)) (hn : 0 < ns.length) (hm : ∀ k, k ∈ ns → (∀ y, y ∈ ns → k ≤ y) → k = m) : EvD K (tCB (rMinA K) (tCons ta tNil)) ρ (.int m) := fun H0 B H σ S Q q => ha H0 B H σ S _ fun p B1 H1 vs g1 h1 r1 => .inl ⟨p, ns, rfl, by rw [← r1.ints]; exact sq_of h1, hn, fun k h2 h3 => by rw [hm k h2 h3]; exact q _ B1 H1 g1 (.int _)⟩
theorem ev_maxAL {ns : List Int} {m : Int} (ha : EvL K ta ρ (ns.map D.int)) (hn : 0 < ns.length) (hm : ∀ k, k ∈ ns → (∀ y, y ∈ ns → y ≤ k) → k = m) : EvD K (tCB (rMaxA K) (tCons ta tNil)) ρ (.int m) := fun H0 B H σ S Q q => ha H0 B H σ S _ fun p B1 H1 vs g1 h1 r1 => .inl ⟨p, ns, rfl, by rw [← r1.ints]; exact sq_of h1, hn, fun k h2 h3 => by rw [hm k h2 h3]; exact q _ B1 H1 g1 (.int _)⟩
/-! ### tuples joined -/
theorem ev_catT2 {xs ys : List D} (ha : EvD K ta ρ (.tup xs)) (hb : EvD K tb ρ (.tup ys)) (h1 : xs ≠ []) (h2 : ys ≠ []) (hl : xs.length + ys.length ≤ sizeLine) : EvD K (tOp (rPlus K) ta tb) ρ (.tup (xs ++ ys)) :=
  ev_catT ha hb h1 h2 hl fun a b vs us H Q s1 s2 k1 k2 hz k => ⟨a, b, vs, us, rfl, rfl, s1, s2, k1, hz, fun z => absurd z k2, fun _ p hp => k p hp⟩
theorem cmulWB {m n : Int} (h1 : m.natAbs < 2 ^ 1000) (h2 : n.natAbs < 2 ^ 1000) : CMulW m n := by
  have a : ∀ k : Nat, k < 2 ^ 1000 → k.log2 < 1000 := fun k hk => by
    by_cases z : k = 0
    · subst z
      decide
    · exact (Nat.log2_lt z).mpr hk
  have := a _ h1
  have := a _ h2
  unfold CMulW
  omega
theorem cdivWB {m n : Int} (h1 : 0 < n) (h2 : n.natAbs < 2 ^ 1000) : CDivW m n := by
  refine ⟨h1, ?_⟩
  have := (Nat.log2_lt (show n.natAbs ≠ 0 by omega)).mpr h2
  omega
end
end Cs
namespace Cs
open PySem PySem.Spec PyProof.Rows L2 Evl
section
variable {K : PySem.W.Frag} {ρ : En} {ta tb te : TE}
theorem ev_eqI {m n : Int} (ha : EvD K ta ρ (.int m)) (hb : EvD K tb ρ (.int n)) : EvD K (tOp (rEqD K) ta tb) ρ (.bl (decide (m = n))) := ev_eqD ha hb rfl rfl rfl rfl (by
  by_cases h : m = n
  · rw [decide_eq_true h, h]
    exact SeqAt.eqv_refl (.int n) rfl
  · rw [decide_eq_false h]
    show (m == n) = false
    exact beq_eq_false_iff_ne.mpr h)
theorem ev_neI {m n : Int} (ha : EvD K ta ρ (.int m)) (hb : EvD K tb ρ (.int n)) : EvD K (tOp (rNeD K) ta tb) ρ (.bl (decide (m ≠ n))) := by
  refine ev_is (ev_neD ha hb rfl rfl rfl rfl (k := decide (m = n)) ?_) (congrArg D.bl (by by_cases h : m = n <;> simp [h]))
  by_cases h : m = n
  · rw [decide_eq_true h, h]
    exact SeqAt.eqv_refl (.int n) rfl
  · rw [decide_eq_false h]
    show (m == n) = false
    exact beq_eq_false_iff_ne.mpr h
/-- [x for x in xs if p]: one name, one test -/
theorem evo_lcF {β : Type} {wi : TI} {j : Nat} {xs : List β} {tt : TT} (enc f : β → D) (p : β → Bool) (hi : ItD K wi ρ (xs.map enc)) (hz : xs.length ≤ 1000000)
    (ht : ∀ x, x ∈ xs → EvT K tt ((wipeE ρ [j]).set j (some (.d (enc x)))) (p x)) (hs : ∀ x, x ∈ xs → p x = true → EvD K te ((wipeE ρ [j]).set j (some (.d (enc x)))) (f x)) : EvO K (tLc wi (gName j) tt te [j]) ρ ((xs.filter p).map f) := by
  have z := evo_lc (K := K) (te := te) (tt := tt) (g := gName j) (vs := [j]) (fun i => (xs[i]?.map p).getD false) (fun i => (xs[i]?.map f).getD .non) hi (by rw [List.length_map]; exact hz) (fun i x hx => by
    rw [List.getElem?_map] at hx
    cases he : xs[i]? with
    | none => rw [he] at hx; cases hx
    | some y =>
      rw [he] at hx
      have hx' := Option.some.inj hx
      subst hx'
      exact ⟨_, _, tg_name, fun j hj => hj, ht y (List.mem_of_getElem? he), fun hp => hs y (List.mem_of_getElem? he) hp⟩)
  have e : ∀ ys : List β, ((List.range ys.length).filter fun i => (ys[i]?.map p).getD false).map (fun i => (ys[i]?.map f).getD .non) = (ys.filter p).map f := by
    intro ys
    induction ys with
    | nil => rfl
    | cons y r ih =>
      rw [List.length_cons, List.range_succ_eq_map, List.filter_cons, List.filter_map]
      have e1 : ((fun i => ((y :: r)[i]?.map p).getD false) ∘ Nat.succ) = fun i => (r[i]?.map p).getD false := rfl
      rw [e1]
      show List.map _ (if p y = true then 0 :: _ else _) = _
      rw [List.filter_cons]
      by_cases h : p y = true
      · rw [if_pos h, if_pos h, List.map_cons, List.map_cons, List.map_map]
        exact congrArg (f y :: ·) ih
      · rw [if_neg h, if_neg h, List.map_map]
        exact ih
  rw [List.length_map, e] at z
  exact z
end
end Cs

/-! law_k01_whole_numbers_and_intervals: text, facts, derivations (printed by tools/gen.py), promises and readings (blocks) -/
namespace Lw
open PySem PySem.Spec PyProof.Rows L2 Cs
open Evl (Ex ex_t ex_l sq_of st_of)
theorem propGuard {p : Prop} (h : p) : p := h
local macro_rules | `(tactic| walk_at "side") => `(tactic| first
  | ((with_reducible apply propGuard); first | (with_reducible rfl) | assumption | (exact smallLen rfl) | (exact cmulR (by omega) (by omega)) | (exact cmulL (by omega) (by omega)) | (exact cdivS (by omega) (by omega)) | (exact ⟨by decide, by decide, by decide⟩) | omega | exact rfl | (decide) | skip)
  | skip)
theorem guardD {K : PySem.W.Frag} {ρ : En} {te : TE} {d : D} (h : EvD K te ρ d) : EvD K te ρ d := h
theorem guardT {K : PySem.W.Frag} {ρ : En} {te : TT} {d : Bool} (h : EvT K te ρ d) : EvT K te ρ d := h
theorem guardA {K : PySem.W.Frag} {ρ : En} {te : TA} {d : List D} (h : EvA K te ρ d) : EvA K te ρ d := h
theorem guardL {K : PySem.W.Frag} {ρ : En} {te : TE} {d : List D} (h : EvL K te ρ d) : EvL K te ρ d := h
theorem guardO {K : PySem.W.Frag} {ρ : En} {te : TE} {d : List D} (h : EvO K te ρ d) : EvO K te ρ d := h
theorem guardP {K : PySem.W.Frag} {ρ : En} {te : TO} {d : Option Int} (h : EvP K te ρ d) : EvP K te ρ d := h
local macro_rules | `(tactic| walk_at "noev") => `(tactic| ((fail_if_success (with_reducible apply guardD)); (fail_if_success (with_reducible apply guardT)); (fail_if_success (with_reducible apply guardA)); (fail_if_success (with_reducible apply guardL)); (fail_if_success (with_reducible apply guardO)); (fail_if_success (with_reducible apply guardP))))
local macro_rules | `(tactic| walk_at "go") => `(tactic| first | walk_at "ev" | (intro _; walk_at "ev") | (walk_at "noev"; walk_at "side"))
local macro_rules | `(tactic| walk_at "start") => `(tactic| dsimp only [cxOf, List.map, List.length, List.length_cons, List.length_nil, List.replicate, List.cons_append, List.nil_append, Nat.reduceAdd, Nat.reduceSub])
local macro_rules | `(tactic| walk_at "env") => `(tactic| dsimp only [List.set])
local macro_rules | `(tactic| walk_at "ev") => `(tactic| first
  | with_reducible exact ev_int
  | with_reducible exact ev_str
  | ((with_reducible refine ev_is ev_int ?_); exact rfl)
  | with_reducible exact ev_bl
  | with_reducible exact ev_non
  | with_reducible exact ea_nil
  | with_reducible exact et_yes
  | with_reducible exact ep_none
  | ((with_reducible apply ev_var); exact rfl)
  | ((with_reducible apply evl_own); exact rfl)
  | assumption
  | ((with_reducible apply evo_lst) <;> walk_at "go")
  | ((with_reducible apply evo_cat) <;> walk_at "go")
  | ((with_reducible apply evo_rep) <;> walk_at "go")
  | ((with_reducible apply evo_slice) <;> walk_at "go")
  | ((with_reducible apply evo_call) <;> walk_at "go")
  | ((with_reducible apply evo_callS) <;> walk_at "go")
  | ((with_reducible apply ea_cons) <;> walk_at "go")
  | ((with_reducible apply ev_add) <;> walk_at "go")
  | ((with_reducible apply ev_sub) <;> walk_at "go")
  | ((with_reducible apply ev_neg) <;> walk_at "go")
  | ((with_reducible apply ev_mul) <;> walk_at "go")
  | ((with_reducible apply ev_mod) <;> walk_at "go")
  | ((with_reducible apply ev_div) <;> walk_at "go")
  | ((with_reducible apply ev_pow) <;> walk_at "go")
  | ((with_reducible apply ev_cmp) <;> walk_at "go")
  | ((with_reducible apply ev_chainI) <;> walk_at "go")
  | ((with_reducible apply ev_isN) <;> walk_at "go")
  | ((with_reducible apply ev_notN) <;> walk_at "go")
  | ((with_reducible apply ev_eqI) <;> walk_at "go")
  | ((with_reducible apply ev_neI) <;> walk_at "go")
  | ((with_reducible apply ev_eqD) <;> walk_at "go")
  | ((with_reducible apply ev_neD) <;> walk_at "go")
  | ((with_reducible apply ev_and) <;> walk_at "go")
  | ((with_reducible apply ev_or) <;> walk_at "go")
  | ((with_reducible apply et_and) <;> walk_at "go")
  | ((with_reducible apply et_or) <;> walk_at "go")
  | ((with_reducible apply ev_not) <;> walk_at "go")
  | ((with_reducible apply ev_lenL) <;> walk_at "go")
  | ((with_reducible apply ev_lenT) <;> walk_at "go")
  | ((with_reducible apply ev_lenScr) <;> walk_at "go")
  | ((with_reducible apply ev_ixT) <;> walk_at "go")
  | ((with_reducible apply ev_ixL) <;> walk_at "go")
  | ((with_reducible apply ev_ixScr) <;> walk_at "go")
  | ((with_reducible apply ev_cb (hr := ca_abs)) <;> walk_at "go")
  | ((with_reducible apply ev_cb (hr := ca_int)) <;> walk_at "go")
  | ((with_reducible apply ev_cb (hr := ca_max2)) <;> walk_at "go")
  | ((with_reducible apply ev_cb (hr := ca_min2)) <;> walk_at "go")
  | ((with_reducible apply ev_isi) <;> walk_at "go")
  | ((with_reducible apply ev_tup) <;> walk_at "go")
  | ((with_reducible apply ev_fld) <;> walk_at "go")
  | ((with_reducible apply ev_call) <;> walk_at "go")
  | ((with_reducible apply ev_callS) <;> walk_at "go")
  | ((with_reducible apply ep_some) <;> walk_at "go")
  | ((with_reducible apply et_test) <;> walk_at "go")
  | ((with_reducible apply et_not) <;> walk_at "go")
  | ((with_reducible apply EvO.toD) <;> walk_at "go")
  | ((with_reducible apply guardL); first | ((with_reducible apply EvO.toL) <;> walk_at "go") | ((with_reducible apply EvD.toL) <;> walk_at "go")))
def topS (i : Nat) : Stmt := PySem.Challenge.pw_coastersafe_k01_whole_numbers_and_interv.main.body.getD i (.Pass ⟨0, 0, 0, 0⟩)
abbrev s_divided_down : Stmt := topS 5
theorem sc_divided_down : FnScope ["number", "divisor"] ["number", "divisor"] (defScope s_divided_down) := ⟨rfl, rfl, rfl, by decide +kernel, rfl, by decide +kernel, by decide +kernel⟩
abbrev s_divided_up : Stmt := topS 6
theorem sc_divided_up : FnScope ["number", "divisor"] ["number", "divisor"] (defScope s_divided_up) := ⟨rfl, rfl, rfl, by decide +kernel, rfl, by decide +kernel, by decide +kernel⟩
abbrev s_root_down : Stmt := topS 7
theorem sc_root_down : FnScope ["number"] ["number"] (defScope s_root_down) := ⟨rfl, rfl, rfl, by decide +kernel, rfl, by decide +kernel, by decide +kernel⟩
abbrev s_root_up : Stmt := topS 8
theorem sc_root_up : FnScope ["number", "root"] ["number"] (defScope s_root_up) := ⟨rfl, rfl, rfl, by decide +kernel, rfl, by decide +kernel, by decide +kernel⟩
abbrev s_is_interval : Stmt := topS 9
theorem sc_is_interval : FnScope ["pair"] ["pair"] (defScope s_is_interval) := ⟨rfl, rfl, rfl, by decide +kernel, rfl, by decide +kernel, by decide +kernel⟩
abbrev s_added : Stmt := topS 10
theorem sc_added : FnScope ["first", "second"] ["first", "second"] (defScope s_added) := ⟨rfl, rfl, rfl, by decide +kernel, rfl, by decide +kernel, by decide +kernel⟩
abbrev s_hull : Stmt := topS 11
theorem sc_hull : FnScope ["first", "second"] ["first", "second"] (defScope s_hull) := ⟨rfl, rfl, rfl, by decide +kernel, rfl, by decide +kernel, by decide +kernel⟩
abbrev s_common : Stmt := topS 12
theorem sc_common : FnScope ["first", "second", "both"] ["first", "second"] (defScope s_common) := ⟨rfl, rfl, rfl, by decide +kernel, rfl, by decide +kernel, by decide +kernel⟩
abbrev s__law_cell : Stmt := topS 14
theorem sc__law_cell : FnScope ["script", "k"] ["script", "k"] (defScope s__law_cell) := ⟨rfl, rfl, rfl, by decide +kernel, rfl, by decide +kernel, by decide +kernel⟩
abbrev s__law_draws : Stmt := topS 15
theorem sc__law_draws : FnScope ["cell", "count", "rows", "left", "k", "mixed"] ["cell", "count"] (defScope s__law_draws) := ⟨rfl, rfl, rfl, by decide +kernel, rfl, by decide +kernel, by decide +kernel⟩
abbrev s__law_like : Stmt := topS 16
theorem sc__law_like : FnScope ["actual", "due", "k"] ["actual", "due"] (defScope s__law_like) := ⟨rfl, rfl, rfl, by decide +kernel, rfl, by decide +kernel, by decide +kernel⟩
abbrev s__law_refused : Stmt := topS 17
theorem sc__law_refused : FnScope ["sort", "number"] ["sort", "number"] (defScope s__law_refused) := ⟨rfl, rfl, rfl, by decide +kernel, rfl, by decide +kernel, by decide +kernel⟩
abbrev s_law : Stmt := topS 18
theorem sc_law : FnScope ["script", "draws", "great", "number", "divisor", "down", "up", "low", "high", "first", "second", "both", "k", "due", "pair", "sort"] ["script"] (defScope s_law) := ⟨rfl, rfl, rfl, by decide +kernel, rfl, by decide +kernel, by decide +kernel⟩
structure Txt (K : PySem.W.Frag) (mg : Str → Option Value) where
  ca : Er → Addr
  a_divided_down : Addr
  d_divided_down : FuncData
  F_divided_down : Fun K "divided_down" "divided_down" s_divided_down a_divided_down d_divided_down
  b_divided_down : Binds K d_divided_down ["number", "divisor"] []
  g_divided_down : mg "divided_down" = some (.ref a_divided_down)
  a_divided_up : Addr
  d_divided_up : FuncData
  F_divided_up : Fun K "divided_up" "divided_up" s_divided_up a_divided_up d_divided_up
  b_divided_up : Binds K d_divided_up ["number", "divisor"] []
  g_divided_up : mg "divided_up" = some (.ref a_divided_up)
  a_root_down : Addr
  d_root_down : FuncData
  F_root_down : Fun K "root_down" "root_down" s_root_down a_root_down d_root_down
  b_root_down : Binds K d_root_down ["number"] []
  g_root_down : mg "root_down" = some (.ref a_root_down)
  a_root_up : Addr
  d_root_up : FuncData
  F_root_up : Fun K "root_up" "root_up" s_root_up a_root_up d_root_up
  b_root_up : Binds K d_root_up ["number"] []
  g_root_up : mg "root_up" = some (.ref a_root_up)
  a_is_interval : Addr
  d_is_interval : FuncData
  F_is_interval : Fun K "is_interval" "is_interval" s_is_interval a_is_interval d_is_interval
  b_is_interval : Binds K d_is_interval ["pair"] []
  g_is_interval : mg "is_interval" = some (.ref a_is_interval)
  a_added : Addr
  d_added : FuncData
  F_added : Fun K "added" "added" s_added a_added d_added
  b_added : Binds K d_added ["first", "second"] []
  g_added : mg "added" = some (.ref a_added)
  a_hull : Addr
  d_hull : FuncData
  F_hull : Fun K "hull" "hull" s_hull a_hull d_hull
  b_hull : Binds K d_hull ["first", "second"] []
  g_hull : mg "hull" = some (.ref a_hull)
  a_common : Addr
  d_common : FuncData
  F_common : Fun K "common" "common" s_common a_common d_common
  b_common : Binds K d_common ["first", "second"] []
  g_common : mg "common" = some (.ref a_common)
  a__law_cell : Addr
  d__law_cell : FuncData
  F__law_cell : Fun K "_law_cell" "_law_cell" s__law_cell a__law_cell d__law_cell
  b__law_cell : Binds K d__law_cell ["script", "k"] []
  g__law_cell : mg "_law_cell" = some (.ref a__law_cell)
  a__law_draws : Addr
  d__law_draws : FuncData
  F__law_draws : Fun K "_law_draws" "_law_draws" s__law_draws a__law_draws d__law_draws
  b__law_draws : Binds K d__law_draws ["cell", "count"] []
  g__law_draws : mg "_law_draws" = some (.ref a__law_draws)
  a__law_like : Addr
  d__law_like : FuncData
  F__law_like : Fun K "_law_like" "_law_like" s__law_like a__law_like d__law_like
  b__law_like : Binds K d__law_like ["actual", "due"] []
  g__law_like : mg "_law_like" = some (.ref a__law_like)
  a__law_refused : Addr
  d__law_refused : FuncData
  F__law_refused : Fun K "_law_refused" "_law_refused" s__law_refused a__law_refused d__law_refused
  b__law_refused : Binds K d__law_refused ["sort", "number"] []
  g__law_refused : mg "_law_refused" = some (.ref a__law_refused)
  a_law : Addr
  d_law : FuncData
  F_law : Fun K "law" "law" s_law a_law d_law
  b_law : Binds K d_law ["script"] []
  g_law : mg "law" = some (.ref a_law)
  g_CoasterError : mg "CoasterError" = some (.ref (ca .coasterError))
  te_CoasterError : PySem.W.exmOne K (.ref (ca .coasterError)) (.ref (ca .coasterError)) = some true
  x_CoasterError : PySem.W.excIn K (ca .coasterError) [.type "ValueError", .type "Exception", .type "BaseException", .type "object"] "ValueError.__new__" = true
  kk_CoasterError : PySem.W.keepIn K (.ref (ca .coasterError)) = true
  bb_CoasterError : PySem.W.subIn K (.ref (ca .coasterError)) (.type "BaseException") = some true
  tt_CoasterError : PySem.W.typeIn K (.ref (ca .coasterError)) = some (.type "type")
  g_BadNumber : mg "BadNumber" = some (.ref (ca .badNumber))
  te_BadNumber : PySem.W.exmOne K (.ref (ca .badNumber)) (.ref (ca .badNumber)) = some true
  x_BadNumber : PySem.W.excIn K (ca .badNumber) [.type "ValueError", .type "Exception", .type "BaseException", .type "object"] "ValueError.__new__" = true
  kk_BadNumber : PySem.W.keepIn K (.ref (ca .badNumber)) = true
  bb_BadNumber : PySem.W.subIn K (.ref (ca .badNumber)) (.type "BaseException") = some true
  tt_BadNumber : PySem.W.typeIn K (.ref (ca .badNumber)) = some (.type "type")
  z_abs : mg "abs" = none
  z_all : mg "all" = none
  z_bool : mg "bool" = none
  z_int : mg "int" = none
  z_isinstance : mg "isinstance" = none
  z_len : mg "len" = none
  z_list : mg "list" = none
  z_max : mg "max" = none
  z_min : mg "min" = none
  z_range : mg "range" = none
  z_str : mg "str" = none
  z_tuple : mg "tuple" = none
  m_isqrt : mg "isqrt" = some (.builtin "math.isqrt")
section
variable {P : Program} {w : World} {K : PySem.W.Frag} {mg : Str → Option Value} {base : Heap}
theorem ok_divided_down (T : Txt K mg) : FnOk P w K mg base (L2.CX P w) 1 T.a_divided_down T.d_divided_down ["number", "divisor"] (Pr K T.ca (fun a : Int × Int => [.int a.1, .int a.2]) (fun a => if a.2 < 1 then .err .badNumber else if a.2.natAbs < 2 ^ 1000 then .ok (.int (a.1 / a.2)) else .bad)) := by
  refine T.F_divided_down.okX sc_divided_down (Pr.len (fun _ => rfl)) (fun cdv A outer s H vs Q E hr h => ⟨_, (pss_cons (ps_if (pt_cmpR op_lt (pv 1) pe_int (nomark _)) (pss_one (ps_raise rfl (takes_of rfl rfl rfl rfl) (pmk_own PySem.F.excBase_ValueError T.x_BadNumber T.g_BadNumber T.kk_BadNumber (raises_own T.bb_BadNumber T.tt_BadNumber) (by exact rfl)))) pss_nil)
      (pss_one (ps_ret (pe_op op_fdivW (pv 0) (pv 1))))), body h (fun _ => by simp only [List.length_cons, List.length_nil]; omega) (fun a nb => ?_)⟩)
  obtain ⟨n, d⟩ := a
  walk_at "start"
  by_cases c : d < 1
  · rw [if_pos c]
    refine seq_if (p := true) (et_is (et_test (ev_cmp (ev_var rfl) ev_int)) (decide_eq_true c)) (fun _ => seq_raise rfl) (fun z => nomatch z)
  · have hb : d.natAbs < 2 ^ 1000 := by
      by_cases h : d.natAbs < 2 ^ 1000
      · exact h
      · refine absurd ?_ nb
        show (if d < 1 then _ else if d.natAbs < 2 ^ 1000 then _ else _) = _
        rw [if_neg c, if_neg h]
    rw [if_neg c, if_pos hb]
    refine seq_if (p := false) (et_is (et_test (ev_cmp (ev_var rfl) ev_int)) (decide_eq_false c)) (fun z => nomatch z) (fun _ => seq_next ?_)
    exact run_ret (ev_div (ev_var rfl) (ev_var rfl) (cdivWB (by omega) hb)) rfl
theorem ok_divided_up (T : Txt K mg) : FnOk P w K mg base (L2.CX P w) 2 T.a_divided_up T.d_divided_up ["number", "divisor"] (Pr K T.ca (fun a : Int × Int => [.int a.1, .int a.2]) (fun a => if a.2 < 1 then .err .badNumber else if a.2.natAbs < 2 ^ 1000 then .ok (.int (-(-a.1 / a.2))) else .bad)) := by
  have G_divided_down := ok_divided_down (P := P) (w := w) (base := base) T
  refine T.F_divided_up.okX sc_divided_up (Pr.len (fun _ => rfl)) (fun cdv A outer s H vs Q E hr h => ⟨_, (pss_one (ps_ret (pe_un un_neg (pe_call G_divided_down (hr.mono (by first | decide | omega)) (by rfl) T.g_divided_down T.F_divided_down.kp T.b_divided_down .nil (passes_call (takes_of rfl rfl rfl rfl) (fun _ _ _ _ h => h)) (pa_cons (pe_un un_neg (pv 0)) (pa_cons (pv 1) pa_nil)))))), body h (fun _ => by simp only [List.length_cons, List.length_nil]; omega) (fun a nb => ?_)⟩)
  obtain ⟨n, d⟩ := a
  walk_at "start"
  by_cases c : d < 1
  · rw [if_pos c]
    exact run_retX (ex_un (ex_call (A := (-n, d)) (ea_cons (ev_neg (ev_var rfl)) (ea_cons (ev_var rfl) ea_nil)) (if_pos c))) rfl
  · have hb : d.natAbs < 2 ^ 1000 := by
      by_cases h : d.natAbs < 2 ^ 1000
      · exact h
      · refine absurd ?_ nb
        show (if d < 1 then _ else if d.natAbs < 2 ^ 1000 then _ else _) = _
        rw [if_neg c, if_neg h]
    rw [if_neg c, if_pos hb]
    exact run_ret (ev_neg (ev_call (A := (-n, d)) (ea_cons (ev_neg (ev_var rfl)) (ea_cons (ev_var rfl) ea_nil)) ((if_neg c).trans (if_pos hb)))) rfl
def isq (n : Int) : Int := ((Float64.isqrt n.toNat : Nat) : Int)
theorem isq_nn (n : Int) : 0 ≤ isq n := Int.natCast_nonneg _
theorem isq_spec {n : Int} (h : 0 ≤ n) : isq n * isq n ≤ n ∧ n < (isq n + 1) * (isq n + 1) := by
  obtain ⟨h1, h2⟩ := PySem.Float64.isqrt_spec n.toNat
  unfold isq
  generalize Float64.isqrt n.toNat = q at h1 h2
  obtain ⟨m, rfl⟩ := Int.eq_ofNat_of_zero_le h
  rw [Int.toNat_natCast] at h1 h2
  constructor
  · exact_mod_cast h1
  · exact_mod_cast h2
theorem isq_le {n : Int} (h : 0 ≤ n) : isq n ≤ n := by
  have h1 := (isq_spec h).1
  have h2 := isq_nn n
  by_cases c : isq n ≤ 1
  · by_cases c0 : isq n = 0
    · omega
    · have e : isq n = 1 := by omega
      rw [e] at h1
      omega
  · have := Int.mul_le_mul_of_nonneg_right (show 1 ≤ isq n by omega) h2
    omega
theorem ok_root_down (T : Txt K mg) : FnOk P w K mg base (L2.CX P w) 1 T.a_root_down T.d_root_down ["number"] (Pr K T.ca (fun n : Int => [.int n]) (fun n => if n < 0 then .err .badNumber else if n.natAbs < 2 ^ 1000 then .ok (.int (isq n)) else .bad)) := by
  refine T.F_root_down.okX sc_root_down (Pr.len (fun _ => rfl)) (fun cdv A outer s H vs Q E hr h => ⟨_, (pss_cons (ps_if (pt_cmpR op_lt (pv 0) pe_int (nomark _)) (pss_one (ps_raise rfl (takes_of rfl rfl rfl rfl) (pmk_own PySem.F.excBase_ValueError T.x_BadNumber T.g_BadNumber T.kk_BadNumber (raises_own T.bb_BadNumber T.tt_BadNumber) (by exact rfl)))) pss_nil)
      (pss_one (ps_ret (pe_callBfun cr_isqrt (by rfl) T.m_isqrt (pa_cons (pv 0) pa_nil))))), body h (fun _ => by simp only [List.length_cons, List.length_nil]; omega) (fun a nb => ?_)⟩)
  walk_at "start"
  by_cases c : a < 0
  · rw [if_pos c]
    refine seq_if (p := true) (et_is (et_test (ev_cmp (ev_var rfl) ev_int)) (decide_eq_true c)) (fun _ => seq_raise rfl) (fun z => nomatch z)
  · have hb : a.natAbs < 2 ^ 1000 := by
      by_cases h : a.natAbs < 2 ^ 1000
      · exact h
      · refine absurd ?_ nb
        show (if a < 0 then _ else if a.natAbs < 2 ^ 1000 then _ else _) = _
        rw [if_neg c, if_neg h]
    rw [if_neg c, if_pos hb]
    refine seq_if (p := false) (et_is (et_test (ev_cmp (ev_var rfl) ev_int)) (decide_eq_false c)) (fun z => nomatch z) (fun _ => seq_next ?_)
    refine run_ret (ev_isqrt (ev_var rfl) (by omega) ?_) rfl
    have hn : a.toNat < 2 ^ 1000 := by omega
    by_cases z : a.toNat = 0
    · rw [z]
      decide
    · exact Nat.le_trans (Nat.le_of_lt ((Nat.log2_lt z).mpr hn)) (by decide)
def isqU (n : Int) : Int := if isq n * isq n < n then isq n + 1 else isq n
theorem ok_root_up (T : Txt K mg) : FnOk P w K mg base (L2.CX P w) 2 T.a_root_up T.d_root_up ["number"] (Pr K T.ca (fun n : Int => [.int n]) (fun n => if n < 0 then .err .badNumber else if n.natAbs < 2 ^ 1000 then .ok (.int (isqU n)) else .bad)) := by
  have G_root_down := ok_root_down (P := P) (w := w) (base := base) T
  refine T.F_root_up.okX sc_root_up (Pr.len (fun _ => rfl)) (fun cdv A outer s H vs Q E hr h => ⟨_, (pss_cons (ps_set (i := 1) sc_root_up.nd (by rfl) (by first | exact Or.inl rfl | exact Or.inr rfl) (pe_call G_root_down (hr.mono (by first | decide | omega)) (by rfl) T.g_root_down T.F_root_down.kp T.b_root_down .nil (passes_call (takes_of rfl rfl rfl rfl) (fun _ _ _ _ h => h)) (pa_cons (pv 0) pa_nil)))
      (pss_cons (ps_if (pt_cmpR op_lt (pe_op op_times (pv 1) (pv 1)) (pv 0) (nomark _)) (pss_one (ps_ret (pe_op (op_plusK (K := K) rfl) (pv 1) pe_int))) pss_nil)
      (pss_one (ps_ret (pv 1))))), body h (fun _ => by simp only [List.length_cons, List.length_nil]; omega) (fun a nb => ?_)⟩)
  walk_at "start"
  by_cases c : a < 0
  · rw [if_pos c]
    exact seq_asgX (ex_call (A := a) (ea_cons (ev_var rfl) ea_nil) (if_pos c)) rfl
  · have hb : a.natAbs < 2 ^ 1000 := by
      by_cases h : a.natAbs < 2 ^ 1000
      · exact h
      · refine absurd ?_ nb
        show (if a < 0 then _ else if a.natAbs < 2 ^ 1000 then _ else _) = _
        rw [if_neg c, if_neg h]
    rw [if_neg c, if_pos hb]
    refine seq1 (asg (d := .int (isq a)) (ev_call (A := a) (ea_cons (ev_var rfl) ea_nil) ((if_neg c).trans (if_pos hb)))) ?_
    walk_at "env"
    have hq := isq_le (show 0 ≤ a by omega)
    have hq0 := isq_nn a
    have hm : CMulW (isq a) (isq a) := cmulWB (by omega) (by omega)
    by_cases z : isq a * isq a < a
    · refine seq_if (p := true) (et_is (et_test (ev_cmp (ev_mulW (ev_var rfl) (ev_var rfl) hm) (ev_var rfl))) (decide_eq_true z)) (fun _ => ?_) (fun z => nomatch z)
      refine seq_ret (ev_is (ev_add (ev_var rfl) ev_int) ?_) rfl
      unfold isqU
      rw [if_pos z]
    · refine seq_if (p := false) (et_is (et_test (ev_cmp (ev_mulW (ev_var rfl) (ev_var rfl) hm) (ev_var rfl))) (decide_eq_false z)) (fun z => nomatch z) (fun _ => seq_next ?_)
      refine run_ret (ev_is (ev_var rfl) ?_) rfl
      unfold isqU
      rw [if_neg z]
def isIv : List Int → Bool
  | [a, b] => decide (a ≤ b)
  | _ => false
theorem ok_is_interval (T : Txt K mg) : FnOk P w K mg base (L2.CX P w) 1 T.a_is_interval T.d_is_interval ["pair"] (Pr K T.ca (fun ns : List Int => [.tup (ns.map D.int)]) (fun ns => .ok (.bl (isIv ns)))) := by
  refine T.F_is_interval.okX sc_is_interval (Pr.len (fun _ => rfl)) (fun cdv A outer s H vs Q E hr h => ⟨_, (pss_one (ps_ret (pe_and (pe_cmpR (op_eqDK (K := K) rfl hr.units) (pe_callB (call_lenK (K := K) rfl) (by rfl) T.z_len (by decide +kernel) (pa_cons (pv 0) pa_nil)) pe_int (nomark _)) (pe_one (pe_cmpR op_le (pe_ix (ix_seqK (K := K) rfl) (pv 0) pe_int (fun _ _ => rfl)) (pe_ix (ix_seqK (K := K) rfl) (pv 0) pe_int (fun _ _ => rfl)) (nomark _)))))), body h (fun _ => by simp only [List.length_cons, List.length_nil]; omega) (fun a nb => ?_)⟩)
  walk_at "start"
  refine run_ret (ev_is (a := .bl (decide (a.length = 2) && isIv a)) (ev_and ?_ fun c => ?_) ?_) rfl
  · refine ev_eqD (ev_lenT (ev_var rfl)) ev_int rfl rfl rfl rfl ?_
    rw [List.length_map]
    show ((a.length : Int) == 2) = decide (a.length = 2)
    by_cases h : a.length = 2
    · rw [h, decide_eq_true rfl]
      rfl
    · rw [decide_eq_false h]
      exact beq_eq_false_iff_ne.mpr (by omega)
  · have c' := of_decide_eq_true c
    match a, c' with
    | [x, y], _ =>
      refine ev_is (b := .bl (isIv [x, y])) (a := .bl (decide (x ≤ y))) ?_ rfl
      walk_at "ev"
  · congr 1
    match a with
    | [] => rfl
    | [_] => rfl
    | [_, _] => rfl
    | _ :: _ :: _ :: _ => rfl
theorem ok_added (T : Txt K mg) : FnOk P w K mg base (L2.CX P w) 1 T.a_added T.d_added ["first", "second"] (Pr K T.ca (fun a : Int × Int × Int × Int => [.tup [.int a.1, .int a.2.1], .tup [.int a.2.2.1, .int a.2.2.2]]) (fun a => .ok (.tup [.int (a.1 + a.2.2.1), .int (a.2.1 + a.2.2.2)]))) := by
  refine T.F_added.okX sc_added (Pr.len (fun _ => rfl)) (fun cdv A outer s H vs Q E hr h => ⟨_, (pss_one (ps_ret (pe_tup (pa_cons (pe_op (op_plusK (K := K) rfl) (pe_ix (ix_seqK (K := K) rfl) (pv 0) pe_int (fun _ _ => rfl)) (pe_ix (ix_seqK (K := K) rfl) (pv 1) pe_int (fun _ _ => rfl))) (pa_cons (pe_op (op_plusK (K := K) rfl) (pe_ix (ix_seqK (K := K) rfl) (pv 0) pe_int (fun _ _ => rfl)) (pe_ix (ix_seqK (K := K) rfl) (pv 1) pe_int (fun _ _ => rfl))) pa_nil))))), body h (fun _ => by simp only [List.length_cons, List.length_nil]; omega) (fun a nb => ?_)⟩)
  obtain ⟨a1, a2, b1, b2⟩ := a
  walk_at "start"
  refine run_ret (d := .tup [.int (a1 + b1), .int (a2 + b2)]) ?_ rfl
  walk_at "ev"
def mn (i j : Int) : Int := if j < i then j else i
def mx (i j : Int) : Int := if j > i then j else i
theorem ok_hull (T : Txt K mg) : FnOk P w K mg base (L2.CX P w) 1 T.a_hull T.d_hull ["first", "second"] (Pr K T.ca (fun a : Int × Int × Int × Int => [.tup [.int a.1, .int a.2.1], .tup [.int a.2.2.1, .int a.2.2.2]]) (fun a => .ok (.tup [.int (mn a.1 a.2.2.1), .int (mx a.2.1 a.2.2.2)]))) := by
  refine T.F_hull.okX sc_hull (Pr.len (fun _ => rfl)) (fun cdv A outer s H vs Q E hr h => ⟨_, (pss_one (ps_ret (pe_tup (pa_cons (pe_callB (call_min2 rfl) (by rfl) T.z_min (by decide +kernel) (pa_cons (pe_ix (ix_seqK (K := K) rfl) (pv 0) pe_int (fun _ _ => rfl)) (pa_cons (pe_ix (ix_seqK (K := K) rfl) (pv 1) pe_int (fun _ _ => rfl)) pa_nil))) (pa_cons (pe_callB (call_max2 rfl) (by rfl) T.z_max (by decide +kernel) (pa_cons (pe_ix (ix_seqK (K := K) rfl) (pv 0) pe_int (fun _ _ => rfl)) (pa_cons (pe_ix (ix_seqK (K := K) rfl) (pv 1) pe_int (fun _ _ => rfl)) pa_nil))) pa_nil))))), body h (fun _ => by simp only [List.length_cons, List.length_nil]; omega) (fun a nb => ?_)⟩)
  obtain ⟨a1, a2, b1, b2⟩ := a
  walk_at "start"
  refine run_ret (d := .tup [.int (if b1 < a1 then b1 else a1), .int (if b2 > a2 then b2 else a2)]) ?_ rfl
  walk_at "ev"
theorem ok_common (T : Txt K mg) : FnOk P w K mg base (L2.CX P w) 2 T.a_common T.d_common ["first", "second"] (Pr K T.ca (fun a : Int × Int × Int × Int => [.tup [.int a.1, .int a.2.1], .tup [.int a.2.2.1, .int a.2.2.2]]) (fun a => .ok (if mx a.1 a.2.2.1 ≤ mn a.2.1 a.2.2.2 then .tup [.int (mx a.1 a.2.2.1), .int (mn a.2.1 a.2.2.2)] else .non))) := by
  have G_is_interval := ok_is_interval (P := P) (w := w) (base := base) T
  refine T.F_common.okX sc_common (Pr.len (fun _ => rfl)) (fun cdv A outer s H vs Q E hr h => ⟨_, (pss_cons (ps_set (i := 2) sc_common.nd (by rfl) (by first | exact Or.inl rfl | exact Or.inr rfl) (pe_tup (pa_cons (pe_callB (call_max2 rfl) (by rfl) T.z_max (by decide +kernel) (pa_cons (pe_ix (ix_seqK (K := K) rfl) (pv 0) pe_int (fun _ _ => rfl)) (pa_cons (pe_ix (ix_seqK (K := K) rfl) (pv 1) pe_int (fun _ _ => rfl)) pa_nil))) (pa_cons (pe_callB (call_min2 rfl) (by rfl) T.z_min (by decide +kernel) (pa_cons (pe_ix (ix_seqK (K := K) rfl) (pv 0) pe_int (fun _ _ => rfl)) (pa_cons (pe_ix (ix_seqK (K := K) rfl) (pv 1) pe_int (fun _ _ => rfl)) pa_nil))) pa_nil))))
      (pss_cons (ps_if (pt_truK (K := K) rfl (pe_call G_is_interval (hr.mono (by first | decide | omega)) (by rfl) T.g_is_interval T.F_is_interval.kp T.b_is_interval .nil (passes_call (takes_of rfl rfl rfl rfl) (fun _ _ _ _ h => h)) (pa_cons (pv 2) pa_nil))) (pss_one (ps_ret (pv 2))) pss_nil)
      (pss_one (ps_ret pe_non)))), body h (fun _ => by simp only [List.length_cons, List.length_nil]; omega) (fun a nb => ?_)⟩)
  obtain ⟨a1, a2, b1, b2⟩ := a
  walk_at "start"
  refine seq1 (asg (d := .tup [.int (mx a1 b1), .int (mn a2 b2)]) ?_) ?_
  · show EvD K _ _ (.tup [.int (if b1 > a1 then b1 else a1), .int (if b2 < a2 then b2 else a2)])
    walk_at "ev"
  walk_at "env"
  refine seq_if (p := decide (mx a1 b1 ≤ mn a2 b2)) (et_tru (ev_call (A := [mx a1 b1, mn a2 b2]) (ea_cons (ev_var rfl) ea_nil) rfl) rfl) (fun c => ?_) (fun c => seq_next ?_)
  · exact seq_ret (ev_var rfl) (by rw [if_pos (of_decide_eq_true c)])
  · exact run_ret ev_non (by rw [if_neg (of_decide_eq_false c)])
def cellAt (ns : List Int) (k : Nat) : Int := ((ns.getD k 0).natAbs : Nat)
theorem cellAt_nn (ns : List Int) (k : Nat) : 0 ≤ cellAt ns k := Int.natCast_nonneg _
theorem ok__law_cell (T : Txt K mg) : FnOk P w K mg base (L2.CX P w) 1 T.a__law_cell T.d__law_cell ["script", "k"] (Pr K T.ca (fun a : List Int × Nat => [.scr a.1, .int a.2]) (fun a => .ok (.int (cellAt a.1 a.2)))) := by
  refine T.F__law_cell.okX sc__law_cell (Pr.len (fun _ => rfl)) (fun cdv A outer s H vs Q E hr h => ⟨_, (pss_cons (ps_if (pt_cmpR op_lt (pv 1) (pe_callB (call_lenK (K := K) rfl) (by rfl) T.z_len (by decide +kernel) (pa_cons (pv 0) pa_nil)) (nomark _)) (pss_one (ps_ret (pe_callB call_abs (by rfl) T.z_abs (by decide +kernel) (pa_cons (pe_callTy call_int1 (by rfl) T.z_int (by decide +kernel) (pa_cons (pe_ix (ix_seqK (K := K) rfl) (pv 0) (pv 1) (fun _ _ => rfl)) pa_nil)) pa_nil)))) pss_nil)
      (pss_one (ps_ret pe_int))), body h (fun _ => by simp only [List.length_cons, List.length_nil]; omega) (fun a nb => ?_)⟩)
  obtain ⟨ns, k⟩ := a
  walk_at "start"
  refine seq_if (p := decide ((k : Int) < ns.length)) ?_ (fun c => ?_) (fun c => ?_)
  · walk_at "ev"
  · have c' : k < ns.length := by
      have := of_decide_eq_true c
      omega
    refine seq_ret (ev_is (ev_cb (ea_cons (ev_cb (ea_cons (ev_ixScr (m := ns[k]) (ev_var rfl) (ev_var rfl) ?_) ea_nil) ca_int) ea_nil) ca_abs) ?_) rfl
    · rw [atI_nat (List.getElem?_eq_getElem c')]
    · unfold cellAt
      rw [List.getD_eq_getElem?_getD, List.getElem?_eq_getElem c']
      show D.int _ = D.int ((ns[k].natAbs : Nat) : Int)
      congr 1
      split <;> omega
  · have c' : ¬ k < ns.length := by
      have := of_decide_eq_false c
      omega
    refine seq_next (run_ret (ev_is ev_int ?_) rfl)
    unfold cellAt
    rw [List.getD_eq_getElem?_getD, List.getElem?_eq_none (by omega)]
    rfl
def mix1 (cell : Int) (k : Int) : Int := (cell * 48271 + (k + 1) * 69621) % 2147483647
def mix2 (cell : Int) (k : Int) : Int := (mix1 cell k * mix1 cell k + mix1 cell k * 16807 + k * 7919) % 2147483629
def mix3 (cell : Int) (k : Int) : Int := (mix2 cell k * mix2 cell k + cell + 13 * k) % 2147483587
def drStep (cell : Int) (k : Nat) (st : List Int × Int) : List Int × Int :=
  if ((10 : Int) ^ (18 : Int).toNat ≤ cell) ∧ 0 < st.2 then (st.1 ++ [st.2 % 4096], st.2 / 4096) else (st.1 ++ [mix3 cell (0 + (k : Int)) / 7 % 4096], st.2)
def drs (cell : Int) : Nat → List Int × Int
  | 0 => ([], cell)
  | n + 1 => drStep cell n (drs cell n)
def draws (cell : Int) (n : Nat) : List Int := (drs cell n).1
theorem drs_len (cell : Int) : ∀ n, (drs cell n).1.length = n
  | 0 => rfl
  | n + 1 => by
    show (drStep cell n (drs cell n)).1.length = n + 1
    unfold drStep
    split
    · rw [List.length_append, drs_len cell n]; rfl
    · rw [List.length_append, drs_len cell n]; rfl
theorem draws_len (cell : Int) (n : Nat) : (draws cell n).length = n := drs_len cell n
theorem drs_bd (cell : Int) : ∀ n x, x ∈ (drs cell n).1 → 0 ≤ x ∧ x < 4096
  | 0, x, h => by cases h
  | n + 1, x, h => by
    have h' : x ∈ (drStep cell n (drs cell n)).1 := h
    unfold drStep at h'
    split at h'
    all_goals
      rcases List.mem_append.mp h' with h1 | h1
      · exact drs_bd cell n x h1
      · rw [List.mem_singleton] at h1
        omega
theorem draws_bd (cell : Int) (n : Nat) (x : Int) (h : x ∈ draws cell n) : 0 ≤ x ∧ x < 4096 := drs_bd cell n x h
/-- a draw -/
theorem draw_at (cell : Int) {n i : Nat} (h : i < n) : ∃ x, (draws cell n)[i]? = some x ∧ 0 ≤ x ∧ x < 4096 := by
  have hl : i < (draws cell n).length := by rw [draws_len]; exact h
  exact ⟨_, List.getElem?_eq_getElem hl, draws_bd cell n _ (List.getElem_mem hl)⟩
theorem mix1_bd (cell k : Int) : 0 ≤ mix1 cell k ∧ mix1 cell k < 2147483647 := by unfold mix1; omega
theorem mix2_bd (cell k : Int) : 0 ≤ mix2 cell k ∧ mix2 cell k < 2147483629 := by unfold mix2; omega
theorem ok__law_draws (T : Txt K mg) : FnOk P w K mg base (L2.CX P w) 1 T.a__law_draws T.d__law_draws ["cell", "count"] (Pr K T.ca (fun a : Int × Nat => [.int a.1, .int a.2]) (fun a => if 0 ≤ a.1 ∧ a.2 ≤ 1000 then .new ((draws a.1 a.2).map D.int) else .bad)) := by
  refine T.F__law_draws.okX sc__law_draws (Pr.len (fun _ => rfl)) (fun cdv A outer s H vs Q E hr h => ⟨_, (pss_cons (ps_set (i := 2) sc__law_draws.nd (by rfl) (by first | exact Or.inl rfl | exact Or.inr rfl) (pe_lst pa_nil))
      (pss_cons (ps_set (i := 3) sc__law_draws.nd (by rfl) (by first | exact Or.inl rfl | exact Or.inr rfl) (pv 0))
      (pss_cons (ps_for (passes_of rfl) rfl (pi_range1 (by rfl) T.z_range (pa_cons (pv 1) pa_nil)) (pg_name (i := 4) sc__law_draws.nd (by rfl) (by first | exact Or.inl rfl | exact Or.inr rfl)) (pss_one (ps_if (PW.pt (pw_and (pt_cmpR op_ge (pv 0) (pe_op op_pow pe_int pe_int) (nomark _)) (pw_and1 (pt_cmpR op_gt (pv 3) pe_int (nomark _))))) (pss_cons (ps_expr (pe_bm PySem.F.plainAttrs_list PySem.F.slot_list_append PySem.F.type_list_append mt_append (pv 2) (pa_cons (pe_op op_mod (pe_callTy call_int1 (by rfl) T.z_int (by decide +kernel) (pa_cons (pv 3) pa_nil)) pe_int) pa_nil)))
      (pss_one (ps_set (i := 3) sc__law_draws.nd (by rfl) (by first | exact Or.inl rfl | exact Or.inr rfl) (pe_op op_fdivW (pv 3) pe_int)))) (pss_cons (ps_set (i := 5) sc__law_draws.nd (by rfl) (by first | exact Or.inl rfl | exact Or.inr rfl) (pe_op op_mod (pe_callTy call_int1 (by rfl) T.z_int (by decide +kernel) (pa_cons (pe_op (op_plusK (K := K) rfl) (pe_op op_times (pv 0) pe_int) (pe_op op_times (pe_op (op_plusK (K := K) rfl) (pv 4) pe_int) pe_int)) pa_nil)) pe_int))
      (pss_cons (ps_set (i := 5) sc__law_draws.nd (by rfl) (by first | exact Or.inl rfl | exact Or.inr rfl) (pe_op op_mod (pe_callTy call_int1 (by rfl) T.z_int (by decide +kernel) (pa_cons (pe_op (op_plusK (K := K) rfl) (pe_op (op_plusK (K := K) rfl) (pe_op op_times (pv 5) (pv 5)) (pe_op op_times (pv 5) pe_int)) (pe_op op_times (pv 4) pe_int)) pa_nil)) pe_int))
      (pss_cons (ps_set (i := 5) sc__law_draws.nd (by rfl) (by first | exact Or.inl rfl | exact Or.inr rfl) (pe_op op_mod (pe_callTy call_int1 (by rfl) T.z_int (by decide +kernel) (pa_cons (pe_op (op_plusK (K := K) rfl) (pe_op (op_plusK (K := K) rfl) (pe_op op_times (pv 5) (pv 5)) (pv 0)) (pe_op op_times pe_int (pv 4))) pa_nil)) pe_int))
      (pss_one (ps_expr (pe_bm PySem.F.plainAttrs_list PySem.F.slot_list_append PySem.F.type_list_append mt_append (pv 2) (pa_cons (pe_op op_mod (pe_op op_fdivW (pv 5) pe_int) pe_int) pa_nil))))))))))
      (pss_one (ps_ret (pv 2)))))), body h (fun _ => by simp only [List.length_cons, List.length_nil]; omega) (fun a nb => ?_)⟩)
  obtain ⟨cell, count⟩ := a
  walk_at "start"
  have hc : 0 ≤ cell ∧ count ≤ 1000 := by
    by_cases c : 0 ≤ cell ∧ count ≤ 1000
    · exact c
    · exact absurd (if_neg c) nb
  rw [if_pos hc]
  obtain ⟨hc0, hcn⟩ := hc
  refine seq1 (asgO (ds := []) (by walk_at "ev")) ?_
  refine seq1 (asg (by walk_at "ev")) ?_
  walk_at "env"
  refine seq_for (it_rng1 (n := (count : Int)) (by walk_at "ev") (by omega) (by omega)) (fun i r => ∃ a b, r = [some (.d (.int cell)), some (.d (.int count)), some (.own ((drs cell i).1.map D.int)), some (.d (.int (drs cell i).2)), a, b]) (fun _ => False) ⟨none, none, rfl⟩ ?_ ?_
  · rintro i x r hx ⟨a, b, rfl⟩
    obtain ⟨hi, rfl⟩ := rng_get hx
    refine ⟨_, _, tg_name, ?_⟩
    walk_at "env"
    have hsz : ((drs cell i).1.map D.int).length < sizeLine := by
      rw [List.length_map, drs_len]
      exact small1000 (by omega)
    have e1 : drs cell (i + 1) = drStep cell i (drs cell i) := rfl
    refine run_if (p := decide ((10 : Int) ^ (18 : Int).toNat ≤ cell) && decide (0 < (drs cell i).2)) ?_ (fun c => ?_) (fun c => ?_)
    · refine et_and ?_ fun _ => ?_
      · walk_at "ev"
      · walk_at "ev"
    · have c' : ((10 : Int) ^ (18 : Int).toNat ≤ cell) ∧ 0 < (drs cell i).2 := by simpa using c
      refine seq1 (app (d := .int ((drs cell i).2 % 4096)) rfl (by walk_at "ev") hsz) ?_
      walk_at "env"
      refine last1 (asg (d := .int ((drs cell i).2 / 4096)) (by walk_at "ev")) ?_
      refine ⟨some (.d (.int (0 + (i : Int)))), b, ?_⟩
      rw [e1]
      unfold drStep
      rw [if_pos c', List.map_append]
      rfl
    · have c' : ¬ (((10 : Int) ^ (18 : Int).toNat ≤ cell) ∧ 0 < (drs cell i).2) := by simpa using c
      have b1 := mix1_bd cell (0 + (i : Int))
      have b2 := mix2_bd cell (0 + (i : Int))
      refine seq1 (asg (d := .int (mix1 cell (0 + (i : Int)))) (by unfold mix1; walk_at "ev")) ?_
      walk_at "env"
      refine seq1 (asg (d := .int (mix2 cell (0 + (i : Int)))) (by unfold mix2; walk_at "ev")) ?_
      walk_at "env"
      refine seq1 (asg (d := .int (mix3 cell (0 + (i : Int)))) (by unfold mix3; walk_at "ev")) ?_
      walk_at "env"
      refine last1 (app (d := .int (mix3 cell (0 + (i : Int)) / 7 % 4096)) rfl (by walk_at "ev") hsz) ?_
      refine ⟨some (.d (.int (0 + (i : Int)))), some (.d (.int (mix3 cell (0 + (i : Int))))), ?_⟩
      rw [e1]
      unfold drStep
      rw [if_neg c', List.map_append]
      rfl
  · rintro r (⟨a, b, rfl⟩ | h)
    · rw [rng_len]
      refine run_retOwn rfl ?_
      rfl
    · exact h.elim
mutual
/-- how deep data is -/
def dpt : D → Nat
  | .tup ds => dpts ds + 1
  | .lst ds => dpts ds + 1
  | _ => 1
def dpts : List D → Nat
  | [] => 0
  | d :: ds => max (dpt d) (dpts ds)
end
theorem dpts_mem {d : D} : ∀ {ds : List D}, d ∈ ds → dpt d ≤ dpts ds
  | x :: ds, h => by
    unfold dpts
    rcases List.mem_cons.mp h with rfl | h
    · exact Nat.le_max_left _ _
    · exact Nat.le_trans (dpts_mem h) (Nat.le_max_right _ _)
theorem noIns_mem {d : D} : ∀ {ds : List D}, noInss ds = true → d ∈ ds → noIns d = true
  | x :: ds, n, h => by
    unfold noInss at n
    rw [Bool.and_eq_true] at n
    rcases List.mem_cons.mp h with rfl | h
    · exact n.1
    · exact noIns_mem n.2 h
mutual
/-- every part is short -/
def shrt : D → Bool
  | .tup ds => decide (ds.length ≤ 100000) && shrts ds
  | .lst ds => decide (ds.length ≤ 100000) && shrts ds
  | _ => true
def shrts : List D → Bool
  | [] => true
  | d :: ds => shrt d && shrts ds
end
theorem shrt_mem {d : D} : ∀ {ds : List D}, shrts ds = true → d ∈ ds → shrt d = true
  | x :: ds, n, h => by
    unfold shrts at n
    rw [Bool.and_eq_true] at n
    rcases List.mem_cons.mp h with rfl | h
    · exact n.1
    · exact shrt_mem n.2 h
def lk (n : Nat) (d : D) : Out := if noIns d = true ∧ dpt d ≤ n ∧ shrt d = true then .ok (.bl true) else .bad
theorem range_filter_true (n : Nat) : (List.range n).filter (fun _ => true) = List.range n := List.filter_eq_self.mpr fun _ _ => rfl
theorem ok__law_like_n (T : Txt K mg) : ∀ n, FnOk P w K mg base (L2.CX P w) n T.a__law_like T.d__law_like ["actual", "due"] (Pr K T.ca (fun d : D => [d, d]) (lk n))
  | 0 => fn_none fun vs H Q E h => by
    obtain ⟨B, d, _, _, k⟩ := h
    have e : lk 0 d = .bad := if_neg fun z => by
      have := z.2.1
      cases d <;> unfold dpt at this <;> omega
    rw [e] at k
    exact k
  | n + 1 => by
    have G__law_like := ok__law_like_n T n
    refine T.F__law_like.okX sc__law_like (Pr.len (fun _ => rfl)) (fun cdv A outer s H vs Q E hr h => ⟨_, (pss_cons (ps_if (pt_cmpR op_isN1 (pv 1) pe_non (nomark _)) (pss_one (ps_ret (pe_cmpR op_isN1 (pv 0) pe_non (nomark _)))) pss_nil)
      (pss_cons (ps_if (pt_truK (K := K) rfl (pe_callB (call_isiX (K := K) rfl) (by rfl) T.z_isinstance (by decide +kernel) (pa_cons (pv 1) (pa_cons (pe_bltn (v := .ty "bool") (by rfl) T.z_bool (by decide +kernel) rfl) pa_nil)))) (pss_one (ps_ret (pe_and (pe_callB (call_isiX (K := K) rfl) (by rfl) T.z_isinstance (by decide +kernel) (pa_cons (pv 0) (pa_cons (pe_bltn (v := .ty "bool") (by rfl) T.z_bool (by decide +kernel) rfl) pa_nil))) (pe_one (pe_cmpR (op_eqDK (K := K) rfl hr.units) (pv 0) (pv 1) (nomark _)))))) pss_nil)
      (pss_cons (ps_if (pt_truK (K := K) rfl (pe_callB (call_isiX (K := K) rfl) (by rfl) T.z_isinstance (by decide +kernel) (pa_cons (pv 1) (pa_cons (pe_bltn (v := .ty "str") (by rfl) T.z_str (by decide +kernel) rfl) pa_nil)))) (pss_one (ps_ret (pe_and (pe_callB (call_isiX (K := K) rfl) (by rfl) T.z_isinstance (by decide +kernel) (pa_cons (pv 0) (pa_cons (pe_bltn (v := .ty "str") (by rfl) T.z_str (by decide +kernel) rfl) pa_nil))) (pe_one (pe_cmpR (op_eqDK (K := K) rfl hr.units) (pv 0) (pv 1) (nomark _)))))) pss_nil)
      (pss_cons (ps_if (pt_truK (K := K) rfl (pe_callB (call_isiX (K := K) rfl) (by rfl) T.z_isinstance (by decide +kernel) (pa_cons (pv 1) (pa_cons (pe_bltn (v := .ty "int") (by rfl) T.z_int (by decide +kernel) rfl) pa_nil)))) (pss_one (ps_ret (pe_and (pe_callB (call_isiX (K := K) rfl) (by rfl) T.z_isinstance (by decide +kernel) (pa_cons (pv 0) (pa_cons (pe_bltn (v := .ty "int") (by rfl) T.z_int (by decide +kernel) rfl) pa_nil))) (pe_and (pe_not (pe_callB (call_isiX (K := K) rfl) (by rfl) T.z_isinstance (by decide +kernel) (pa_cons (pv 0) (pa_cons (pe_bltn (v := .ty "bool") (by rfl) T.z_bool (by decide +kernel) rfl) pa_nil)))) (pe_one (pe_cmpR (op_eqDK (K := K) rfl hr.units) (pv 0) (pv 1) (nomark _))))))) pss_nil)
      (pss_cons (ps_if (PW.pt (pw_or (pt_cmpR (op_neDK (K := K) rfl hr.units) (pe_callB (call_isiX (K := K) rfl) (by rfl) T.z_isinstance (by decide +kernel) (pa_cons (pv 1) (pa_cons (pe_bltn (v := .ty "list") (by rfl) T.z_list (by decide +kernel) rfl) pa_nil))) (pe_callB (call_isiX (K := K) rfl) (by rfl) T.z_isinstance (by decide +kernel) (pa_cons (pv 0) (pa_cons (pe_bltn (v := .ty "list") (by rfl) T.z_list (by decide +kernel) rfl) pa_nil))) (nomark _)) (pw_or1 (pt_cmpR (op_neDK (K := K) rfl hr.units) (pe_callB (call_isiX (K := K) rfl) (by rfl) T.z_isinstance (by decide +kernel) (pa_cons (pv 1) (pa_cons (pe_bltn (v := .ty "tuple") (by rfl) T.z_tuple (by decide +kernel) rfl) pa_nil))) (pe_callB (call_isiX (K := K) rfl) (by rfl) T.z_isinstance (by decide +kernel) (pa_cons (pv 0) (pa_cons (pe_bltn (v := .ty "tuple") (by rfl) T.z_tuple (by decide +kernel) rfl) pa_nil))) (nomark _))))) (pss_one (ps_ret pe_bl)) pss_nil)
      (pss_cons (ps_if (pt_cmpR (op_neDK (K := K) rfl hr.units) (pe_callB (call_lenK (K := K) rfl) (by rfl) T.z_len (by decide +kernel) (pa_cons (pv 0) pa_nil)) (pe_callB (call_lenK (K := K) rfl) (by rfl) T.z_len (by decide +kernel) (pa_cons (pv 1) pa_nil)) (nomark _)) (pss_one (ps_ret pe_bl)) pss_nil)
      (pss_one (ps_ret (pe_callB (cr_allK (K := K) rfl rfl) (by rfl) T.z_all (by decide +kernel) (pa_cons (pe_lc (own := [("k", 2)]) (by rfl) sc__law_like.nd (pi_range1 (by rfl) T.z_range (pa_cons (pe_callB (call_lenK (K := K) rfl) (by rfl) T.z_len (by decide +kernel) (pa_cons (pv 1) pa_nil)) pa_nil)) (blkOk_by (own := [("k", 2)]) (N := ["actual", "due", "k"]) (sc := defScope s__law_like) (by decide +kernel)) (fun _ _ _ _ _ => (pg_name (i := 2) sc__law_like.nd (by rfl) (by first | exact Or.inl rfl | exact Or.inr rfl))) (fun _ _ _ _ _ => pts_nil) (fun _ _ _ _ _ => (pe_call G__law_like (hr.mono (by first | decide | omega)) (by rfl) T.g__law_like T.F__law_like.kp T.b__law_like .nil passL (pa_cons (pe_ix (ix_seqK (K := K) rfl) (pv 0) (pv 2) (fun _ _ => rfl)) (pa_cons (pe_ix (ix_seqK (K := K) rfl) (pv 1) (pv 2) (fun _ _ => rfl)) pa_nil))))) pa_nil)))))))))), body h (fun _ => by simp only [List.length_cons, List.length_nil]; omega) (fun d nb => ?_)⟩)
    walk_at "start"
    have hc : noIns d = true ∧ dpt d ≤ n + 1 ∧ shrt d = true := by
      by_cases c : noIns d = true ∧ dpt d ≤ n + 1 ∧ shrt d = true
      · exact c
      · exact absurd (if_neg c) nb
    have em : lk (n + 1) d = .ok (.bl true) := if_pos hc
    rw [em]
    obtain ⟨h1, h2, h3⟩ := hc
    have isi : ∀ (A T' : String) (k : Bool), tyD d = A → kitB A T' = some k → EvD K (tCB (rIsi K) (tCons (tVar 1) (tCons (tC (.ty T')) tNil))) [some (SV.d d), some (SV.d d), none] (.bl k) := fun A T' k e1 e => ev_isi (ev_var rfl) h1 (by rw [e1]; exact e)
    have isi0 : ∀ (A T' : String) (k : Bool), tyD d = A → kitB A T' = some k → EvD K (tCB (rIsi K) (tCons (tVar 0) (tCons (tC (.ty T')) tNil))) [some (SV.d d), some (SV.d d), none] (.bl k) := fun A T' k e1 e => ev_isi (ev_var rfl) h1 (by rw [e1]; exact e)
    -- due is None
    refine seq_if (p := d.isNon) ?_ (fun c => ?_) (fun c0 => ?_)
    · exact et_test (ev_isN (ev_var rfl))
    · refine seq_ret (ev_is (ev_isN (ev_var rfl)) ?_) rfl
      rw [c]
    refine seq_next ?_
    -- an atom's branches
    have eq1 : ∀ e : D, (toP e).canLay0 = true → noIns e = true → SeqAt.shaped (toP e) = true → EvD K (tOp (rEqD K) (tVar 0) (tVar 1)) [some (SV.d e), some (SV.d e), none] (.bl true) := fun e he hn hs => ev_eqD (ev_var rfl) (ev_var rfl) hn hn hs hs (SeqAt.eqv_refl _ he)
    have seqD : ∀ (ds : List D), (∀ x, x ∈ ds → lk n x = .ok (.bl true)) → ds.length ≤ 100000 → ∀ ρ : En, ρ.length = 3 → (∀ m : Int, ∀ x, atI ds m = some x → EvD K (tOp (rIx K) (tVar 0) (tVar 2)) (ρ.set 2 (some (SV.d (.int m)))) x ∧ EvD K (tOp (rIx K) (tVar 1) (tVar 2)) (ρ.set 2 (some (SV.d (.int m)))) x) → ρ[2]? = some none →
        EvD K (tCB (rLenX K) (tCons (tVar 1) tNil)) ρ (.int ds.length) →
        EvD K (tCB (rAll K) (tCons (tLc (iRng1 (tCons (tCB (rLenX K) (tCons (tVar 1) tNil)) tNil)) (gName 2) tYes (tCall (Pr K T.ca (fun d : D => [d, d]) (lk n)) [] E0 (tCons (tOp (rIx K) (tVar 0) (tVar 2)) (tCons (tOp (rIx K) (tVar 1) (tVar 2)) tNil))) [2]) tNil)) ρ (.bl true) := by
      intro ds hall hlen ρ h3 hix h2n hl
      have ew : wipeE ρ [2] = ρ := by
        show ρ.set 2 none = ρ
        apply List.ext_getElem?
        intro i
        by_cases c : 2 = i
        · subst c
          rw [List.getElem?_set_self (by omega), h2n]
        · rw [List.getElem?_set_ne c]
      refine ev_is (ev_all (bs := (List.range ds.length).map fun _ => true) (EvO.toL ?_)) (by simp)
      have z := evo_lc (K := K) (te := tCall (Pr K T.ca (fun d : D => [d, d]) (lk n)) [] E0 (tCons (tOp (rIx K) (tVar 0) (tVar 2)) (tCons (tOp (rIx K) (tVar 1) (tVar 2)) tNil))) (tt := tYes) (g := gName 2) (vs := [2]) (fun _ => true) (fun _ => .bl true) (it_rng1 (n := (ds.length : Int)) (ea_cons hl ea_nil) (by omega) (by omega)) (by rw [rng_len]; omega) (fun i x hx => by
        obtain ⟨hi, rfl⟩ := rng_get hx
        refine ⟨_, _, tg_name, fun j hj => hj, et_yes, fun _ => ?_⟩
        rw [ew]
        have hi' : i < ds.length := by omega
        have ha : atI ds (0 + (i : Int)) = some ds[i] := by rw [Int.zero_add, atI_nat (List.getElem?_eq_getElem hi')]
        obtain ⟨q1, q2⟩ := hix _ _ ha
        exact ev_call (A := ds[i]) (ea_cons q1 (ea_cons q2 ea_nil)) (hall _ (List.getElem_mem hi')))
      rw [rng_len, Int.toNat_natCast, range_filter_true] at z
      rw [List.map_map]
      exact z
    cases d with
    | non => cases c0
    | bl b =>
      refine seq_if (p := true) (et_tru (isi "bool" "bool" true rfl (by decide +kernel)) rfl) (fun _ => ?_) (fun z => nomatch z)
      exact seq_ret (ev_is (ev_and (isi0 "bool" "bool" true rfl (by decide +kernel)) fun _ => eq1 _ rfl rfl rfl) rfl) rfl
    | str b =>
      refine seq_if (p := false) (et_tru (isi "str" "bool" false rfl (by decide +kernel)) rfl) (fun z => nomatch z) (fun _ => seq_next ?_)
      refine seq_if (p := true) (et_tru (isi "str" "str" true rfl (by decide +kernel)) rfl) (fun _ => ?_) (fun z => nomatch z)
      exact seq_ret (ev_is (ev_and (isi0 "str" "str" true rfl (by decide +kernel)) fun _ => eq1 _ (by unfold noIns at h1; exact h1) h1 (by unfold noIns at h1; unfold SeqAt.shaped toP; rw [h1]; rfl)) rfl) rfl
    | int b =>
      refine seq_if (p := false) (et_tru (isi "int" "bool" false rfl (by decide +kernel)) rfl) (fun z => nomatch z) (fun _ => seq_next ?_)
      refine seq_if (p := false) (et_tru (isi "int" "str" false rfl (by decide +kernel)) rfl) (fun z => nomatch z) (fun _ => seq_next ?_)
      refine seq_if (p := true) (et_tru (isi "int" "int" true rfl (by decide +kernel)) rfl) (fun _ => ?_) (fun z => nomatch z)
      exact seq_ret (ev_is (ev_and (isi0 "int" "int" true rfl (by decide +kernel)) fun _ => ev_and (ev_not (isi0 "int" "bool" false rfl (by decide +kernel))) fun _ => eq1 _ rfl rfl rfl) rfl) rfl
    | ins C fs => cases h1
    | scr ns => cases h1
    | tup ds =>
      have hd : ∀ x, x ∈ ds → lk n x = .ok (.bl true) := fun x hx => if_pos ⟨noIns_mem (by unfold noIns at h1; exact h1) hx, by
        have := dpts_mem hx
        unfold dpt at h2
        omega, shrt_mem (by unfold shrt at h3; rw [Bool.and_eq_true] at h3; exact h3.2) hx⟩
      have hz : ds.length ≤ 100000 := by
        unfold shrt at h3
        rw [Bool.and_eq_true] at h3
        exact of_decide_eq_true h3.1
      refine seq_if (p := false) (et_tru (isi "tuple" "bool" false rfl (by decide +kernel)) rfl) (fun z => nomatch z) (fun _ => seq_next ?_)
      refine seq_if (p := false) (et_tru (isi "tuple" "str" false rfl (by decide +kernel)) rfl) (fun z => nomatch z) (fun _ => seq_next ?_)
      refine seq_if (p := false) (et_tru (isi "tuple" "int" false rfl (by decide +kernel)) rfl) (fun z => nomatch z) (fun _ => seq_next ?_)
      refine seq_if (p := false) ?_ (fun z => nomatch z) (fun _ => seq_next ?_)
      · refine et_is (et_or (p := false) (q := false) (et_test (ev_neD (isi "tuple" "list" false rfl (by decide +kernel)) (isi0 "tuple" "list" false rfl (by decide +kernel)) rfl rfl rfl rfl rfl)) fun _ => et_test (ev_neD (isi "tuple" "tuple" true rfl (by decide +kernel)) (isi0 "tuple" "tuple" true rfl (by decide +kernel)) rfl rfl rfl rfl rfl)) rfl
      refine seq_if (p := false) ?_ (fun z => nomatch z) (fun _ => seq_next ?_)
      · refine et_is (et_test (ev_neD (ev_lenT (ev_var rfl)) (ev_lenT (ev_var rfl)) rfl rfl rfl rfl (SeqAt.eqv_refl _ rfl))) rfl
      refine run_ret (seqD ds hd hz _ rfl (fun m x hx => ⟨ev_ixT (ev_var rfl) (ev_var rfl) hx, ev_ixT (ev_var rfl) (ev_var rfl) hx⟩) rfl (ev_lenT (ev_var rfl))) rfl
    | lst ds =>
      have hd : ∀ x, x ∈ ds → lk n x = .ok (.bl true) := fun x hx => if_pos ⟨noIns_mem (by unfold noIns at h1; exact h1) hx, by
        have := dpts_mem hx
        unfold dpt at h2
        omega, shrt_mem (by unfold shrt at h3; rw [Bool.and_eq_true] at h3; exact h3.2) hx⟩
      have hz : ds.length ≤ 100000 := by
        unfold shrt at h3
        rw [Bool.and_eq_true] at h3
        exact of_decide_eq_true h3.1
      refine seq_if (p := false) (et_tru (isi "list" "bool" false rfl (by decide +kernel)) rfl) (fun z => nomatch z) (fun _ => seq_next ?_)
      refine seq_if (p := false) (et_tru (isi "list" "str" false rfl (by decide +kernel)) rfl) (fun z => nomatch z) (fun _ => seq_next ?_)
      refine seq_if (p := false) (et_tru (isi "list" "int" false rfl (by decide +kernel)) rfl) (fun z => nomatch z) (fun _ => seq_next ?_)
      refine seq_if (p := false) ?_ (fun z => nomatch z) (fun _ => seq_next ?_)
      · refine et_is (et_or (p := false) (q := false) (et_test (ev_neD (isi "list" "list" true rfl (by decide +kernel)) (isi0 "list" "list" true rfl (by decide +kernel)) rfl rfl rfl rfl rfl)) fun _ => et_test (ev_neD (isi "list" "tuple" false rfl (by decide +kernel)) (isi0 "list" "tuple" false rfl (by decide +kernel)) rfl rfl rfl rfl rfl)) rfl
      refine seq_if (p := false) ?_ (fun z => nomatch z) (fun _ => seq_next ?_)
      · refine et_is (et_test (ev_neD (ev_lenL (EvD.toL (ev_var rfl))) (ev_lenL (EvD.toL (ev_var rfl))) rfl rfl rfl rfl (SeqAt.eqv_refl _ rfl))) rfl
      refine run_ret (seqD ds hd hz _ rfl (fun m x hx => ⟨ev_ixL (EvD.toL (ev_var rfl)) (ev_var rfl) hx, ev_ixL (EvD.toL (ev_var rfl)) (ev_var rfl) hx⟩) rfl (ev_lenL (EvD.toL (ev_var rfl)))) rfl
theorem ok__law_like (T : Txt K mg) : FnOk P w K mg base (L2.CX P w) 12 T.a__law_like T.d__law_like ["actual", "due"] (Pr K T.ca (fun d : D => [d, d]) (lk 12)) := ok__law_like_n T 12
theorem ok__law_refused (T : Txt K mg) : FnOk P w K mg base (L2.CX P w) 3 T.a__law_refused T.d__law_refused ["sort", "number"] (Pr K T.ca (fun a : { p : Nat × Int // p.1 < 4 ∧ 0 ≤ p.2 ∧ p.2.natAbs < 2 ^ 900 } => [.int a.1.1, .int a.1.2]) (fun _ => .ok (.bl true))) := by
  have G_divided_down := ok_divided_down (P := P) (w := w) (base := base) T
  have G_divided_up := ok_divided_up (P := P) (w := w) (base := base) T
  have G_root_down := ok_root_down (P := P) (w := w) (base := base) T
  have G_root_up := ok_root_up (P := P) (w := w) (base := base) T
  refine T.F__law_refused.okX sc__law_refused (Pr.len (fun _ => rfl)) (fun cdv A outer s H vs Q E hr h => ⟨_, (pss_cons (ps_tryE (K := K) rfl rfl rfl ⟨rfl, by decide, .inl T.g_BadNumber⟩ (takes_of rfl rfl rfl rfl) (fun W pn xe tk _ => (pss_one (ps_if (pt_cmpR (op_eqDK (K := K) rfl hr.units) (pv 0) pe_int (nomark _)) (pss_one (ps_expr (pe_callS G_divided_down (hr.mono (by first | decide | omega)) (by rfl) T.g_divided_down T.F_divided_down.kp T.b_divided_down (fun σ => passAt tk σ) (pa_cons (pv 1) (pa_cons (pe_op op_sub pe_int (pe_op op_mod (pv 1) pe_int)) pa_nil))))) (pss_one (ps_if (pt_cmpR (op_eqDK (K := K) rfl hr.units) (pv 0) pe_int (nomark _)) (pss_one (ps_expr (pe_callS G_divided_up (hr.mono (by first | decide | omega)) (by rfl) T.g_divided_up T.F_divided_up.kp T.b_divided_up (fun σ => passAt tk σ) (pa_cons (pv 1) (pa_cons (pe_op op_sub pe_int (pe_op op_mod (pv 1) pe_int)) pa_nil))))) (pss_one (ps_if (pt_cmpR (op_eqDK (K := K) rfl hr.units) (pv 0) pe_int (nomark _)) (pss_one (ps_expr (pe_callS G_root_down (hr.mono (by first | decide | omega)) (by rfl) T.g_root_down T.F_root_down.kp T.b_root_down (fun σ => passAt tk σ) (pa_cons (pe_op op_sub (pe_un un_neg pe_int) (pv 1)) pa_nil)))) (pss_one (ps_expr (pe_callS G_root_up (hr.mono (by first | decide | omega)) (by rfl) T.g_root_up T.F_root_up.kp T.b_root_up (fun σ => passAt tk σ) (pa_cons (pe_op op_sub (pe_un un_neg pe_int) (pv 1)) pa_nil))))))))))) (fun a oe cls d pn _ _ => (pss_one (ps_ret pe_bl))))
      (pss_one (ps_ret pe_bl))), body h (fun _ => by simp only [List.length_cons, List.length_nil]; omega) (fun a nb => ?_)⟩)
  obtain ⟨⟨sort, n⟩, hs, hn, hb⟩ := a
  walk_at "start"
  refine seq_run (Mid := fun r => False) (run_try (fun x => x = .badNumber) (fun W => ?_) (fun x hx => ?_) (fun hx n a cl d => ?_)) (fun ρ' hm => hm.elim)
  · have hs : sort < 4 := hs
    have hn : 0 ≤ n := hn
    refine run_if (p := decide ((sort : Int) = 0)) (et_test (ev_eqI (ev_var rfl) ev_int)) (fun c => ?_) (fun c => ?_)
    · exact run_dropX (ex_callS (A := (n, 0 - n % 5)) (by walk_at "ev") (if_pos (show 0 - n % 5 < 1 by omega))) (.inl rfl)
    have c := of_decide_eq_false c
    refine run_if (p := decide ((sort : Int) = 1)) (et_test (ev_eqI (ev_var rfl) ev_int)) (fun c => ?_) (fun c => ?_)
    · exact run_dropX (ex_callS (A := (n, 0 - n % 3)) (by walk_at "ev") (if_pos (show 0 - n % 3 < 1 by omega))) (.inl rfl)
    have c := of_decide_eq_false c
    refine run_if (p := decide ((sort : Int) = 2)) (et_test (ev_eqI (ev_var rfl) ev_int)) (fun c => ?_) (fun c => ?_)
    · exact run_dropX (ex_callS (A := -1 - n) (ea_cons (ev_sub (ev_neg ev_int) (ev_var rfl)) ea_nil) (if_pos (show -1 - n < 0 by omega))) (.inl rfl)
    exact run_dropX (ex_callS (A := -1 - n) (ea_cons (ev_sub (ev_neg ev_int) (ev_var rfl)) ea_nil) (if_pos (show -1 - n < 0 by omega))) (.inl rfl)
  · rw [hx]
    exact T.te_BadNumber
  · exact run_ret ev_bl rfl
theorem getD_at {l : List Int} {i : Nat} (h : i < l.length) : l[i]? = some (l.getD i 0) := by
  rw [List.getD_eq_getElem?_getD, List.getElem?_eq_getElem h]
  rfl
theorem atI_map {l : List Int} {i : Nat} (h : i < l.length) : atI (l.map D.int) (i : Int) = some (.int (l.getD i 0)) := by
  refine atI_nat ?_
  rw [List.getElem?_map, getD_at h]
  rfl
theorem getD_mem {l : List Int} {i : Nat} (h : i < l.length) : l.getD i 0 ∈ l := List.mem_of_getElem? (getD_at h)
theorem div_two (n : Int) {d : Int} (h : 0 < d) : n / d * d ≤ n ∧ n < (n / d + 1) * d := by
  have h1 := Int.mul_ediv_add_emod n d
  have h2 := Int.emod_nonneg n (show d ≠ 0 by omega)
  have h3 := Int.emod_lt_of_pos n h
  rw [Int.mul_comm] at h1
  rw [Int.add_mul]
  omega
theorem div_up (n : Int) {d : Int} (h : 0 < d) : (-(-n / d) - 1) * d < n ∧ n ≤ -(-n / d) * d := by
  obtain ⟨h1, h2⟩ := div_two (-n) h
  rw [Int.sub_mul, Int.neg_mul]
  rw [Int.add_mul] at h2
  omega
theorem div_bd {n d B : Int} (h : 0 < d) (h1 : -B ≤ n) (h2 : n ≤ B) (hB : 0 ≤ B) : -B ≤ n / d ∧ n / d ≤ B := by
  have hm : B ≤ B * d := by
    have := Int.mul_le_mul_of_nonneg_left (show 1 ≤ d by omega) hB
    omega
  constructor
  · refine Int.le_ediv_of_mul_le h ?_
    rw [Int.neg_mul]
    omega
  · exact Int.ediv_le_of_le_mul h (by omega)
theorem isqU_spec {n : Int} (h : 0 ≤ n) : 0 ≤ isqU n ∧ n ≤ isqU n * isqU n ∧ (0 < isqU n → (isqU n - 1) * (isqU n - 1) < n) ∧ isqU n ≤ n + 1 := by
  obtain ⟨h1, h2⟩ := isq_spec h
  have h3 := isq_nn n
  have h4 := isq_le h
  unfold isqU
  split
  · rename_i c
    refine ⟨by omega, by omega, fun _ => ?_, by omega⟩
    rw [show isq n + 1 - 1 = isq n by omega]
    exact c
  · rename_i c
    have e : isq n * isq n = n := by omega
    refine ⟨h3, by omega, fun hp => ?_, by omega⟩
    rw [Int.sub_mul, Int.mul_sub, e]
    omega
theorem filt (lo a b : Int) (h : lo ≤ a) : ∀ n : Nat, ((List.range n).map fun k : Nat => lo + (k : Int)).filter (fun k => decide (a ≤ k) && decide (k ≤ b)) = (List.range ((min (lo + (n : Int)) (b + 1)) - a).toNat).map fun k : Nat => a + (k : Int)
  | 0 => by
    rw [show ((min (lo + ((0 : Nat) : Int)) (b + 1)) - a).toNat = 0 by omega]
    rfl
  | n + 1 => by
    rw [List.range_succ, List.map_append, List.filter_append, filt lo a b h n]
    show _ ++ List.filter _ [lo + (n : Int)] = _
    rw [List.filter_cons]
    by_cases c : a ≤ lo + (n : Int) ∧ lo + (n : Int) ≤ b
    · rw [if_pos (by simp [c.1, c.2]), show ((min (lo + ((n + 1 : Nat) : Int)) (b + 1)) - a).toNat = ((min (lo + (n : Int)) (b + 1)) - a).toNat + 1 by omega, List.range_succ, List.map_append]
      congr 1
      show [lo + (n : Int)] = [a + (((min (lo + (n : Int)) (b + 1)) - a).toNat : Int)]
      congr 1
      omega
    · rw [if_neg (by simp only [Bool.and_eq_true, decide_eq_true_eq]; exact c), show ((min (lo + ((n + 1 : Nat) : Int)) (b + 1)) - a).toNat = ((min (lo + (n : Int)) (b + 1)) - a).toNat by omega]
      exact List.append_nil _
theorem min4 {f0 f1 s0 s1 : Int} (h1 : f0 ≤ f1) (h2 : s0 ≤ s1) : PySem.W.minOf f0 [f1, s0, s1] = mn f0 s0 := by
  have e : ∀ a b : Int, (if PySem.W.DatumOrd.lt b a = true then b else a) = if b < a then b else a := fun a b => by
    show (if decide (b < a) = true then b else a) = _
    by_cases c : b < a
    · rw [decide_eq_true c, if_pos c, if_pos rfl]
    · rw [decide_eq_false c, if_neg c, if_neg Bool.false_ne_true]
  show (if PySem.W.DatumOrd.lt s1 (if PySem.W.DatumOrd.lt s0 (if PySem.W.DatumOrd.lt f1 f0 = true then f1 else f0) = true then s0 else (if PySem.W.DatumOrd.lt f1 f0 = true then f1 else f0)) = true then s1 else (if PySem.W.DatumOrd.lt s0 (if PySem.W.DatumOrd.lt f1 f0 = true then f1 else f0) = true then s0 else (if PySem.W.DatumOrd.lt f1 f0 = true then f1 else f0))) = _
  simp only [e]
  unfold mn
  rw [if_neg (show ¬ f1 < f0 by omega)]
  by_cases c : s0 < f0
  · rw [if_pos c, if_neg (by omega)]
  · rw [if_neg c, if_neg (by omega)]
theorem max4 {f0 f1 s0 s1 : Int} (h1 : f0 ≤ f1) (h2 : s0 ≤ s1) : PySem.W.maxOf f0 [f1, s0, s1] = mx f1 s1 := by
  have e : ∀ a b : Int, (if PySem.W.DatumOrd.lt a b = true then b else a) = if a < b then b else a := fun a b => by
    show (if decide (a < b) = true then b else a) = _
    by_cases c : a < b
    · rw [decide_eq_true c, if_pos c, if_pos rfl]
    · rw [decide_eq_false c, if_neg c, if_neg Bool.false_ne_true]
  show (if PySem.W.DatumOrd.lt (if PySem.W.DatumOrd.lt (if PySem.W.DatumOrd.lt f0 f1 = true then f1 else f0) s0 = true then s0 else (if PySem.W.DatumOrd.lt f0 f1 = true then f1 else f0)) s1 = true then s1 else (if PySem.W.DatumOrd.lt (if PySem.W.DatumOrd.lt f0 f1 = true then f1 else f0) s0 = true then s0 else (if PySem.W.DatumOrd.lt f0 f1 = true then f1 else f0))) = _
  simp only [e]
  have e1 : (if f0 < f1 then f1 else f0) = f1 := by split <;> omega
  rw [e1]
  unfold mx
  by_cases c : f1 < s0
  · rw [if_pos c, if_pos (show s1 > f1 by omega)]
    split <;> omega
  · rw [if_neg c]
theorem ok_law (T : Txt K mg) : FnOk P w K mg base (L2.CX P w) 13 T.a_law T.d_law ["script"] (Pr K T.ca (fun ns : { l : List Int // l.length ≤ 63 } => [.scr ns.1]) (fun _ => .ok (.bl true))) := by
  have G__law_refused := ok__law_refused (P := P) (w := w) (base := base) T
  have G__law_like := ok__law_like (P := P) (w := w) (base := base) T
  have G_is_interval := ok_is_interval (P := P) (w := w) (base := base) T
  have G_hull := ok_hull (P := P) (w := w) (base := base) T
  have G_common := ok_common (P := P) (w := w) (base := base) T
  have G_added := ok_added (P := P) (w := w) (base := base) T
  have G_root_up := ok_root_up (P := P) (w := w) (base := base) T
  have G_root_down := ok_root_down (P := P) (w := w) (base := base) T
  have G_divided_up := ok_divided_up (P := P) (w := w) (base := base) T
  have G_divided_down := ok_divided_down (P := P) (w := w) (base := base) T
  have G__law_cell := ok__law_cell (P := P) (w := w) (base := base) T
  have G__law_draws := ok__law_draws (P := P) (w := w) (base := base) T
  refine T.F_law.okX sc_law (Pr.len (fun _ => rfl)) (fun cdv A outer s H vs Q E hr h => ⟨_, (pss_cons (ps_set (i := 1) sc_law.nd (by rfl) (by first | exact Or.inl rfl | exact Or.inr rfl) (pe_call G__law_draws (hr.mono (by first | decide | omega)) (by rfl) T.g__law_draws T.F__law_draws.kp T.b__law_draws .nil (passes_call (takes_of rfl rfl rfl rfl) (fun _ _ _ _ h => h)) (pa_cons (pe_call G__law_cell (hr.mono (by first | decide | omega)) (by rfl) T.g__law_cell T.F__law_cell.kp T.b__law_cell .nil (passes_call (takes_of rfl rfl rfl rfl) (fun _ _ _ _ h => h)) (pa_cons (pv 0) (pa_cons pe_int pa_nil))) (pa_cons pe_int pa_nil))))
      (pss_cons (ps_set (i := 2) sc_law.nd (by rfl) (by first | exact Or.inl rfl | exact Or.inr rfl) (pe_op op_mod (pe_callTy call_int1 (by rfl) T.z_int (by decide +kernel) (pa_cons (pe_call G__law_cell (hr.mono (by first | decide | omega)) (by rfl) T.g__law_cell T.F__law_cell.kp T.b__law_cell .nil (passes_call (takes_of rfl rfl rfl rfl) (fun _ _ _ _ h => h)) (pa_cons (pv 0) (pa_cons pe_int pa_nil))) pa_nil)) (pe_op op_pow pe_int pe_int)))
      (pss_cons (ps_for (passes_of rfl) rfl (pi_seqK (K := K) rfl (pe_lst (pa_cons (pv 2) (pa_cons (pe_op op_sub pe_int (pv 2)) (pa_cons (pe_op op_sub (pe_ix (ix_seqK (K := K) rfl) (pv 1) pe_int (fun _ _ => rfl)) pe_int) (pa_cons (pe_op op_sub (pe_op (op_plusK (K := K) rfl) (pe_op op_times (pe_ix (ix_seqK (K := K) rfl) (pv 1) pe_int (fun _ _ => rfl)) (pe_ix (ix_seqK (K := K) rfl) (pv 1) pe_int (fun _ _ => rfl))) (pe_op op_mod (pe_ix (ix_seqK (K := K) rfl) (pv 1) pe_int (fun _ _ => rfl)) pe_int)) pe_int) pa_nil)))))) (pg_name (i := 3) sc_law.nd (by rfl) (by first | exact Or.inl rfl | exact Or.inr rfl)) (pss_cons (ps_set (i := 4) sc_law.nd (by rfl) (by first | exact Or.inl rfl | exact Or.inr rfl) (pe_op (op_plusK (K := K) rfl) pe_int (pe_ix (ix_seqK (K := K) rfl) (pe_lst (pa_cons (pe_op op_mod (pe_ix (ix_seqK (K := K) rfl) (pv 1) pe_int (fun _ _ => rfl)) pe_int) (pa_cons (pe_ix (ix_seqK (K := K) rfl) (pv 1) pe_int (fun _ _ => rfl)) (pa_cons (pe_op op_mod (pv 2) (pe_op op_pow pe_int pe_int)) pa_nil)))) (pe_op op_mod (pe_ix (ix_seqK (K := K) rfl) (pv 1) pe_int (fun _ _ => rfl)) pe_int) (fun _ _ => rfl))))
      (pss_cons (ps_set (i := 5) sc_law.nd (by rfl) (by first | exact Or.inl rfl | exact Or.inr rfl) (pe_call G_divided_down (hr.mono (by first | decide | omega)) (by rfl) T.g_divided_down T.F_divided_down.kp T.b_divided_down .nil (passes_call (takes_of rfl rfl rfl rfl) (fun _ _ _ _ h => h)) (pa_cons (pv 3) (pa_cons (pv 4) pa_nil))))
      (pss_cons (ps_set (i := 6) sc_law.nd (by rfl) (by first | exact Or.inl rfl | exact Or.inr rfl) (pe_call G_divided_up (hr.mono (by first | decide | omega)) (by rfl) T.g_divided_up T.F_divided_up.kp T.b_divided_up .nil (passes_call (takes_of rfl rfl rfl rfl) (fun _ _ _ _ h => h)) (pa_cons (pv 3) (pa_cons (pv 4) pa_nil))))
      (pss_cons (ps_if (PW.pt (pw_or (pt_not (pt_chain op_le op_lt (pe_op op_times (pv 5) (pv 4)) (pv 3) (pe_op op_times (pe_op (op_plusK (K := K) rfl) (pv 5) pe_int) (pv 4)))) (pw_or1 (pt_not (pt_chain op_lt op_le (pe_op op_times (pe_op op_sub (pv 6) pe_int) (pv 4)) (pv 3) (pe_op op_times (pv 6) (pv 4))))))) (pss_one (ps_ret pe_bl)) pss_nil)
      (pss_one (ps_if (pt_cmpR op_ge (pv 3) pe_int (nomark _)) (pss_cons (ps_set (i := 7) sc_law.nd (by rfl) (by first | exact Or.inl rfl | exact Or.inr rfl) (pe_call G_root_down (hr.mono (by first | decide | omega)) (by rfl) T.g_root_down T.F_root_down.kp T.b_root_down .nil (passes_call (takes_of rfl rfl rfl rfl) (fun _ _ _ _ h => h)) (pa_cons (pv 3) pa_nil)))
      (pss_cons (ps_set (i := 8) sc_law.nd (by rfl) (by first | exact Or.inl rfl | exact Or.inr rfl) (pe_call G_root_up (hr.mono (by first | decide | omega)) (by rfl) T.g_root_up T.F_root_up.kp T.b_root_up .nil (passes_call (takes_of rfl rfl rfl rfl) (fun _ _ _ _ h => h)) (pa_cons (pv 3) pa_nil)))
      (pss_cons (ps_if (PW.pt (pw_or (pt_cmpR op_lt (pv 7) pe_int (nomark _)) (pw_or (pt_not (pt_chain op_le op_lt (pe_op op_times (pv 7) (pv 7)) (pv 3) (pe_op op_times (pe_op (op_plusK (K := K) rfl) (pv 7) pe_int) (pe_op (op_plusK (K := K) rfl) (pv 7) pe_int)))) (pw_or1 (pt_cmpR op_lt (pe_op op_times (pv 8) (pv 8)) (pv 3) (nomark _)))))) (pss_one (ps_ret pe_bl)) pss_nil)
      (pss_one (ps_if (PW.pt (pw_or (PW.pt (pw_and (pt_cmpR op_gt (pv 8) pe_int (nomark _)) (pw_and1 (pt_cmpR op_ge (pe_op op_times (pe_op op_sub (pv 8) pe_int) (pe_op op_sub (pv 8) pe_int)) (pv 3) (nomark _))))) (pw_or1 (pt_cmpR op_lt (pv 8) pe_int (nomark _))))) (pss_one (ps_ret pe_bl)) pss_nil))))) pss_nil)))))))
      (pss_cons (ps_set (i := 9) sc_law.nd (by rfl) (by first | exact Or.inl rfl | exact Or.inr rfl) (pe_tup (pa_cons (pe_op op_sub (pe_op op_mod (pe_ix (ix_seqK (K := K) rfl) (pv 1) pe_int (fun _ _ => rfl)) pe_int) pe_int) (pa_cons (pe_op (op_plusK (K := K) rfl) (pe_op op_sub (pe_op op_mod (pe_ix (ix_seqK (K := K) rfl) (pv 1) pe_int (fun _ _ => rfl)) pe_int) pe_int) (pe_op op_mod (pe_ix (ix_seqK (K := K) rfl) (pv 1) pe_int (fun _ _ => rfl)) pe_int)) pa_nil))))
      (pss_cons (ps_set (i := 10) sc_law.nd (by rfl) (by first | exact Or.inl rfl | exact Or.inr rfl) (pe_tup (pa_cons (pe_op op_sub (pe_op op_mod (pe_ix (ix_seqK (K := K) rfl) (pv 1) pe_int (fun _ _ => rfl)) pe_int) pe_int) (pa_cons (pe_op (op_plusK (K := K) rfl) (pe_op op_sub (pe_op op_mod (pe_ix (ix_seqK (K := K) rfl) (pv 1) pe_int (fun _ _ => rfl)) pe_int) pe_int) (pe_op op_mod (pe_ix (ix_seqK (K := K) rfl) (pv 1) pe_int (fun _ _ => rfl)) pe_int)) pa_nil))))
      (pss_cons (ps_if (pt_not (pt_truK (K := K) rfl (pe_call G__law_like (hr.mono (by first | decide | omega)) (by rfl) T.g__law_like T.F__law_like.kp T.b__law_like .nil (passes_call (takes_of rfl rfl rfl rfl) (fun _ _ _ _ h => h)) (pa_cons (pe_call G_added (hr.mono (by first | decide | omega)) (by rfl) T.g_added T.F_added.kp T.b_added .nil (passes_call (takes_of rfl rfl rfl rfl) (fun _ _ _ _ h => h)) (pa_cons (pv 9) (pa_cons (pv 10) pa_nil))) (pa_cons (pe_tup (pa_cons (pe_op (op_plusK (K := K) rfl) (pe_ix (ix_seqK (K := K) rfl) (pv 9) pe_int (fun _ _ => rfl)) (pe_ix (ix_seqK (K := K) rfl) (pv 10) pe_int (fun _ _ => rfl))) (pa_cons (pe_op (op_plusK (K := K) rfl) (pe_ix (ix_seqK (K := K) rfl) (pv 9) pe_int (fun _ _ => rfl)) (pe_ix (ix_seqK (K := K) rfl) (pv 10) pe_int (fun _ _ => rfl))) pa_nil))) pa_nil))))) (pss_one (ps_ret pe_bl)) pss_nil)
      (pss_cons (ps_setLc (i := 11) (own := [("k", 12)]) (by rfl) sc_law.nd rfl (by rfl) (sw_true rfl rfl rfl (by decide +kernel)) (pi_range2 (by rfl) T.z_range (pa_cons (pe_un un_neg pe_int) (pa_cons pe_int pa_nil))) (blkOk_by (own := [("k", 12)]) (N := ["script", "draws", "great", "number", "divisor", "down", "up", "low", "high", "first", "second", "both", "k", "due", "pair", "sort"]) (sc := defScope s_law) (by decide +kernel)) (fun _ _ _ _ _ => (pg_name (i := 12) sc_law.nd (by rfl) (by first | exact Or.inl rfl | exact Or.inr rfl))) (fun _ _ _ _ _ => (pts_one (pt_chain op_le op_le (pe_ix (ix_seqK (K := K) rfl) (pv 9) pe_int (fun _ _ => rfl)) (pv 12) (pe_ix (ix_seqK (K := K) rfl) (pv 9) pe_int (fun _ _ => rfl))))) (fun _ _ _ _ _ => (pv 12)))
      (pss_cons (ps_setLc (i := 11) (own := [("k", 12)]) (by rfl) sc_law.nd rfl (by rfl) (sw_true rfl rfl rfl (by decide +kernel)) (pi_seqK (K := K) rfl (pv 11)) (blkOk_by (own := [("k", 12)]) (N := ["script", "draws", "great", "number", "divisor", "down", "up", "low", "high", "first", "second", "both", "k", "due", "pair", "sort"]) (sc := defScope s_law) (by decide +kernel)) (fun _ _ _ _ _ => (pg_name (i := 12) sc_law.nd (by rfl) (by first | exact Or.inl rfl | exact Or.inr rfl))) (fun _ _ _ _ _ => (pts_one (pt_chain op_le op_le (pe_ix (ix_seqK (K := K) rfl) (pv 10) pe_int (fun _ _ => rfl)) (pv 12) (pe_ix (ix_seqK (K := K) rfl) (pv 10) pe_int (fun _ _ => rfl))))) (fun _ _ _ _ _ => (pv 12)))
      (pss_cons (ps_set (i := 13) sc_law.nd (by rfl) (by first | exact Or.inl rfl | exact Or.inr rfl) pe_non)
      (pss_cons (ps_if (pt_cmpR op_gt (pe_callB (call_lenK (K := K) rfl) (by rfl) T.z_len (by decide +kernel) (pa_cons (pv 11) pa_nil)) pe_int (nomark _)) (pss_one (ps_set (i := 13) sc_law.nd (by rfl) (by first | exact Or.inl rfl | exact Or.inr rfl) (pe_tup (pa_cons (pe_ix (ix_seqK (K := K) rfl) (pv 11) pe_int (fun _ _ => rfl)) (pa_cons (pe_ix (ix_seqK (K := K) rfl) (pv 11) (pe_un un_neg pe_int) (fun _ _ => rfl)) pa_nil))))) pss_nil)
      (pss_cons (ps_if (PW.pt (pw_or (pt_not (pt_truK (K := K) rfl (pe_call G__law_like (hr.mono (by first | decide | omega)) (by rfl) T.g__law_like T.F__law_like.kp T.b__law_like .nil (passes_call (takes_of rfl rfl rfl rfl) (fun _ _ _ _ h => h)) (pa_cons (pe_call G_common (hr.mono (by first | decide | omega)) (by rfl) T.g_common T.F_common.kp T.b_common .nil (passes_call (takes_of rfl rfl rfl rfl) (fun _ _ _ _ h => h)) (pa_cons (pv 9) (pa_cons (pv 10) pa_nil))) (pa_cons (pv 13) pa_nil))))) (pw_or1 (pt_not (pt_truK (K := K) rfl (pe_call G__law_like (hr.mono (by first | decide | omega)) (by rfl) T.g__law_like T.F__law_like.kp T.b__law_like .nil (passes_call (takes_of rfl rfl rfl rfl) (fun _ _ _ _ h => h)) (pa_cons (pe_call G_hull (hr.mono (by first | decide | omega)) (by rfl) T.g_hull T.F_hull.kp T.b_hull .nil (passes_call (takes_of rfl rfl rfl rfl) (fun _ _ _ _ h => h)) (pa_cons (pv 9) (pa_cons (pv 10) pa_nil))) (pa_cons (pe_tup (pa_cons (pe_callB (cr_minA (K := K) rfl rfl hr.units) (by rfl) T.z_min (by decide +kernel) (pa_cons (pe_op (op_plusK (K := K) rfl) (pv 9) (pv 10)) pa_nil)) (pa_cons (pe_callB (cr_maxA (K := K) rfl rfl hr.units) (by rfl) T.z_max (by decide +kernel) (pa_cons (pe_op (op_plusK (K := K) rfl) (pv 9) (pv 10)) pa_nil)) pa_nil))) pa_nil)))))))) (pss_one (ps_ret pe_bl)) pss_nil)
      (pss_cons (ps_set (i := 14) sc_law.nd (by rfl) (by first | exact Or.inl rfl | exact Or.inr rfl) (pe_tup (pa_cons (pe_op op_mod (pe_ix (ix_seqK (K := K) rfl) (pv 1) pe_int (fun _ _ => rfl)) pe_int) (pa_cons (pe_op op_mod (pe_ix (ix_seqK (K := K) rfl) (pv 1) pe_int (fun _ _ => rfl)) pe_int) pa_nil))))
      (pss_cons (ps_if (pt_not (pt_truK (K := K) rfl (pe_call G__law_like (hr.mono (by first | decide | omega)) (by rfl) T.g__law_like T.F__law_like.kp T.b__law_like .nil (passes_call (takes_of rfl rfl rfl rfl) (fun _ _ _ _ h => h)) (pa_cons (pe_lst (pa_cons (pe_call G_is_interval (hr.mono (by first | decide | omega)) (by rfl) T.g_is_interval T.F_is_interval.kp T.b_is_interval .nil (passes_call (takes_of rfl rfl rfl rfl) (fun _ _ _ _ h => h)) (pa_cons (pv 14) pa_nil)) (pa_cons (pe_call G_is_interval (hr.mono (by first | decide | omega)) (by rfl) T.g_is_interval T.F_is_interval.kp T.b_is_interval .nil (passes_call (takes_of rfl rfl rfl rfl) (fun _ _ _ _ h => h)) (pa_cons (pv 9) pa_nil)) (pa_cons (pe_call G_is_interval (hr.mono (by first | decide | omega)) (by rfl) T.g_is_interval T.F_is_interval.kp T.b_is_interval .nil (passes_call (takes_of rfl rfl rfl rfl) (fun _ _ _ _ h => h)) (pa_cons (pe_op (op_plusK (K := K) rfl) (pv 9) (pe_tup (pa_cons pe_int pa_nil))) pa_nil)) (pa_cons (pe_call G_is_interval (hr.mono (by first | decide | omega)) (by rfl) T.g_is_interval T.F_is_interval.kp T.b_is_interval .nil (passes_call (takes_of rfl rfl rfl rfl) (fun _ _ _ _ h => h)) (pa_cons (pe_tup pa_nil) pa_nil)) pa_nil))))) (pa_cons (pe_lst (pa_cons (pe_cmpR op_le (pe_ix (ix_seqK (K := K) rfl) (pv 14) pe_int (fun _ _ => rfl)) (pe_ix (ix_seqK (K := K) rfl) (pv 14) pe_int (fun _ _ => rfl)) (nomark _)) (pa_cons pe_bl (pa_cons pe_bl (pa_cons pe_bl pa_nil))))) pa_nil))))) (pss_one (ps_ret pe_bl)) pss_nil)
      (pss_one (ps_ret (pe_callB (cr_allK (K := K) rfl rfl) (by rfl) T.z_all (by decide +kernel) (pa_cons (pe_lc (own := [("sort", 15)]) (by rfl) sc_law.nd (pi_range1 (by rfl) T.z_range (pa_cons pe_int pa_nil)) (blkOk_by (own := [("sort", 15)]) (N := ["script", "draws", "great", "number", "divisor", "down", "up", "low", "high", "first", "second", "both", "k", "due", "pair", "sort"]) (sc := defScope s_law) (by decide +kernel)) (fun _ _ _ _ _ => (pg_name (i := 15) sc_law.nd (by rfl) (by first | exact Or.inl rfl | exact Or.inr rfl))) (fun _ _ _ _ _ => pts_nil) (fun _ _ _ _ _ => (pe_call G__law_refused (hr.mono (by first | decide | omega)) (by rfl) T.g__law_refused T.F__law_refused.kp T.b__law_refused .nil passL (pa_cons (pv 15) (pa_cons (pv 2) pa_nil))))) pa_nil))))))))))))))))), body h (fun _ => by simp only [List.length_cons, List.length_nil]; omega) (fun a nb => ?_)⟩)
  obtain ⟨ns, hns⟩ := a
  walk_at "start"
  refine seq1 (asg (d := .lst ((draws (cellAt ns 0) 16).map D.int)) (EvO.toD (evo_call (A := (cellAt ns 0, 16)) (ea_cons (ev_call (A := (ns, 0)) (by walk_at "ev") rfl) (by walk_at "ev")) (if_pos ⟨cellAt_nn _ _, (by decide : 16 ≤ 1000)⟩)))) ?_
  walk_at "env"
  generalize hds : draws (cellAt ns 0) 16 = ds
  have hlen : ds.length = 16 := by rw [← hds, draws_len]
  have hbd : ∀ x ∈ ds, 0 ≤ x ∧ x < 4096 := fun x hx => draws_bd (cellAt ns 0) 16 x (by rw [hds]; exact hx)
  have bd : ∀ i : Nat, i < 16 → 0 ≤ ds.getD i 0 ∧ ds.getD i 0 < 4096 := fun i hi => hbd _ (getD_mem (by omega))
  have at_ : ∀ i : Nat, i < 16 → atI (ds.map D.int) (i : Int) = some (.int (ds.getD i 0)) := fun i hi => atI_map (by omega)
  obtain ⟨great, hgr⟩ : ∃ g, g = cellAt ns 1 % (10 : Int) ^ (60 : Int).toNat := ⟨_, rfl⟩
  have hg0 : 0 ≤ great ∧ great < 10 ^ 60 := by
    rw [hgr]
    exact ⟨Int.emod_nonneg _ (by decide), Int.emod_lt_of_pos _ (by decide)⟩
  refine seq1 (asg (d := .int great) ?_) ?_
  · rw [hgr]
    refine ev_mod (ev_cb (ea_cons (ev_call (A := (ns, 1)) (by walk_at "ev") rfl) ea_nil) ca_int) (by walk_at "ev") (by decide)
  walk_at "env"
  -- the four numbers
  obtain ⟨nums, hnu⟩ : ∃ l : List Int, l = [great, 0 - great, ds.getD 0 0 - 2000, ds.getD 1 0 * ds.getD 1 0 + ds.getD 2 0 % 3 - 1] := ⟨_, rfl⟩
  have a0 := at_ 0 (by decide)
  have a1 := at_ 1 (by decide)
  have a2 := at_ 2 (by decide)
  have a3 := at_ 3 (by decide)
  have a4 := at_ 4 (by decide)
  have b0 := bd 0 (by decide)
  have b1 := bd 1 (by decide)
  have b2 := bd 2 (by decide)
  have b3 := bd 3 (by decide)
  have b4 := bd 4 (by decide)
  have hnb : ∀ n, n ∈ nums → -(10 ^ 60) ≤ n ∧ n ≤ 10 ^ 60 := by
    rw [hnu]
    intro n hn
    simp only [List.mem_cons, List.not_mem_nil, or_false] at hn
    have hp : 0 ≤ ds.getD 1 0 * ds.getD 1 0 := Int.mul_nonneg b1.1 b1.1
    have hq : ds.getD 1 0 * ds.getD 1 0 ≤ 4096 * 4096 := Int.mul_le_mul (by omega) (by omega) b1.1 (by decide)
    rcases hn with rfl | rfl | rfl | rfl <;> omega
  refine seq_for (it_seqL (xs := nums.map D.int) ?_) (fun i r => ∃ a b c d e f, r = [some (.d (.scr ns)), some (.d (.lst (ds.map D.int))), some (.d (.int great)), a, b, c, d, e, f, none, none, none, none, none, none, none]) (fun _ => False) ⟨none, none, none, none, none, none, rfl⟩ ?_ ?_
  · rw [hnu]
    show EvD K _ _ (.lst [.int great, .int (0 - great), .int (ds.getD 0 0 - 2000), .int (ds.getD 1 0 * ds.getD 1 0 + ds.getD 2 0 % 3 - 1)])
    walk_at "ev"
  · rintro i x r hx ⟨u1, u2, u3, u4, u5, u6, rfl⟩
    rw [List.getElem?_map] at hx
    cases he : nums[i]? with
    | none =>
      rw [he] at hx
      cases hx
    | some n =>
      rw [he] at hx
      have hx' := Option.some.inj hx
      subst hx'
      obtain ⟨n1, n2⟩ := hnb n (List.mem_of_getElem? he)
      refine ⟨_, _, tg_name, ?_⟩
      walk_at "env"
      -- divisor
      obtain ⟨m, hm⟩ : ∃ m : Nat, ds.getD 4 0 % 3 = (m : Int) := ⟨(ds.getD 4 0 % 3).toNat, by omega⟩
      have hm3 : m < 3 := by omega
      obtain ⟨dl, hdl⟩ : ∃ l : List Int, l = [ds.getD 3 0 % 9, ds.getD 3 0, great % (10 : Int) ^ (20 : Int).toNat] := ⟨_, rfl⟩
      have hdlen : dl.length = 3 := by rw [hdl]; rfl
      obtain ⟨dx, hdx⟩ : ∃ z, z = dl.getD m 0 := ⟨_, rfl⟩
      have hgm := Int.emod_nonneg great (show (10 : Int) ^ (20 : Int).toNat ≠ 0 by decide)
      have hgl := Int.emod_lt_of_pos great (show (0 : Int) < (10 : Int) ^ (20 : Int).toNat by decide)
      have hdb : 0 ≤ dx ∧ dx ≤ 10 ^ 20 := by
        have hmem : dx ∈ dl := by
          rw [hdx]
          exact getD_mem (by omega)
        rw [hdl] at hmem
        simp only [List.mem_cons, List.not_mem_nil, or_false] at hmem
        have e20 : (10 : Int) ^ (20 : Int).toNat = 10 ^ 20 := rfl
        rw [e20] at hgm hgl hmem
        rcases hmem with h | h | h
        · omega
        · omega
        · rw [h]
          exact ⟨hgm, Int.le_of_lt hgl⟩
      refine seq1 (asg (d := .int (1 + dx)) ?_) ?_
      · refine ev_add ev_int ?_
        refine ev_ixL (ds := dl.map D.int) (EvO.toL ?_) (ev_mod (ev_ixL (EvD.toL (ev_var rfl)) ev_int a4) ev_int (by decide)) (by rw [hm, atI_map (by omega), hdx])
        rw [hdl]
        show EvO K _ _ [.int (ds.getD 3 0 % 9), .int (ds.getD 3 0), .int (great % (10 : Int) ^ (20 : Int).toNat)]
        refine evo_lst (ea_cons (ev_mod (ev_ixL (EvD.toL (ev_var rfl)) ev_int a3) ev_int (by decide)) (ea_cons (ev_ixL (EvD.toL (ev_var rfl)) ev_int a3) (ea_cons (ev_mod (ev_var rfl) (by walk_at "ev") (by decide)) ea_nil))) (smallLen rfl)
      walk_at "env"
      obtain ⟨dv, hdv⟩ : ∃ z, z = 1 + dx := ⟨_, rfl⟩
      rw [← hdv]
      have hd0 : 0 < dv ∧ dv ≤ 10 ^ 20 + 1 := by omega
      have hd1 : ¬ dv < 1 := by omega
      have hd2 : dv.natAbs < 2 ^ 1000 := by omega
      refine seq1 (asg (d := .int (n / dv)) (ev_call (A := (n, dv)) (by walk_at "ev") ((if_neg hd1).trans (if_pos hd2)))) ?_
      walk_at "env"
      refine seq1 (asg (d := .int (-(-n / dv))) (ev_call (A := (n, dv)) (by walk_at "ev") ((if_neg hd1).trans (if_pos hd2)))) ?_
      walk_at "env"
      obtain ⟨q1, q2⟩ := div_two n hd0.1
      obtain ⟨q3, q4⟩ := div_up n hd0.1
      obtain ⟨r1, r2⟩ := div_bd hd0.1 n1 n2 (by decide)
      obtain ⟨r3, r4⟩ := div_bd (n := -n) (B := 10 ^ 60) hd0.1 (by omega) (by omega) (by decide)
      generalize n / dv = down at *
      generalize -n / dv = upn at *
      refine seq_if (p := false) ?_ (fun z => nomatch z) (fun _ => seq_next ?_)
      · have t1 : EvT K _ _ _ := et_not (et_test (ev_chainI (ρ := [some (.d (.scr ns)), some (.d (.lst (ds.map D.int))), some (.d (.int great)), some (.d (.int n)), some (.d (.int dv)), some (.d (.int down)), some (.d (.int (-upn))), u5, u6, none, none, none, none, none, none, none]) (f := fun i j => decide (i ≤ j)) (f' := fun i j => decide (i < j)) (ev_mulW (K := K) (ta := tVar 5) (tb := tVar 4) (ev_var rfl) (ev_var rfl) (cmulWB (m := down) (n := dv) (by omega) hd2)) (ev_var (i := 3) rfl) (ev_mulW (ta := tOp (rPlus K) (tVar 5) (tC (.int 1))) (tb := tVar 4) (ev_add (ev_var rfl) ev_int) (ev_var rfl) (cmulWB (m := down + 1) (n := dv) (by omega) hd2))))
        have t2 : EvT K _ _ _ := et_not (et_test (ev_chainI (ρ := [some (.d (.scr ns)), some (.d (.lst (ds.map D.int))), some (.d (.int great)), some (.d (.int n)), some (.d (.int dv)), some (.d (.int down)), some (.d (.int (-upn))), u5, u6, none, none, none, none, none, none, none]) (f := fun i j => decide (i < j)) (f' := fun i j => decide (i ≤ j)) (ev_mulW (K := K) (ta := tOp (rI0 fun i j => .int (i - j)) (tVar 6) (tC (.int 1))) (tb := tVar 4) (ev_sub (ev_var rfl) ev_int) (ev_var rfl) (cmulWB (m := -upn - 1) (n := dv) (by omega) hd2)) (ev_var (i := 3) rfl) (ev_mulW (ta := tVar 6) (tb := tVar 4) (ev_var rfl) (ev_var rfl) (cmulWB (m := -upn) (n := dv) (by omega) hd2))))
        refine et_is (et_or t1 fun _ => t2) ?_
        rw [decide_eq_true q1, decide_eq_true q2, decide_eq_true q3, decide_eq_true q4]
        rfl
      by_cases hn0 : 0 ≤ n
      · refine run_if (p := true) (et_is (et_test (ev_cmp (ev_var rfl) ev_int)) (decide_eq_true hn0)) (fun _ => ?_) (fun z => nomatch z)
        have hn1 : ¬ n < 0 := by omega
        have hn2 : n.natAbs < 2 ^ 1000 := by omega
        refine seq1 (asg (d := .int (isq n)) (ev_call (A := n) (by walk_at "ev") ((if_neg hn1).trans (if_pos hn2)))) ?_
        walk_at "env"
        refine seq1 (asg (d := .int (isqU n)) (ev_call (A := n) (by walk_at "ev") ((if_neg hn1).trans (if_pos hn2)))) ?_
        walk_at "env"
        obtain ⟨w1, w2⟩ := isq_spec hn0
        have w3 := isq_nn n
        have w4 := isq_le hn0
        obtain ⟨v1, v2, v3, v4⟩ := isqU_spec hn0
        generalize isq n = low at *
        generalize isqU n = high at *
        have ml : CMulW low low := cmulWB (by omega) (by omega)
        have ml1 : CMulW (low + 1) (low + 1) := cmulWB (by omega) (by omega)
        have mh : CMulW high high := cmulWB (by omega) (by omega)
        have mh1 : CMulW (high - 1) (high - 1) := cmulWB (by omega) (by omega)
        refine seq_if (p := false) ?_ (fun z => nomatch z) (fun _ => seq_next ?_)
        · refine et_is (et_or (et_test (ev_cmp (ev_var rfl) ev_int)) fun _ => et_or (et_not (et_test (ev_chainI (ev_mulW (ev_var rfl) (ev_var rfl) ml) (ev_var rfl) (ev_mulW (ev_add (ev_var rfl) ev_int) (ev_add (ev_var rfl) ev_int) ml1)))) fun _ => et_test (ev_cmp (ev_mulW (ev_var rfl) (ev_var rfl) mh) (ev_var rfl))) ?_
          rw [decide_eq_false (show ¬ low < 0 by omega), decide_eq_true w1, decide_eq_true w2, decide_eq_false (show ¬ high * high < n by omega)]
          rfl
        refine run_if (p := false) ?_ (fun z => nomatch z) (fun _ => run_next ⟨_, _, _, _, _, _, rfl⟩)
        refine et_is (et_or (et_and (et_test (ev_cmp (ev_var rfl) ev_int)) fun _ => et_test (ev_cmp (ev_mulW (ev_sub (ev_var rfl) ev_int) (ev_sub (ev_var rfl) ev_int) mh1) (ev_var rfl))) fun _ => et_test (ev_cmp (ev_var rfl) ev_int)) ?_
        rw [decide_eq_false (show ¬ high < 0 by omega), Bool.or_false]
        by_cases hh : 0 < high
        · rw [decide_eq_false (show ¬ n ≤ (high - 1) * (high - 1) by have := v3 hh; omega), Bool.and_false]
        · rw [decide_eq_false hh]
          rfl
      · exact run_if (p := false) (et_is (et_test (ev_cmp (ev_var rfl) ev_int)) (decide_eq_false hn0)) (fun z => nomatch z) (fun _ => run_next ⟨_, _, _, _, _, _, rfl⟩)
  rintro r (⟨u1, u2, u3, u4, u5, u6, rfl⟩ | h)
  rotate_left
  · exact h.elim
  have a5 := at_ 5 (by decide)
  have a6 := at_ 6 (by decide)
  have a7 := at_ 7 (by decide)
  have a8 := at_ 8 (by decide)
  have a9 := at_ 9 (by decide)
  have a10 := at_ 10 (by decide)
  have b6 := bd 6 (by decide)
  have b8 := bd 8 (by decide)
  obtain ⟨f0, hf0⟩ : ∃ z, z = ds.getD 5 0 % 40 - 20 := ⟨_, rfl⟩
  obtain ⟨f1, hf1⟩ : ∃ z, z = ds.getD 5 0 % 40 - 20 + ds.getD 6 0 % 20 := ⟨_, rfl⟩
  obtain ⟨s0, hs0⟩ : ∃ z, z = ds.getD 7 0 % 40 - 20 := ⟨_, rfl⟩
  obtain ⟨s1, hs1⟩ : ∃ z, z = ds.getD 7 0 % 40 - 20 + ds.getD 8 0 % 20 := ⟨_, rfl⟩
  have hF : -20 ≤ f0 ∧ f0 ≤ f1 ∧ f1 ≤ 40 := by omega
  have hS : -20 ≤ s0 ∧ s0 ≤ s1 ∧ s1 ≤ 40 := by omega
  refine seq1 (asg (d := .tup [.int f0, .int f1]) ?_) ?_
  · rw [hf0, hf1]
    walk_at "ev"
  walk_at "env"
  refine seq1 (asg (d := .tup [.int s0, .int s1]) ?_) ?_
  · rw [hs0, hs1]
    walk_at "ev"
  walk_at "env"
  -- added
  refine seq_if (p := false) (et_not (p := true) (et_tru (ev_call (A := .tup [.int (f0 + s0), .int (f1 + s1)]) (ea_cons (ev_call (A := (f0, f1, s0, s1)) (by walk_at "ev") rfl) (ea_cons (by walk_at "ev") ea_nil)) (if_pos ⟨rfl, Nat.le_of_ble_eq_true rfl, rfl⟩)) rfl)) (fun z => nomatch z) (fun _ => seq_next ?_)
  -- both
  obtain ⟨R, hR⟩ : ∃ R : List Int, R = (List.range 90).map fun k : Nat => (-30 : Int) + (k : Int) := ⟨_, rfl⟩
  have hRr : rng (-30) ((60 : Int) - -30).toNat = R.map D.int := by
    rw [hR, List.map_map]
    rfl
  have hRl : R.length = 90 := by rw [hR, List.length_map, List.length_range]
  refine seq1 (asg (d := .lst ((R.filter fun k => decide (f0 ≤ k) && decide (k ≤ f1)).map D.int)) (EvO.toD (evo_lcF (xs := R) D.int D.int (fun k => decide (f0 ≤ k) && decide (k ≤ f1)) (by
    rw [← hRr]
    exact it_rng2 (ea_cons (ev_neg ev_int) (ea_cons ev_int ea_nil)) (by decide) (by decide) (by decide) (by decide)) (by omega) (fun x hx => ?_) (fun x hx _ => ev_var rfl)))) ?_
  · exact et_test (ev_chainI (ev_ixT (ev_var rfl) ev_int rfl) (ev_var rfl) (ev_ixT (ev_var rfl) ev_int rfl))
  walk_at "env"
  obtain ⟨a, ha⟩ : ∃ z, z = mx f0 s0 := ⟨_, rfl⟩
  obtain ⟨b, hb⟩ : ∃ z, z = mn f1 s1 := ⟨_, rfl⟩
  have hab : f0 ≤ a ∧ s0 ≤ a ∧ (a = f0 ∨ a = s0) ∧ b ≤ f1 ∧ b ≤ s1 ∧ (b = f1 ∨ b = s1) := by
    rw [ha, hb]
    unfold mx mn
    split <;> split <;> omega
  obtain ⟨L, hL⟩ : ∃ L : List Int, L = (List.range (b + 1 - a).toNat).map fun k : Nat => a + (k : Int) := ⟨_, rfl⟩
  have hLf : (R.filter fun k => decide (f0 ≤ k) && decide (k ≤ f1)).filter (fun k => decide (s0 ≤ k) && decide (k ≤ s1)) = L := by
    rw [List.filter_filter, hR, hL]
    have e := filt (-30) a b (by omega) 90
    rw [show ((min ((-30 : Int) + ((90 : Nat) : Int)) (b + 1)) - a).toNat = (b + 1 - a).toNat by omega] at e
    rw [← e]
    congr 1
    funext k
    rcases hab with ⟨h1, h2, h3, h4, h5, h6⟩
    rw [Bool.eq_iff_iff]
    simp only [Bool.and_eq_true, decide_eq_true_eq]
    omega
  have hll : (R.filter fun k => decide (f0 ≤ k) && decide (k ≤ f1)).length ≤ 90 := by
    have := List.length_filter_le (fun k => decide (f0 ≤ k) && decide (k ≤ f1)) R
    omega
  refine seq1 (asg (d := .lst (L.map D.int)) (ev_is (EvO.toD (evo_lcF (xs := R.filter fun k => decide (f0 ≤ k) && decide (k ≤ f1)) D.int D.int (fun k => decide (s0 ≤ k) && decide (k ≤ s1)) (it_seqL (ev_var rfl)) (by omega) (fun x hx => ?_) (fun x hx _ => ev_var rfl))) (by rw [hLf]))) ?_
  · exact et_test (ev_chainI (ev_ixT (ev_var rfl) ev_int rfl) (ev_var rfl) (ev_ixT (ev_var rfl) ev_int rfl))
  walk_at "env"
  have hLl : L.length = (b + 1 - a).toNat := by rw [hL, List.length_map, List.length_range]
  refine seq1 (asg (d := .non) ev_non) ?_
  walk_at "env"
  -- what stands behind the if
  obtain ⟨due, hdue⟩ : ∃ d, d = (if a ≤ b then D.tup [.int a, .int b] else .non) := ⟨_, rfl⟩
  have hlkd : lk 12 due = .ok (.bl true) := by
    rw [hdue]
    split
    · exact if_pos ⟨rfl, Nat.le_of_ble_eq_true rfl, rfl⟩
    · exact if_pos ⟨rfl, Nat.le_of_ble_eq_true rfl, rfl⟩
  refine seq_run (Mid := fun r => r = [some (.d (.scr ns)), some (.d (.lst (ds.map D.int))), some (.d (.int great)), u1, u2, u3, u4, u5, u6, some (.d (.tup [.int f0, .int f1])), some (.d (.tup [.int s0, .int s1])), some (.d (.lst (L.map D.int))), none, some (.d due), none, none]) ?_ ?_
  · by_cases c : a ≤ b
    · refine run_if (p := true) (et_is (et_test (ev_cmp (ev_lenL (EvD.toL (ev_var rfl))) ev_int)) (by rw [List.length_map, hLl]; exact decide_eq_true (by omega))) (fun _ => ?_) (fun z => nomatch z)
      have g0 : L[0]? = some a := by
        rw [hL, List.getElem?_map, List.getElem?_range (by omega)]
        show some (a + 0) = _
        rw [Int.add_zero]
      have g1 : L[L.length - 1]? = some b := by
        rw [hLl, hL, List.getElem?_map, List.getElem?_range (by omega)]
        show some (a + (((b + 1 - a).toNat - 1 : Nat) : Int)) = _
        congr 1
        omega
      have i0 : atI (L.map D.int) ((0 : Nat) : Int) = some (.int a) := atI_nat (by rw [List.getElem?_map, g0]; rfl)
      have i1 : atI (L.map D.int) (-1) = some (.int b) := by
        have hne : L ≠ [] := fun z => by rw [z] at hLl; have : (0 : Nat) = (b + 1 - a).toNat := hLl; omega
        rw [← List.dropLast_concat_getLast hne, List.map_append, List.map_singleton, atI_last]
        rw [List.getLast_eq_getElem hne]
        have := (List.getElem?_eq_some_iff.mp g1).2
        rw [this]
      refine last1 (asg (d := .tup [.int a, .int b]) (ev_tup (ea_cons (ev_ixL (EvD.toL (ev_var rfl)) ev_int i0) (ea_cons (ev_ixL (EvD.toL (ev_var rfl)) (ev_neg ev_int) i1) ea_nil)) (smallLen rfl))) ?_
      rw [hdue, if_pos c]
      rfl
    · refine run_if (p := false) (et_is (et_test (ev_cmp (ev_lenL (EvD.toL (ev_var rfl))) ev_int)) (by rw [List.length_map, hLl]; exact decide_eq_false (by omega))) (fun z => nomatch z) (fun _ => ?_)
      refine run_next ?_
      rw [hdue, if_neg c]
  rintro r rfl
  -- common, hull
  refine seq_if (p := false) (et_is (et_or (et_not (p := true) (et_tru (ev_call (A := due) (ea_cons (ev_is (ev_call (A := (f0, f1, s0, s1)) (by walk_at "ev") rfl) (by rw [hdue, ha, hb])) (ea_cons (ev_var rfl) ea_nil)) hlkd) rfl)) fun _ => et_not (p := true) (et_tru (ev_call (A := .tup [.int (mn f0 s0), .int (mx f1 s1)]) (ea_cons (ev_call (A := (f0, f1, s0, s1)) (by walk_at "ev") rfl) (ea_cons (ev_tup (ea_cons (ev_is (ev_minT (x := f0) (xs := [f1, s0, s1]) (ev_catT2 (xs := [.int f0, .int f1]) (ys := [.int s0, .int s1]) (ev_var rfl) (ev_var rfl) (List.cons_ne_nil _ _) (List.cons_ne_nil _ _) (smallLen rfl))) (by rw [min4 hF.2.1 hS.2.1])) (ea_cons (ev_is (ev_maxT (x := f0) (xs := [f1, s0, s1]) (ev_catT2 (xs := [.int f0, .int f1]) (ys := [.int s0, .int s1]) (ev_var rfl) (ev_var rfl) (List.cons_ne_nil _ _) (List.cons_ne_nil _ _) (smallLen rfl))) (by rw [max4 hF.2.1 hS.2.1])) ea_nil)) (smallLen rfl)) ea_nil)) (if_pos ⟨rfl, Nat.le_of_ble_eq_true rfl, rfl⟩)) rfl)) rfl) (fun z => nomatch z) (fun _ => seq_next ?_)
  -- pair
  obtain ⟨p0, hp0⟩ : ∃ z, z = ds.getD 9 0 % 5 := ⟨_, rfl⟩
  obtain ⟨p1, hp1⟩ : ∃ z, z = ds.getD 10 0 % 5 := ⟨_, rfl⟩
  refine seq1 (asg (d := .tup [.int p0, .int p1]) ?_) ?_
  · rw [hp0, hp1]
    walk_at "ev"
  walk_at "env"
  refine seq_if (p := false) (et_not (p := true) (et_tru (ev_call (A := .lst [.bl (decide (p0 ≤ p1)), .bl true, .bl false, .bl false]) ?_ (if_pos ⟨rfl, Nat.le_of_ble_eq_true rfl, rfl⟩)) rfl)) (fun z => nomatch z) (fun _ => seq_next ?_)
  · refine ea_cons ?_ (ea_cons ?_ ea_nil)
    · refine EvO.toD (evo_lst (ea_cons ?_ (ea_cons ?_ (ea_cons ?_ (ea_cons ?_ ea_nil)))) (smallLen rfl))
      · exact ev_call (A := [p0, p1]) (ea_cons (ev_var rfl) ea_nil) rfl
      · refine ev_is (ev_call (A := [f0, f1]) (ea_cons (ev_var rfl) ea_nil) rfl) (congrArg D.bl (decide_eq_true hF.2.1))
      · refine ev_call (A := [f0, f1, 9]) (ea_cons ?_ ea_nil) rfl
        exact ev_catT2 (xs := [.int f0, .int f1]) (ys := [.int 9]) (ev_var rfl) (ev_tup (ea_cons ev_int ea_nil) (smallLen rfl)) (List.cons_ne_nil _ _) (List.cons_ne_nil _ _) (smallLen rfl)
      · refine ev_call (A := []) (ea_cons ?_ ea_nil) rfl
        exact ev_tup ea_nil (smallLen rfl)
    · exact EvO.toD (evo_lst (ea_cons (ev_cmp (ev_ixT (ev_var rfl) ev_int rfl) (ev_ixT (ev_var rfl) ev_int rfl)) (ea_cons ev_bl (ea_cons ev_bl (ea_cons ev_bl ea_nil)))) (smallLen rfl))
  -- refused
  refine run_ret (ev_is (ev_all (bs := [true, true, true, true]) (EvO.toL ?_)) rfl) rfl
  refine evo_is (evo_lcM (β := Nat) (xs := List.range 4) (fun k => .int (0 + (k : Int))) (fun _ => .bl true) (it_rng1 (n := 4) (ea_cons ev_int ea_nil) (by decide) (by decide)) (by decide) fun k hk => ?_) rfl
  have hk4 : k < 4 := List.mem_range.mp hk
  refine ev_call (A := ⟨(k, great), hk4, hg0.1, (by show great.natAbs < 2 ^ 900; omega)⟩) (ea_cons (ev_is (ev_var rfl) (congrArg D.int (Int.zero_add _))) (ea_cons (ev_var rfl) ea_nil)) rfl
end
theorem all_mk {l : PySem.W.OpenLaw} {w : World} {K : PySem.W.Frag} {h : Heap} {mg : Str → Option Value} {fa : Addr} {e_CoasterError : Addr} {e_BadNumber : Addr} {f1 : Addr} {od1 an1 : Option Addr} {sl1 : Array (Option Value)} {oc1 kV1 dc1 pm1 cd1 ct1 : Value} {f2 : Addr} {od2 an2 : Option Addr} {sl2 : Array (Option Value)} {oc2 kV2 dc2 pm2 cd2 ct2 : Value} {f3 : Addr} {od3 an3 : Option Addr} {sl3 : Array (Option Value)} {oc3 kV3 dc3 pm3 cd3 ct3 : Value} {f4 : Addr} {od4 an4 : Option Addr} {sl4 : Array (Option Value)} {oc4 kV4 dc4 pm4 cd4 ct4 : Value} {f5 : Addr} {od5 an5 : Option Addr} {sl5 : Array (Option Value)} {oc5 kV5 dc5 pm5 cd5 ct5 : Value} {f6 : Addr} {od6 an6 : Option Addr} {sl6 : Array (Option Value)} {oc6 kV6 dc6 pm6 cd6 ct6 : Value} {f7 : Addr} {od7 an7 : Option Addr} {sl7 : Array (Option Value)} {oc7 kV7 dc7 pm7 cd7 ct7 : Value} {f8 : Addr} {od8 an8 : Option Addr} {sl8 : Array (Option Value)} {oc8 kV8 dc8 pm8 cd8 ct8 : Value} {f9 : Addr} {od9 an9 : Option Addr} {sl9 : Array (Option Value)} {oc9 kV9 dc9 pm9 cd9 ct9 : Value} {f10 : Addr} {od10 an10 : Option Addr} {sl10 : Array (Option Value)} {oc10 kV10 dc10 pm10 cd10 ct10 : Value} {f11 : Addr} {od11 an11 : Option Addr} {sl11 : Array (Option Value)} {oc11 kV11 dc11 pm11 cd11 ct11 : Value} {f12 : Addr} {od12 an12 : Option Addr} {sl12 : Array (Option Value)} {oc12 kV12 dc12 pm12 cd12 ct12 : Value} {f13 : Addr} {od13 an13 : Option Addr} {sl13 : Array (Option Value)} {oc13 kV13 dc13 pm13 cd13 ct13 : Value} (X : K.In h) (G : h.Ns mainGlobals mg) (hfa : mg "law" = some (.ref fa))
    (a1 : PySem.W.nsIn K mainGlobals "divided_down" = some (some (.ref f1)))
    (l1 : K.lookup f1 = some ⟨oc1, od1, .func (PySem.W.fnOf "divided_down" "divided_down" (defArgs s_divided_down) (defBody s_divided_down) (defScope s_divided_down) .none kV1 dc1 pm1 an1 cd1 ct1), sl1⟩)
    (c1 : PySem.W.codeIn K cd1 "divided_down" = true)
    (k1 : PySem.W.keepIn K (.ref f1) = true)
    (a2 : PySem.W.nsIn K mainGlobals "divided_up" = some (some (.ref f2)))
    (l2 : K.lookup f2 = some ⟨oc2, od2, .func (PySem.W.fnOf "divided_up" "divided_up" (defArgs s_divided_up) (defBody s_divided_up) (defScope s_divided_up) .none kV2 dc2 pm2 an2 cd2 ct2), sl2⟩)
    (c2 : PySem.W.codeIn K cd2 "divided_up" = true)
    (k2 : PySem.W.keepIn K (.ref f2) = true)
    (a3 : PySem.W.nsIn K mainGlobals "root_down" = some (some (.ref f3)))
    (l3 : K.lookup f3 = some ⟨oc3, od3, .func (PySem.W.fnOf "root_down" "root_down" (defArgs s_root_down) (defBody s_root_down) (defScope s_root_down) .none kV3 dc3 pm3 an3 cd3 ct3), sl3⟩)
    (c3 : PySem.W.codeIn K cd3 "root_down" = true)
    (k3 : PySem.W.keepIn K (.ref f3) = true)
    (a4 : PySem.W.nsIn K mainGlobals "root_up" = some (some (.ref f4)))
    (l4 : K.lookup f4 = some ⟨oc4, od4, .func (PySem.W.fnOf "root_up" "root_up" (defArgs s_root_up) (defBody s_root_up) (defScope s_root_up) .none kV4 dc4 pm4 an4 cd4 ct4), sl4⟩)
    (c4 : PySem.W.codeIn K cd4 "root_up" = true)
    (k4 : PySem.W.keepIn K (.ref f4) = true)
    (a5 : PySem.W.nsIn K mainGlobals "is_interval" = some (some (.ref f5)))
    (l5 : K.lookup f5 = some ⟨oc5, od5, .func (PySem.W.fnOf "is_interval" "is_interval" (defArgs s_is_interval) (defBody s_is_interval) (defScope s_is_interval) .none kV5 dc5 pm5 an5 cd5 ct5), sl5⟩)
    (c5 : PySem.W.codeIn K cd5 "is_interval" = true)
    (k5 : PySem.W.keepIn K (.ref f5) = true)
    (a6 : PySem.W.nsIn K mainGlobals "added" = some (some (.ref f6)))
    (l6 : K.lookup f6 = some ⟨oc6, od6, .func (PySem.W.fnOf "added" "added" (defArgs s_added) (defBody s_added) (defScope s_added) .none kV6 dc6 pm6 an6 cd6 ct6), sl6⟩)
    (c6 : PySem.W.codeIn K cd6 "added" = true)
    (k6 : PySem.W.keepIn K (.ref f6) = true)
    (a7 : PySem.W.nsIn K mainGlobals "hull" = some (some (.ref f7)))
    (l7 : K.lookup f7 = some ⟨oc7, od7, .func (PySem.W.fnOf "hull" "hull" (defArgs s_hull) (defBody s_hull) (defScope s_hull) .none kV7 dc7 pm7 an7 cd7 ct7), sl7⟩)
    (c7 : PySem.W.codeIn K cd7 "hull" = true)
    (k7 : PySem.W.keepIn K (.ref f7) = true)
    (a8 : PySem.W.nsIn K mainGlobals "common" = some (some (.ref f8)))
    (l8 : K.lookup f8 = some ⟨oc8, od8, .func (PySem.W.fnOf "common" "common" (defArgs s_common) (defBody s_common) (defScope s_common) .none kV8 dc8 pm8 an8 cd8 ct8), sl8⟩)
    (c8 : PySem.W.codeIn K cd8 "common" = true)
    (k8 : PySem.W.keepIn K (.ref f8) = true)
    (a9 : PySem.W.nsIn K mainGlobals "_law_cell" = some (some (.ref f9)))
    (l9 : K.lookup f9 = some ⟨oc9, od9, .func (PySem.W.fnOf "_law_cell" "_law_cell" (defArgs s__law_cell) (defBody s__law_cell) (defScope s__law_cell) .none kV9 dc9 pm9 an9 cd9 ct9), sl9⟩)
    (c9 : PySem.W.codeIn K cd9 "_law_cell" = true)
    (k9 : PySem.W.keepIn K (.ref f9) = true)
    (a10 : PySem.W.nsIn K mainGlobals "_law_draws" = some (some (.ref f10)))
    (l10 : K.lookup f10 = some ⟨oc10, od10, .func (PySem.W.fnOf "_law_draws" "_law_draws" (defArgs s__law_draws) (defBody s__law_draws) (defScope s__law_draws) .none kV10 dc10 pm10 an10 cd10 ct10), sl10⟩)
    (c10 : PySem.W.codeIn K cd10 "_law_draws" = true)
    (k10 : PySem.W.keepIn K (.ref f10) = true)
    (a11 : PySem.W.nsIn K mainGlobals "_law_like" = some (some (.ref f11)))
    (l11 : K.lookup f11 = some ⟨oc11, od11, .func (PySem.W.fnOf "_law_like" "_law_like" (defArgs s__law_like) (defBody s__law_like) (defScope s__law_like) .none kV11 dc11 pm11 an11 cd11 ct11), sl11⟩)
    (c11 : PySem.W.codeIn K cd11 "_law_like" = true)
    (k11 : PySem.W.keepIn K (.ref f11) = true)
    (a12 : PySem.W.nsIn K mainGlobals "_law_refused" = some (some (.ref f12)))
    (l12 : K.lookup f12 = some ⟨oc12, od12, .func (PySem.W.fnOf "_law_refused" "_law_refused" (defArgs s__law_refused) (defBody s__law_refused) (defScope s__law_refused) .none kV12 dc12 pm12 an12 cd12 ct12), sl12⟩)
    (c12 : PySem.W.codeIn K cd12 "_law_refused" = true)
    (k12 : PySem.W.keepIn K (.ref f12) = true)
    (a13 : PySem.W.nsIn K mainGlobals "law" = some (some (.ref f13)))
    (l13 : K.lookup f13 = some ⟨oc13, od13, .func (PySem.W.fnOf "law" "law" (defArgs s_law) (defBody s_law) (defScope s_law) .none kV13 dc13 pm13 an13 cd13 ct13), sl13⟩)
    (c13 : PySem.W.codeIn K cd13 "law" = true)
    (k13 : PySem.W.keepIn K (.ref f13) = true)
    (aE_CoasterError : PySem.W.nsIn K mainGlobals "CoasterError" = some (some (.ref e_CoasterError)))
    (iE_CoasterError : PySem.W.isClsIn K e_CoasterError = true)
    (bE_CoasterError : PySem.W.subIn K (.ref e_CoasterError) (.type "BaseException") = some true)
    (tE_CoasterError : PySem.W.typeIn K (.ref e_CoasterError) = some (.type "type"))
    (sE_CoasterError : PySem.W.subIn K (.ref e_CoasterError) (.ref e_CoasterError) = some true)
    (xE_CoasterError : PySem.W.excIn K e_CoasterError [.type "ValueError", .type "Exception", .type "BaseException", .type "object"] "ValueError.__new__" = true)
    (kE_CoasterError : PySem.W.keepIn K (.ref e_CoasterError) = true)
    (aE_BadNumber : PySem.W.nsIn K mainGlobals "BadNumber" = some (some (.ref e_BadNumber)))
    (iE_BadNumber : PySem.W.isClsIn K e_BadNumber = true)
    (bE_BadNumber : PySem.W.subIn K (.ref e_BadNumber) (.type "BaseException") = some true)
    (tE_BadNumber : PySem.W.typeIn K (.ref e_BadNumber) = some (.type "type"))
    (sE_BadNumber : PySem.W.subIn K (.ref e_BadNumber) (.ref e_BadNumber) = some true)
    (xE_BadNumber : PySem.W.excIn K e_BadNumber [.type "ValueError", .type "Exception", .type "BaseException", .type "object"] "ValueError.__new__" = true)
    (kE_BadNumber : PySem.W.keepIn K (.ref e_BadNumber) = true)
    (z_abs : PySem.W.nsIn K mainGlobals "abs" = some none)
    (z_all : PySem.W.nsIn K mainGlobals "all" = some none)
    (z_bool : PySem.W.nsIn K mainGlobals "bool" = some none)
    (z_int : PySem.W.nsIn K mainGlobals "int" = some none)
    (z_isinstance : PySem.W.nsIn K mainGlobals "isinstance" = some none)
    (z_len : PySem.W.nsIn K mainGlobals "len" = some none)
    (z_list : PySem.W.nsIn K mainGlobals "list" = some none)
    (z_max : PySem.W.nsIn K mainGlobals "max" = some none)
    (z_min : PySem.W.nsIn K mainGlobals "min" = some none)
    (z_range : PySem.W.nsIn K mainGlobals "range" = some none)
    (z_str : PySem.W.nsIn K mainGlobals "str" = some none)
    (z_tuple : PySem.W.nsIn K mainGlobals "tuple" = some none)
    (m_isqrt : PySem.W.nsIn K mainGlobals "isqrt" = some (some (.builtin "math.isqrt"))) :
    ∃ fd : FuncData, (∀ (s : Shared) (v : Value), BindsTo s fd ⟨[v], []⟩ [("script", v)]) ∧ ∀ base : Heap, K.In base → base.Ns mainGlobals mg → FnOk l.prog w K mg base (L2.CX l.prog w) 13 fa fd ["script"] (spLaw K (fun _ => 0)) := by
  have e := hfa.symm.trans (PySem.W.mg_of X G a13)
  cases e
  have F1 := fun_mk (st := s_divided_down) l1 c1 k1
  have b1 := F1.binds (ps := ["number", "divisor"]) fun _ _ _ _ _ _ us hl => match us, hl with | [_, _], _ => rfl
  have F2 := fun_mk (st := s_divided_up) l2 c2 k2
  have b2 := F2.binds (ps := ["number", "divisor"]) fun _ _ _ _ _ _ us hl => match us, hl with | [_, _], _ => rfl
  have F3 := fun_mk (st := s_root_down) l3 c3 k3
  have b3 := F3.binds (ps := ["number"]) fun _ _ _ _ _ _ us hl => match us, hl with | [_], _ => rfl
  have F4 := fun_mk (st := s_root_up) l4 c4 k4
  have b4 := F4.binds (ps := ["number"]) fun _ _ _ _ _ _ us hl => match us, hl with | [_], _ => rfl
  have F5 := fun_mk (st := s_is_interval) l5 c5 k5
  have b5 := F5.binds (ps := ["pair"]) fun _ _ _ _ _ _ us hl => match us, hl with | [_], _ => rfl
  have F6 := fun_mk (st := s_added) l6 c6 k6
  have b6 := F6.binds (ps := ["first", "second"]) fun _ _ _ _ _ _ us hl => match us, hl with | [_, _], _ => rfl
  have F7 := fun_mk (st := s_hull) l7 c7 k7
  have b7 := F7.binds (ps := ["first", "second"]) fun _ _ _ _ _ _ us hl => match us, hl with | [_, _], _ => rfl
  have F8 := fun_mk (st := s_common) l8 c8 k8
  have b8 := F8.binds (ps := ["first", "second"]) fun _ _ _ _ _ _ us hl => match us, hl with | [_, _], _ => rfl
  have F9 := fun_mk (st := s__law_cell) l9 c9 k9
  have b9 := F9.binds (ps := ["script", "k"]) fun _ _ _ _ _ _ us hl => match us, hl with | [_, _], _ => rfl
  have F10 := fun_mk (st := s__law_draws) l10 c10 k10
  have b10 := F10.binds (ps := ["cell", "count"]) fun _ _ _ _ _ _ us hl => match us, hl with | [_, _], _ => rfl
  have F11 := fun_mk (st := s__law_like) l11 c11 k11
  have b11 := F11.binds (ps := ["actual", "due"]) fun _ _ _ _ _ _ us hl => match us, hl with | [_, _], _ => rfl
  have F12 := fun_mk (st := s__law_refused) l12 c12 k12
  have b12 := F12.binds (ps := ["sort", "number"]) fun _ _ _ _ _ _ us hl => match us, hl with | [_, _], _ => rfl
  have F13 := fun_mk (st := s_law) l13 c13 k13
  have b13 := F13.binds (ps := ["script"]) fun _ _ _ _ _ _ us hl => match us, hl with | [_], _ => rfl
  let T : Txt K mg := { ca := (fun x => match x with | .coasterError => e_CoasterError | .badNumber => e_BadNumber | _ => 0), a_divided_down := f1, d_divided_down := _, F_divided_down := F1, b_divided_down := b1, g_divided_down := PySem.W.mg_of X G a1, a_divided_up := f2, d_divided_up := _, F_divided_up := F2, b_divided_up := b2, g_divided_up := PySem.W.mg_of X G a2, a_root_down := f3, d_root_down := _, F_root_down := F3, b_root_down := b3, g_root_down := PySem.W.mg_of X G a3, a_root_up := f4, d_root_up := _, F_root_up := F4, b_root_up := b4, g_root_up := PySem.W.mg_of X G a4, a_is_interval := f5, d_is_interval := _, F_is_interval := F5, b_is_interval := b5, g_is_interval := PySem.W.mg_of X G a5, a_added := f6, d_added := _, F_added := F6, b_added := b6, g_added := PySem.W.mg_of X G a6, a_hull := f7, d_hull := _, F_hull := F7, b_hull := b7, g_hull := PySem.W.mg_of X G a7, a_common := f8, d_common := _, F_common := F8, b_common := b8, g_common := PySem.W.mg_of X G a8, a__law_cell := f9, d__law_cell := _, F__law_cell := F9, b__law_cell := b9, g__law_cell := PySem.W.mg_of X G a9, a__law_draws := f10, d__law_draws := _, F__law_draws := F10, b__law_draws := b10, g__law_draws := PySem.W.mg_of X G a10, a__law_like := f11, d__law_like := _, F__law_like := F11, b__law_like := b11, g__law_like := PySem.W.mg_of X G a11, a__law_refused := f12, d__law_refused := _, F__law_refused := F12, b__law_refused := b12, g__law_refused := PySem.W.mg_of X G a12, a_law := fa, d_law := _, F_law := F13, b_law := b13, g_law := PySem.W.mg_of X G a13, g_CoasterError := PySem.W.mg_of X G aE_CoasterError, te_CoasterError := exm_self bE_CoasterError iE_CoasterError tE_CoasterError sE_CoasterError, x_CoasterError := xE_CoasterError, kk_CoasterError := kE_CoasterError, bb_CoasterError := bE_CoasterError, tt_CoasterError := tE_CoasterError, g_BadNumber := PySem.W.mg_of X G aE_BadNumber, te_BadNumber := exm_self bE_BadNumber iE_BadNumber tE_BadNumber sE_BadNumber, x_BadNumber := xE_BadNumber, kk_BadNumber := kE_BadNumber, bb_BadNumber := bE_BadNumber, tt_BadNumber := tE_BadNumber, z_abs := PySem.W.mg_none_of X G z_abs, z_all := PySem.W.mg_none_of X G z_all, z_bool := PySem.W.mg_none_of X G z_bool, z_int := PySem.W.mg_none_of X G z_int, z_isinstance := PySem.W.mg_none_of X G z_isinstance, z_len := PySem.W.mg_none_of X G z_len, z_list := PySem.W.mg_none_of X G z_list, z_max := PySem.W.mg_none_of X G z_max, z_min := PySem.W.mg_none_of X G z_min, z_range := PySem.W.mg_none_of X G z_range, z_str := PySem.W.mg_none_of X G z_str, z_tuple := PySem.W.mg_none_of X G z_tuple, m_isqrt := PySem.W.mg_of X G m_isqrt }
  exact ⟨T.d_law, fun s v => .of_eq rfl, fun base _ _ => (ok_law (P := l.prog) (w := w) (base := base) T).imp fun _ _ _ _ h => h⟩
end Lw
open PySem PySem.W PyProof.Rows
set_option maxRecDepth 100000 in
set_option maxHeartbeats 0 in
theorem PySem.Challenge.cw_coastersafe_k01_whole_numbers_and_interv_holds : PySem.Challenge.rw_coastersafe_k01_whole_numbers_and_interv.Holds := by
  w_on; o_law; k_head; (case hw => w_witness2)
  k_fill
  refine L2.walk_of (l := PySem.Challenge.rw_coastersafe_k01_whole_numbers_and_interv) (n := 63) (k := 13) (x := "script") (CX := fun w => L2.CX PySem.Challenge.rw_coastersafe_k01_whole_numbers_and_interv.prog w) (sp := fun w => Cs.spLaw _ (fun _ => 0)) rfl (by decide) rfl ⟨rfl, by decide, by decide⟩ (fun w h Y => PySem.W.kIn_of Y) ?F (fun _ H a ns hl hO hS => Cs.law_start _ H a ns hl hS) (fun _ _ _ _ _ h => by obtain ⟨_, _, _, _, _, _, _, _, _, _, _, _, z⟩ := h; exact z)
  case F =>
    intro w mg fa h KX G hmg
    refine' Lw.all_mk KX G hmg ?a1 ?l1 ?c1 ?k1 ?a2 ?l2 ?c2 ?k2 ?a3 ?l3 ?c3 ?k3 ?a4 ?l4 ?c4 ?k4 ?a5 ?l5 ?c5 ?k5 ?a6 ?l6 ?c6 ?k6 ?a7 ?l7 ?c7 ?k7 ?a8 ?l8 ?c8 ?k8 ?a9 ?l9 ?c9 ?k9 ?a10 ?l10 ?c10 ?k10 ?a11 ?l11 ?c11 ?k11 ?a12 ?l12 ?c12 ?k12 ?a13 ?l13 ?c13 ?k13 ?aE_CoasterError ?iE_CoasterError ?bE_CoasterError ?tE_CoasterError ?sE_CoasterError ?xE_CoasterError ?kE_CoasterError ?aE_BadNumber ?iE_BadNumber ?bE_BadNumber ?tE_BadNumber ?sE_BadNumber ?xE_BadNumber ?kE_BadNumber ?z_abs ?z_all ?z_bool ?z_int ?z_isinstance ?z_len ?z_list ?z_max ?z_min ?z_range ?z_str ?z_tuple ?m_isqrt
    (case a1 => first | k_is | rfl)
    (case l1 => first | k_is | rfl)
    (case c1 => first | k_is | rfl)
    (case k1 => first | k_is | rfl)
    (case a2 => first | k_is | rfl)
    (case l2 => first | k_is | rfl)
    (case c2 => first | k_is | rfl)
    (case k2 => first | k_is | rfl)
    (case a3 => first | k_is | rfl)
    (case l3 => first | k_is | rfl)
    (case c3 => first | k_is | rfl)
    (case k3 => first | k_is | rfl)
    (case a4 => first | k_is | rfl)
    (case l4 => first | k_is | rfl)
    (case c4 => first | k_is | rfl)
    (case k4 => first | k_is | rfl)
    (case a5 => first | k_is | rfl)
    (case l5 => first | k_is | rfl)
    (case c5 => first | k_is | rfl)
    (case k5 => first | k_is | rfl)
    (case a6 => first | k_is | rfl)
    (case l6 => first | k_is | rfl)
    (case c6 => first | k_is | rfl)
    (case k6 => first | k_is | rfl)
    (case a7 => first | k_is | rfl)
    (case l7 => first | k_is | rfl)
    (case c7 => first | k_is | rfl)
    (case k7 => first | k_is | rfl)
    (case a8 => first | k_is | rfl)
    (case l8 => first | k_is | rfl)
    (case c8 => first | k_is | rfl)
    (case k8 => first | k_is | rfl)
    (case a9 => first | k_is | rfl)
    (case l9 => first | k_is | rfl)
    (case c9 => first | k_is | rfl)
    (case k9 => first | k_is | rfl)
    (case a10 => first | k_is | rfl)
    (case l10 => first | k_is | rfl)
    (case c10 => first | k_is | rfl)
    (case k10 => first | k_is | rfl)
    (case a11 => first | k_is | rfl)
    (case l11 => first | k_is | rfl)
    (case c11 => first | k_is | rfl)
    (case k11 => first | k_is | rfl)
    (case a12 => first | k_is | rfl)
    (case l12 => first | k_is | rfl)
    (case c12 => first | k_is | rfl)
    (case k12 => first | k_is | rfl)
    (case a13 => first | k_is | rfl)
    (case l13 => first | k_is | rfl)
    (case c13 => first | k_is | rfl)
    (case k13 => first | k_is | rfl)
    (case aE_CoasterError => first | k_is | rfl)
    (case iE_CoasterError => first | k_is | rfl)
    (case bE_CoasterError => first | k_is | rfl)
    (case tE_CoasterError => first | k_is | rfl)
    (case sE_CoasterError => first | k_is | rfl)
    (case xE_CoasterError => k_exc)
    (case kE_CoasterError => first | k_is | rfl)
    (case aE_BadNumber => first | k_is | rfl)
    (case iE_BadNumber => first | k_is | rfl)
    (case bE_BadNumber => first | k_is | rfl)
    (case tE_BadNumber => first | k_is | rfl)
    (case sE_BadNumber => first | k_is | rfl)
    (case xE_BadNumber => k_exc)
    (case kE_BadNumber => first | k_is | rfl)
    (case z_abs => first | k_is | rfl)
    (case z_all => first | k_is | rfl)
    (case z_bool => first | k_is | rfl)
    (case z_int => first | k_is | rfl)
    (case z_isinstance => first | k_is | rfl)
    (case z_len => first | k_is | rfl)
    (case z_list => first | k_is | rfl)
    (case z_max => first | k_is | rfl)
    (case z_min => first | k_is | rfl)
    (case z_range => first | k_is | rfl)
    (case z_str => first | k_is | rfl)
    (case z_tuple => first | k_is | rfl)
    (case m_isqrt => first | k_is | rfl)
