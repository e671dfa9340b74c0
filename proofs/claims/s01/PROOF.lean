import PyProof.Rows.All
import Wide.All
import OpenK.AllK
import Wide.FinOn
import Open.SpecLaws
import KE.OsGo
import HandS.ForMost
import HandS.Base
import HandS.Call
import HandS.List
import HandS.Dict
import HandS.Words
import HandS.WordsList
import PyHa04
import HandS.ForSpec
import HandS.Steps
import HandS.Walk
import HandS.More
import PySem.Challenge.RW_answeredonce_s01_answers
set_option Elab.async false
set_option maxRecDepth 100000
set_option maxHeartbeats 4000000
namespace AO
open PySem L2
set_option linter.unusedVariables false in
theorem ext_tup (l : Addr) (xs : Array Value) (n : Nat) (b : Addr) (ys : Array Value) (k : Nat) (dd : Option Addr) (ss : Array (Option Value)) (h0 : ¬(!xs.isEmpty && Builtin.List.listTooLong (xs.size + ys.size)) = true) (h1 : xs.size ≤ sizeLine) (h2 : xs.size + ys.size ≤ sizeLine + 1) :
    Meets (Builtin.«list.extend» ⟨[.ref l, .ref b], []⟩) (fun _ R s => s.heap.get? l = some { cls := .type "list", dict := none, data := .seq xs n, slots := #[] } ∧ s.heap.get? b = some { cls := .type "tuple", dict := dd, data := .seq ys k, slots := ss } ∧
      R (.ok (.ret Value.none)) { s with heap := s.heap.update l (Obj.mapSeq fun x => x ++ ys), toks := s.toks }) := by
  refine .of_wp fun prog w A R s h => ?_
  obtain ⟨hp, g, d, tk, os⟩ := s
  obtain ⟨hl, hb, h⟩ := h
  have q1 := AutoSeq1.idx_int
  have q2 := AutoSeq1.sub_tuple_tuple
  have q3 := AutoSeq1.sub_list_list
  have q4 := AutoSeq1.sub_tuple_list
  have q5 := AutoSeq1.sub_list_tuple
  have hz : (xs ++ ys).size ≤ sizeLine + 1 := by
    rw [Array.size_append]
    exact h2
  wp_walk using (wpAny_updateSeq hl rfl (hz := h1) (_hz' := hz)), AutoSeq1.wpAny_loadPart' hl, AutoSeq1.wpAny_loadPart' hb
  exact ⟨_, rfl, h⟩
def rExtT (K : PySem.W.Frag) : V → List V → Hp → VK → Prop := fun x vs H Q => ∃ l b us ws, x = .ref l ∧ vs = [.ref b] ∧ H l = some (.lst us) ∧ SqT K H b ws ∧ us.length + ws.length ≤ sizeLine ∧ Q .non (upd H l (.lst (us ++ ws)))
/-- l.extend(a tuple) -/
theorem mt_extT {X : Cx} : MtM X "list.extend" (rExtT X.K) := by
  intro pins s σ H x vs v us Q I rx rv h
  obtain ⟨l, b, p, q, rfl, rfl, hH, hB, hz, k⟩ := h
  cases rx
  obtain ⟨u, rfl, ru⟩ := rv.one
  cases ru
  obtain ⟨z, its, n, r, hl, e⟩ := I.lstM hH
  obtain ⟨jts, r2, ⟨ob, e2, c2, m, d2⟩, z2⟩ := I.tuple hB
  have l1 := r.length
  have l2 := r2.length
  have hs : its.toArray.size + jts.toArray.size ≤ sizeLine := by
    rw [List.size_toArray, List.size_toArray]
    omega
  have hlong : ¬ (!its.toArray.isEmpty && Builtin.List.listTooLong (its.toArray.size + jts.toArray.size)) = true := by
    rw [notLongL hs, Bool.and_false]
    exact Bool.false_ne_true
  obtain ⟨oc, od, oda, os⟩ := ob
  have c2 : oc = _ := c2
  have d2 : oda = _ := d2
  subst c2 d2
  refine call_meets PySem.F.slot_list_extend ⟨_, e, rfl⟩ PySem.F.entry_list_extend (PySem.F.args_list_extend_2 _ _) (ext_tup l its.toArray n b jts.toArray m od os hlong (by rw [List.size_toArray]; omega) (by omega)) ⟨e, e2, ?_⟩
  refine ⟨.non, _, I.lset (its' := its ++ jts) hH e (by simp) (r.append r2) ?_, rfl, k⟩
  rw [List.length_append]
  omega
end AO

set_option Elab.async false
set_option maxRecDepth 100000
set_option maxHeartbeats 2000000
namespace AO
open PySem L2
/-! ### 1. The state as the program keeps it -/
structure WaitM where
  number : Int
  server : Int
  ends : Int
  over : Int
structure CallerM where
  waiting : Option WaitM
  came : List (List Int)
structure ServerM where
  alive : Bool
  lives : Int
  total : Int
  asked : List (List Int)
  later : List (List Int)
  watchers : List (List Int)
structure M where
  now : Int
  made : Int
  callers : Int → CallerM
  servers : Int → ServerM
  air : List (Int × Int × List Int)
def M.setC (m : M) (c : Int) (x : CallerM) : M := { m with callers := fun j => if j = c then x else m.callers j }
def M.setS (m : M) (p : Int) (x : ServerM) : M := { m with servers := fun j => if j = p then x else m.servers j }
theorem M.setC_at (m : M) (c : Int) (x : CallerM) : (m.setC c x).callers c = x := if_pos rfl
theorem M.setS_at (m : M) (p : Int) (x : ServerM) : (m.setS p x).servers p = x := if_pos rfl
theorem M.setC_ne {m : M} {c j : Int} {x : CallerM} (h : j ≠ c) : (m.setC c x).callers j = m.callers j := if_neg h
theorem M.setS_ne {m : M} {p j : Int} {x : ServerM} (h : j ≠ p) : (m.setS p x).servers j = m.servers j := if_neg h
/-! ### 2. Lists side by side -/
def All2 {α β : Type} (R : α → β → Prop) : List α → List β → Prop
  | [], [] => True
  | a :: r, b :: s => R a b ∧ All2 R r s
  | _, _ => False
theorem All2.len {α β : Type} {R : α → β → Prop} : ∀ {r : List α} {s : List β}, All2 R r s → r.length = s.length
  | [], [], _ => rfl
  | _ :: _, _ :: _, h => by rw [List.length_cons, List.length_cons, All2.len h.2]
  | [], _ :: _, h => h.elim
  | _ :: _, [], h => h.elim
theorem All2.mono {α β : Type} {R S : α → β → Prop} (f : ∀ a b, R a b → S a b) : ∀ {r : List α} {s : List β}, All2 R r s → All2 S r s
  | [], [], _ => trivial
  | _ :: _, _ :: _, h => ⟨f _ _ h.1, All2.mono f h.2⟩
  | [], _ :: _, h => h.elim
  | _ :: _, [], h => h.elim
theorem All2.snoc {α β : Type} {R : α → β → Prop} {a : α} {b : β} (k : R a b) : ∀ {r : List α} {s : List β}, All2 R r s → All2 R (r ++ [a]) (s ++ [b])
  | [], [], _ => ⟨k, trivial⟩
  | _ :: _, _ :: _, h => ⟨h.1, All2.snoc k h.2⟩
  | [], _ :: _, h => h.elim
  | _ :: _, [], h => h.elim
theorem All2.erase {α β : Type} {R : α → β → Prop} : ∀ {r : List α} {s : List β} (i : Nat), All2 R r s → All2 R (r.eraseIdx i) (s.eraseIdx i)
  | [], [], _, _ => trivial
  | _ :: _, _ :: _, 0, h => h.2
  | _ :: _, _ :: _, i + 1, h => ⟨h.1, All2.erase i h.2⟩
  | [], _ :: _, _, h => h.elim
  | _ :: _, [], _, h => h.elim
theorem All2.get {α β : Type} {R : α → β → Prop} : ∀ {r : List α} {s : List β} {i : Nat} {b : β}, All2 R r s → s[i]? = some b → ∃ a, r[i]? = some a ∧ R a b
  | [], [], _, _, _, e => by simp at e
  | a :: _, b :: _, 0, _, h, e => by
    have e : b = _ := Option.some.inj e
    subst e
    exact ⟨a, rfl, h.1⟩
  | _ :: _, _ :: _, i + 1, _, h, e => All2.get (i := i) h.2 e
  | [], _ :: _, _, _, h, _ => h.elim
  | _ :: _, [], _, _, h, _ => h.elim
theorem All2.get1 {α β : Type} {R : α → β → Prop} : ∀ {r : List α} {s : List β} {i : Nat} {a : α}, All2 R r s → r[i]? = some a → ∃ b, s[i]? = some b ∧ R a b
  | [], [], _, _, _, e => by simp at e
  | a :: _, b :: _, 0, _, h, e => by
    have e : a = _ := Option.some.inj e
    subst e
    exact ⟨b, rfl, h.1⟩
  | _ :: _, _ :: _, i + 1, _, h, e => All2.get1 (i := i) h.2 e
  | [], _ :: _, _, _, h, _ => h.elim
  | _ :: _, [], _, _, h, _ => h.elim
/-! ### 3. How the state lies in the heap -/
/-- the classes -/
structure Cs where
  W : Addr
  C : Addr
  S : Addr
  L : Addr
  T : Addr
  /-- how many numbers each call has: the table's place -/
  g : Addr
structure Lay where
  w : Addr
  dxw : Addr
  dc : Addr
  ds : Addr
  air : Addr
  airR : List Addr
  cal : Int → Addr
  calD : Int → Addr
  calW : Int → V
  came : Int → Addr
  cameR : Int → List Addr
  srv : Int → Addr
  srvD : Int → Addr
  ask : Int → Addr
  lat : Int → Addr
  wat : Int → Addr
  askR : Int → List Addr
  latR : Int → List Addr
  watR : Int → List Addr
def wF (m : M) (dc ds air : Addr) : List (Str × V) := [("now", .int m.now), ("made", .int m.made), ("callers", .ref dc), ("servers", .ref ds), ("air", .ref air)]
def cF (w : V) (came : Addr) : List (Str × V) := [("waiting", w), ("came", .ref came)]
def sF (x : ServerM) (a l t : Addr) : List (Str × V) := [("alive", .bl x.alive), ("lives", .int x.lives), ("total", .int x.total), ("asked", .ref a), ("later", .ref l), ("watchers", .ref t)]
def lF (p q : Int) (t : Addr) : List (Str × V) := [("sender", .int p), ("receiver", .int q), ("told", .ref t)]
def tF (x : WaitM) : List (Str × V) := [("number", .int x.number), ("server", .int x.server), ("ends", .int x.ends), ("over", .int x.over)]
inductive Cell where
  | w | air | cal (c : Int) | came (c : Int) | srv (p : Int) | ask (p : Int) | lat (p : Int) | wat (p : Int)
def Cell.ok : Cell → Prop
  | .w => True
  | .air => True
  | .cal c => 1 ≤ c ∧ c ≤ 4
  | .came c => 1 ≤ c ∧ c ≤ 4
  | .srv p => 11 ≤ p ∧ p ≤ 14
  | .ask p => 11 ≤ p ∧ p ≤ 14
  | .lat p => 11 ≤ p ∧ p ≤ 14
  | .wat p => 11 ≤ p ∧ p ≤ 14
def Lay.pl (L : Lay) : Cell → Addr
  | .w => L.w
  | .air => L.air
  | .cal c => L.cal c
  | .came c => L.came c
  | .srv p => L.srv p
  | .ask p => L.ask p
  | .lat p => L.lat p
  | .wat p => L.wat p
def refs (l : List Addr) : List V := l.map V.ref
def val (Z : Cs) (L : Lay) (m : M) : Cell → HO
  | .w => .ins Z.W L.dxw (wF m L.dc L.ds L.air)
  | .air => .lst (refs L.airR)
  | .cal c => .ins Z.C (L.calD c) (cF (L.calW c) (L.came c))
  | .came c => .lst (refs (L.cameR c))
  | .srv p => .ins Z.S (L.srvD p) (sF (m.servers p) (L.ask p) (L.lat p) (L.wat p))
  | .ask p => .lst (refs (L.askR p))
  | .lat p => .lst (refs (L.latR p))
  | .wat p => .lst (refs (L.watR p))
def imm : HO → Prop
  | .tup _ => True
  | .dK _ => True
  | .ins _ _ fs => fs.head?.map (·.1) = some ("sender" : Str) ∨ fs.head?.map (·.1) = some ("number" : Str)
  | _ => False
/-- what never changes is as it was -/
def KeepI (H H' : Hp) : Prop := ∀ b o, H b = some o → imm o → H' b = some o
theorem KeepI.refl (H : Hp) : KeepI H H := fun _ _ h _ => h
theorem KeepI.trans {H H1 H2 : Hp} (a : KeepI H H1) (b : KeepI H1 H2) : KeepI H H2 := fun c o h i => b c o (a c o h i) i
theorem KeepI.of {H H' : Hp} (s : Same H H') : KeepI H H' := fun b o h _ => s b o h
theorem Same.new {H : Hp} {p : Addr} {o : HO} (h : H p = none) : Same H (upd H p o) := fun a u e => by
  rw [upd_ne (ne_of_none e h)]
  exact e
def TupAt (H : Hp) (a : Addr) (xs : List Int) : Prop := H a = some (.tup (xs.map V.int))
def LetterAt (Z : Cs) (H : Hp) (a : Addr) (y : Int × Int × List Int) : Prop := ∃ dx t, H a = some (.ins Z.L dx (lF y.1 y.2.1 t)) ∧ TupAt H t y.2.2
def WaitAt (Z : Cs) (H : Hp) (v : V) : Option WaitM → Prop
  | none => v = .non
  | some x => ∃ a dx, v = .ref a ∧ H a = some (.ins Z.T dx (tF x))
theorem TupAt.mono {H H' : Hp} (k : KeepI H H') {a : Addr} {xs : List Int} (h : TupAt H a xs) : TupAt H' a xs := k _ _ h trivial
theorem LetterAt.mono {Z : Cs} {H H' : Hp} (k : KeepI H H') {a : Addr} {y : Int × Int × List Int} (h : LetterAt Z H a y) : LetterAt Z H' a y := by
  obtain ⟨dx, t, h1, h2⟩ := h
  exact ⟨dx, t, k _ _ h1 (.inl rfl), h2.mono k⟩
theorem WaitAt.mono {Z : Cs} {H H' : Hp} (k : KeepI H H') {v : V} : ∀ {x : Option WaitM}, WaitAt Z H v x → WaitAt Z H' v x
  | none, h => h
  | some _, ⟨a, dx, e, h⟩ => ⟨a, dx, e, k _ _ h (.inr rfl)⟩
def cals (L : Lay) : List (Key × V) := [(.inl 1, .ref (L.cal 1)), (.inl 2, .ref (L.cal 2)), (.inl 3, .ref (L.cal 3)), (.inl 4, .ref (L.cal 4))]
def srvs (L : Lay) : List (Key × V) := [(.inl 11, .ref (L.srv 11)), (.inl 12, .ref (L.srv 12)), (.inl 13, .ref (L.srv 13)), (.inl 14, .ref (L.srv 14))]
structure Held (Z : Cs) (H : Hp) (L : Lay) (m : M) : Prop where
  dc : H L.dc = some (.dK (cals L))
  ds : H L.ds = some (.dK (srvs L))
  air : All2 (LetterAt Z H) L.airR m.air
  came : ∀ c, 1 ≤ c ∧ c ≤ 4 → All2 (TupAt H) (L.cameR c) (m.callers c).came
  wait : ∀ c, 1 ≤ c ∧ c ≤ 4 → WaitAt Z H (L.calW c) (m.callers c).waiting
  ask : ∀ p, 11 ≤ p ∧ p ≤ 14 → All2 (TupAt H) (L.askR p) (m.servers p).asked
  lat : ∀ p, 11 ≤ p ∧ p ≤ 14 → All2 (TupAt H) (L.latR p) (m.servers p).later
  wat : ∀ p, 11 ≤ p ∧ p ≤ 14 → All2 (TupAt H) (L.watR p) (m.servers p).watchers
theorem Held.mono {Z : Cs} {H H' : Hp} (k : KeepI H H') {L : Lay} {m : M} (h : Held Z H L m) : Held Z H' L m :=
  ⟨k _ _ h.dc trivial, k _ _ h.ds trivial, h.air.mono fun _ _ q => q.mono k, fun c hc => (h.came c hc).mono fun _ _ q => q.mono k, fun c hc => (h.wait c hc).mono k,
    fun p hp => (h.ask p hp).mono fun _ _ q => q.mono k, fun p hp => (h.lat p hp).mono fun _ _ q => q.mono k, fun p hp => (h.wat p hp).mono fun _ _ q => q.mono k⟩
/-- the state m stands in H, laid by L; all that was in H0 stands as it was, and nothing of the state's own is there -/
structure Wd (Z : Cs) (H0 H : Hp) (L : Lay) (m : M) : Prop where
  same : Same H0 H
  cell : ∀ k : Cell, k.ok → H (L.pl k) = some (val Z L m k)
  out : ∀ k : Cell, k.ok → H0 (L.pl k) = none
  inj : ∀ j k : Cell, j.ok → k.ok → L.pl j = L.pl k → j = k
  held : Held Z H L m
theorem sn : ¬ (("now" : Str) = "sender") := by decide +kernel
theorem nn : ¬ (("now" : Str) = "number") := by decide +kernel
theorem ws : ¬ (("waiting" : Str) = "sender") := by decide +kernel
theorem wn : ¬ (("waiting" : Str) = "number") := by decide +kernel
theorem as_ : ¬ (("alive" : Str) = "sender") := by decide +kernel
theorem an : ¬ (("alive" : Str) = "number") := by decide +kernel
theorem val_imm {Z : Cs} {L : Lay} {m : M} : ∀ k : Cell, ¬ imm (val Z L m k)
  | .w => fun h => h.elim (fun e => sn (Option.some.inj e)) (fun e => nn (Option.some.inj e))
  | .air => fun h => h
  | .cal _ => fun h => h.elim (fun e => ws (Option.some.inj e)) (fun e => wn (Option.some.inj e))
  | .came _ => fun h => h
  | .srv _ => fun h => h.elim (fun e => as_ (Option.some.inj e)) (fun e => an (Option.some.inj e))
  | .ask _ => fun h => h
  | .lat _ => fun h => h
  | .wat _ => fun h => h
section
variable {Z : Cs} {H0 H : Hp} {L : Lay} {m : M}
theorem Wd.keep (h : Wd Z H0 H L m) {k : Cell} (hk : k.ok) {o : HO} : KeepI H (upd H (L.pl k) o) := fun b u hb iu => by
  have n : b ≠ L.pl k := fun e => by
    rw [e, h.cell k hk] at hb
    exact val_imm k ((Option.some.inj hb) ▸ iu)
  rw [upd_ne n]
  exact hb
theorem Wd.mono {H' : Hp} (s : Same H H') (h : Wd Z H0 H L m) : Wd Z H0 H' L m :=
  ⟨h.same.trans s, fun k hk => s _ _ (h.cell k hk), h.out, h.inj, h.held.mono (.of s)⟩
theorem Wd.ne_out (h : Wd Z H0 H L m) {k : Cell} (hk : k.ok) {b : Addr} {o : HO} (hb : H0 b = some o) : b ≠ L.pl k := ne_of_none hb (h.out k hk)
theorem Wd.ne_new (h : Wd Z H0 H L m) {k : Cell} (hk : k.ok) {b : Addr} (hb : H b = none) : L.pl k ≠ b := ne_of_none (h.cell k hk) hb
/-- one cell is stored -/
theorem Wd.put (h : Wd Z H0 H L m) {k : Cell} (hk : k.ok) {o : HO} {L' : Lay} {m' : M} (hat : ∀ j, L'.pl j = L.pl j) (ho : val Z L' m' k = o) (hj : ∀ j : Cell, j.ok → j ≠ k → val Z L' m' j = val Z L m j) (hh : Held Z H L' m') :
    Wd Z H0 (upd H (L.pl k) o) L' m' := by
  refine ⟨fun b u hb => ?_, fun j jk => ?_, fun j jk => ?_, fun i j ik jk e => ?_, hh.mono (h.keep hk)⟩
  · rw [upd_ne (h.ne_out hk hb)]
    exact h.same b u hb
  · rw [hat]
    by_cases e : j = k
    · subst e
      rw [ho]
      exact upd_same
    · rw [upd_ne fun q => e (h.inj j k jk hk q), hj j jk e]
      exact h.cell j jk
  · rw [hat]
    exact h.out j jk
  · rw [hat, hat] at e
    exact h.inj i j ik jk e
/-- one cell k moves to a new place q, the cell s that tells where is stored -/
theorem Wd.move (h : Wd Z H0 H L m) {k s : Cell} (sk : s.ok) (ks : s ≠ k) {q : Addr} {o : HO} {L' : Lay} {m' : M} (hq : H q = some (val Z L' m' k)) (hq0 : H0 q = none) (hqn : ∀ j : Cell, j.ok → L.pl j ≠ q)
    (hat : ∀ j, j ≠ k → L'.pl j = L.pl j) (hak : L'.pl k = q) (ho : val Z L' m' s = o) (hj : ∀ j : Cell, j.ok → j ≠ s → j ≠ k → val Z L' m' j = val Z L m j) (hh : Held Z H L' m') :
    Wd Z H0 (upd H (L.pl s) o) L' m' := by
  refine ⟨fun b u hb => ?_, fun j jk => ?_, fun j jk => ?_, fun i j ik jk e => ?_, hh.mono (h.keep sk)⟩
  · rw [upd_ne (h.ne_out sk hb)]
    exact h.same b u hb
  · by_cases e : j = k
    · subst e
      rw [hak, upd_ne (hqn s sk).symm]
      exact hq
    · rw [hat j e]
      by_cases e2 : j = s
      · subst e2
        rw [ho]
        exact upd_same
      · rw [upd_ne fun q => e2 (h.inj j s jk sk q), hj j jk e2 e]
        exact h.cell j jk
  · by_cases e : j = k
    · subst e
      rw [hak]
      exact hq0
    · rw [hat j e]
      exact h.out j jk
  · by_cases ei : i = k
    · by_cases ej : j = k
      · rw [ei, ej]
      · rw [ei, hak, hat j ej] at e
        exact absurd e.symm (hqn j jk)
    · by_cases ej : j = k
      · rw [ej, hak, hat i ei] at e
        exact absurd e (hqn i ik)
      · rw [hat i ei, hat j ej] at e
        exact h.inj i j ik jk e
/-- what is new and no part of the state goes over to the outside -/
theorem Wd.give (h : Wd Z H0 H L m) {p : Addr} {o : HO} (hp : H p = some o) (hn : ∀ j : Cell, j.ok → L.pl j ≠ p) : Wd Z (upd H0 p o) H L m := by
  refine ⟨fun b u hb => ?_, h.cell, fun k hk => ?_, h.inj, h.held⟩
  · by_cases e : b = p
    · subst e
      rw [upd_same] at hb
      cases hb
      exact hp
    · rw [upd_ne e] at hb
      exact h.same b u hb
  · rw [upd_ne (hn k hk)]
    exact h.out k hk
/-- what stands outside is stored by others -/
theorem Wd.outer (h : Wd Z H0 H L m) {p : Addr} {o u : HO} (hp : H0 p = some u) (hi : ¬ imm u) : Wd Z (upd H0 p o) (upd H p o) L m := by
  have np : ∀ k : Cell, k.ok → L.pl k ≠ p := fun k hk => (h.ne_out hk hp).symm
  refine ⟨fun b v hb => ?_, fun k hk => ?_, fun k hk => ?_, h.inj, h.held.mono fun b v hb iv => ?_⟩
  · by_cases e : b = p
    · subst e
      rw [upd_same] at hb ⊢
      exact hb
    · rw [upd_ne e] at hb ⊢
      exact h.same b v hb
  · rw [upd_ne (np k hk)]
    exact h.cell k hk
  · rw [upd_ne (np k hk)]
    exact h.out k hk
  · have n : b ≠ p := fun e => by
      rw [e, h.same _ _ hp] at hb
      exact hi ((Option.some.inj hb) ▸ iv)
    rw [upd_ne n]
    exact hb
end
end AO

set_option Elab.async false
set_option maxRecDepth 100000
set_option maxHeartbeats 2000000
namespace AO
open PySem L2
theorem lk_here {k : Str} {v : V} {r : List (Str × V)} : List.lookup k ((k, v) :: r) = some v := by
  have e : (k == k) = true := beq_self_eq_true k
  simp only [List.lookup, e]
theorem lk_past {k g : Str} {v : V} {r : List (Str × V)} (h : (k == g) = false) : List.lookup k ((g, v) :: r) = List.lookup k r := by
  simp only [List.lookup, h]
theorem put_here {f : Str} {v x : V} {r : List (Str × V)} : putF f v ((f, x) :: r) = (f, v) :: r := if_pos rfl
theorem put_past {f g : Str} {v x : V} {r : List (Str × V)} (h : ¬ g = f) : putF f v ((g, x) :: r) = (g, x) :: putF f v r := if_neg h
theorem put_nil {f : Str} {v : V} : putF f v [] = [(f, v)] := rfl
section
variable (m : M) (dc ds air : Addr)
theorem wF_now : (wF m dc ds air).lookup ("now" : Str) = some (.int m.now) := lk_here
theorem wF_made : (wF m dc ds air).lookup ("made" : Str) = some (.int m.made) := (lk_past (by decide +kernel)).trans lk_here
theorem wF_callers : (wF m dc ds air).lookup ("callers" : Str) = some (.ref dc) := (lk_past (by decide +kernel)).trans ((lk_past (by decide +kernel)).trans lk_here)
theorem wF_servers : (wF m dc ds air).lookup ("servers" : Str) = some (.ref ds) := (lk_past (by decide +kernel)).trans ((lk_past (by decide +kernel)).trans ((lk_past (by decide +kernel)).trans lk_here))
theorem wF_air : (wF m dc ds air).lookup ("air" : Str) = some (.ref air) := (lk_past (by decide +kernel)).trans ((lk_past (by decide +kernel)).trans ((lk_past (by decide +kernel)).trans ((lk_past (by decide +kernel)).trans lk_here)))
theorem wF_putNow (x : Int) : putF "now" (.int x) (wF m dc ds air) = wF { m with now := x } dc ds air := put_here
theorem wF_putMade (x : Int) : putF "made" (.int x) (wF m dc ds air) = wF { m with made := x } dc ds air := (put_past (by decide +kernel)).trans (congrArg _ put_here)
end
theorem cF_waiting (w : V) (a : Addr) : (cF w a).lookup ("waiting" : Str) = some w := lk_here
theorem cF_came (w : V) (a : Addr) : (cF w a).lookup ("came" : Str) = some (.ref a) := (lk_past (by decide +kernel)).trans lk_here
theorem cF_putWaiting (w v : V) (a : Addr) : putF "waiting" v (cF w a) = cF v a := put_here
section
variable (x : ServerM) (a l t : Addr)
theorem sF_alive : (sF x a l t).lookup ("alive" : Str) = some (.bl x.alive) := lk_here
theorem sF_lives : (sF x a l t).lookup ("lives" : Str) = some (.int x.lives) := (lk_past (by decide +kernel)).trans lk_here
theorem sF_total : (sF x a l t).lookup ("total" : Str) = some (.int x.total) := (lk_past (by decide +kernel)).trans ((lk_past (by decide +kernel)).trans lk_here)
theorem sF_asked : (sF x a l t).lookup ("asked" : Str) = some (.ref a) := (lk_past (by decide +kernel)).trans ((lk_past (by decide +kernel)).trans ((lk_past (by decide +kernel)).trans lk_here))
theorem sF_later : (sF x a l t).lookup ("later" : Str) = some (.ref l) := (lk_past (by decide +kernel)).trans ((lk_past (by decide +kernel)).trans ((lk_past (by decide +kernel)).trans ((lk_past (by decide +kernel)).trans lk_here)))
theorem sF_watchers : (sF x a l t).lookup ("watchers" : Str) = some (.ref t) := (lk_past (by decide +kernel)).trans ((lk_past (by decide +kernel)).trans ((lk_past (by decide +kernel)).trans ((lk_past (by decide +kernel)).trans ((lk_past (by decide +kernel)).trans lk_here))))
theorem sF_putAlive (b : Bool) : putF "alive" (.bl b) (sF x a l t) = sF { x with alive := b } a l t := put_here
theorem sF_putLives (i : Int) : putF "lives" (.int i) (sF x a l t) = sF { x with lives := i } a l t := (put_past (by decide +kernel)).trans (congrArg _ put_here)
theorem sF_putTotal (i : Int) : putF "total" (.int i) (sF x a l t) = sF { x with total := i } a l t := (put_past (by decide +kernel)).trans (congrArg _ ((put_past (by decide +kernel)).trans (congrArg _ put_here)))
theorem sF_putAsked (b : Addr) : putF "asked" (.ref b) (sF x a l t) = sF x b l t := (put_past (by decide +kernel)).trans (congrArg _ ((put_past (by decide +kernel)).trans (congrArg _ ((put_past (by decide +kernel)).trans (congrArg _ put_here)))))
theorem sF_putLater (b : Addr) : putF "later" (.ref b) (sF x a l t) = sF x a b t := (put_past (by decide +kernel)).trans (congrArg _ ((put_past (by decide +kernel)).trans (congrArg _ ((put_past (by decide +kernel)).trans (congrArg _ ((put_past (by decide +kernel)).trans (congrArg _ put_here)))))))
theorem sF_putWatchers (b : Addr) : putF "watchers" (.ref b) (sF x a l t) = sF x a l b := (put_past (by decide +kernel)).trans (congrArg _ ((put_past (by decide +kernel)).trans (congrArg _ ((put_past (by decide +kernel)).trans (congrArg _ ((put_past (by decide +kernel)).trans (congrArg _ ((put_past (by decide +kernel)).trans (congrArg _ put_here)))))))))
end
theorem lF_sender (p q : Int) (t : Addr) : (lF p q t).lookup ("sender" : Str) = some (.int p) := lk_here
theorem lF_receiver (p q : Int) (t : Addr) : (lF p q t).lookup ("receiver" : Str) = some (.int q) := (lk_past (by decide +kernel)).trans lk_here
theorem lF_told (p q : Int) (t : Addr) : (lF p q t).lookup ("told" : Str) = some (.ref t) := (lk_past (by decide +kernel)).trans ((lk_past (by decide +kernel)).trans lk_here)
theorem tF_number (x : WaitM) : (tF x).lookup ("number" : Str) = some (.int x.number) := lk_here
theorem tF_server (x : WaitM) : (tF x).lookup ("server" : Str) = some (.int x.server) := (lk_past (by decide +kernel)).trans lk_here
theorem tF_ends (x : WaitM) : (tF x).lookup ("ends" : Str) = some (.int x.ends) := (lk_past (by decide +kernel)).trans ((lk_past (by decide +kernel)).trans lk_here)
theorem tF_over (x : WaitM) : (tF x).lookup ("over" : Str) = some (.int x.over) := (lk_past (by decide +kernel)).trans ((lk_past (by decide +kernel)).trans ((lk_past (by decide +kernel)).trans lk_here))
theorem lF_new (p q : Int) (t : Addr) : putF "told" (.ref t) (putF "receiver" (.int q) (putF "sender" (.int p) [])) = lF p q t := by
  rw [put_nil, put_past (by decide +kernel), put_nil, put_past (by decide +kernel), put_past (by decide +kernel), put_nil]
  all_goals rfl
theorem tF_new (x : WaitM) : putF "over" (.int x.over) (putF "ends" (.int x.ends) (putF "server" (.int x.server) (putF "number" (.int x.number) []))) = tF x := by
  have e1 : putF "server" (.int x.server) (putF "number" (.int x.number) []) = [(("number" : Str), V.int x.number), (("server" : Str), V.int x.server)] := put_past (by decide +kernel)
  have e2 : putF "ends" (.int x.ends) [(("number" : Str), V.int x.number), (("server" : Str), V.int x.server)] = [(("number" : Str), V.int x.number), (("server" : Str), V.int x.server), (("ends" : Str), V.int x.ends)] := (put_past (by decide +kernel)).trans (congrArg _ (put_past (by decide +kernel)))
  rw [e1, e2]
  exact (put_past (by decide +kernel)).trans (congrArg _ ((put_past (by decide +kernel)).trans (congrArg _ (put_past (by decide +kernel)))))
/-! ### the places of the state, stored one by one -/
def upI {α : Type} (f : Int → α) (i : Int) (x : α) : Int → α := fun j => if j = i then x else f j
theorem upI_at {α : Type} (f : Int → α) (i : Int) (x : α) : upI f i x i = x := if_pos rfl
theorem upI_ne {α : Type} {f : Int → α} {i j : Int} {x : α} (h : j ≠ i) : upI f i x j = f j := if_neg h
theorem refs_snoc (l : List Addr) (a : Addr) : refs l ++ [V.ref a] = refs (l ++ [a]) := by
  unfold refs
  rw [List.map_append]
  rfl
theorem refs_erase (l : List Addr) (i : Nat) : (refs l).eraseIdx i = refs (l.eraseIdx i) := by
  unfold refs
  induction l generalizing i with
  | nil => rfl
  | cons a r ih =>
    cases i with
    | zero => rfl
    | succ i => exact congrArg (V.ref a :: ·) (ih i)
theorem refs_get {l : List Addr} {i : Nat} {a : Addr} (h : l[i]? = some a) : (refs l)[i]? = some (.ref a) := by
  unfold refs
  rw [List.getElem?_map, h]
  rfl
theorem refs_len (l : List Addr) : (refs l).length = l.length := List.length_map _
section
variable {Z : Cs} {H0 H : Hp} {L : Lay} {m : M}
theorem Wd.airPush (h : Wd Z H0 H L m) {a : Addr} {y : Int × Int × List Int} (ha : LetterAt Z H a y) : Wd Z H0 (upd H L.air (.lst (refs L.airR ++ [.ref a]))) { L with airR := L.airR ++ [a] } { m with air := m.air ++ [y] } := by
  refine h.put (k := .air) trivial (fun j => by cases j <;> rfl) ?_ (fun j _ n => ?_) ?_
  · exact congrArg HO.lst (refs_snoc _ _).symm
  · cases j with
    | air => exact absurd rfl n
    | _ => rfl
  · exact ⟨h.held.dc, h.held.ds, h.held.air.snoc ha, h.held.came, h.held.wait, h.held.ask, h.held.lat, h.held.wat⟩
theorem Wd.airPop (h : Wd Z H0 H L m) (i : Nat) : Wd Z H0 (upd H L.air (.lst ((refs L.airR).eraseIdx i))) { L with airR := L.airR.eraseIdx i } { m with air := m.air.eraseIdx i } := by
  refine h.put (k := .air) trivial (fun j => by cases j <;> rfl) ?_ (fun j _ n => ?_) ?_
  · exact congrArg HO.lst (refs_erase _ _).symm
  · cases j with
    | air => exact absurd rfl n
    | _ => rfl
  · exact ⟨h.held.dc, h.held.ds, h.held.air.erase i, h.held.came, h.held.wait, h.held.ask, h.held.lat, h.held.wat⟩
theorem Wd.setMade (h : Wd Z H0 H L m) (x : Int) : Wd Z H0 (upd H L.w (.ins Z.W L.dxw (putF "made" (.int x) (wF m L.dc L.ds L.air)))) L { m with made := x } := by
  refine h.put (k := .w) trivial (fun j => rfl) ?_ (fun j _ n => ?_) ?_
  · exact congrArg (HO.ins Z.W L.dxw) (wF_putMade _ _ _ _ _).symm
  · cases j with
    | w => exact absurd rfl n
    | _ => rfl
  · exact ⟨h.held.dc, h.held.ds, h.held.air, h.held.came, h.held.wait, h.held.ask, h.held.lat, h.held.wat⟩
theorem Wd.setNow (h : Wd Z H0 H L m) (x : Int) : Wd Z H0 (upd H L.w (.ins Z.W L.dxw (putF "now" (.int x) (wF m L.dc L.ds L.air)))) L { m with now := x } := by
  refine h.put (k := .w) trivial (fun j => rfl) ?_ (fun j _ n => ?_) ?_
  · exact congrArg (HO.ins Z.W L.dxw) (wF_putNow _ _ _ _ _).symm
  · cases j with
    | w => exact absurd rfl n
    | _ => rfl
  · exact ⟨h.held.dc, h.held.ds, h.held.air, h.held.came, h.held.wait, h.held.ask, h.held.lat, h.held.wat⟩
theorem Wd.setWait (h : Wd Z H0 H L m) {c : Int} (hc : 1 ≤ c ∧ c ≤ 4) {v : V} {x : Option WaitM} (hv : WaitAt Z H v x) :
    Wd Z H0 (upd H (L.cal c) (.ins Z.C (L.calD c) (putF "waiting" v (cF (L.calW c) (L.came c))))) { L with calW := upI L.calW c v } (m.setC c { m.callers c with waiting := x }) := by
  refine h.put (k := .cal c) hc (fun j => by cases j <;> rfl) ?_ (fun j _ n => ?_) ?_
  · show HO.ins Z.C (L.calD c) (cF (upI L.calW c v c) (L.came c)) = _
    rw [upI_at, cF_putWaiting]
  · cases j with
    | cal d =>
      show HO.ins Z.C (L.calD d) (cF (upI L.calW c v d) (L.came d)) = _
      rw [upI_ne fun e => n (congrArg Cell.cal e)]
      rfl
    | _ => rfl
  · refine ⟨h.held.dc, h.held.ds, h.held.air, fun d hd => ?_, fun d hd => ?_, h.held.ask, h.held.lat, h.held.wat⟩
    · by_cases e : d = c
      · subst e
        rw [M.setC_at]
        exact h.held.came d hd
      · rw [M.setC_ne e]
        exact h.held.came d hd
    · by_cases e : d = c
      · subst e
        rw [M.setC_at]
        show WaitAt Z H (upI L.calW d v d) x
        rw [upI_at]
        exact hv
      · rw [M.setC_ne e]
        show WaitAt Z H (upI L.calW c v d) _
        rw [upI_ne e]
        exact h.held.wait d hd
theorem Wd.camePush (h : Wd Z H0 H L m) {c : Int} (hc : 1 ≤ c ∧ c ≤ 4) {a : Addr} {y : List Int} (ha : TupAt H a y) :
    Wd Z H0 (upd H (L.came c) (.lst (refs (L.cameR c) ++ [.ref a]))) { L with cameR := upI L.cameR c (L.cameR c ++ [a]) } (m.setC c { m.callers c with came := (m.callers c).came ++ [y] }) := by
  refine h.put (k := .came c) hc (fun j => by cases j <;> rfl) ?_ (fun j _ n => ?_) ?_
  · show HO.lst (refs (upI L.cameR c (L.cameR c ++ [a]) c)) = _
    rw [upI_at, refs_snoc]
  · cases j with
    | came d =>
      show HO.lst (refs (upI L.cameR c (L.cameR c ++ [a]) d)) = _
      rw [upI_ne fun e => n (congrArg Cell.came e)]
      rfl
    | _ => rfl
  · refine ⟨h.held.dc, h.held.ds, h.held.air, fun d hd => ?_, fun d hd => ?_, h.held.ask, h.held.lat, h.held.wat⟩
    · show All2 (TupAt H) (upI L.cameR c (L.cameR c ++ [a]) d) _
      by_cases e : d = c
      · subst e
        rw [M.setC_at, upI_at]
        exact (h.held.came d hd).snoc ha
      · rw [M.setC_ne e, upI_ne e]
        exact h.held.came d hd
    · by_cases e : d = c
      · subst e
        rw [M.setC_at]
        exact h.held.wait d hd
      · rw [M.setC_ne e]
        exact h.held.wait d hd
/-- a server whose numbers alone change -/
theorem Wd.setSrv (h : Wd Z H0 H L m) {p : Int} (hp : 11 ≤ p ∧ p ≤ 14) {x : ServerM} (ea : x.asked = (m.servers p).asked) (el : x.later = (m.servers p).later) (ew : x.watchers = (m.servers p).watchers) {fs : List (Str × V)} (hf : fs = sF x (L.ask p) (L.lat p) (L.wat p)) :
    Wd Z H0 (upd H (L.srv p) (.ins Z.S (L.srvD p) fs)) L (m.setS p x) := by
  refine h.put (k := .srv p) hp (fun j => rfl) ?_ (fun j _ n => ?_) ?_
  · show HO.ins Z.S (L.srvD p) (sF ((m.setS p x).servers p) _ _ _) = _
    rw [M.setS_at, hf]
  · cases j with
    | srv q =>
      show HO.ins Z.S (L.srvD q) (sF ((m.setS p x).servers q) _ _ _) = _
      rw [M.setS_ne fun e => n (congrArg Cell.srv e)]
      rfl
    | _ => rfl
  · refine ⟨h.held.dc, h.held.ds, h.held.air, h.held.came, h.held.wait, fun q hq => ?_, fun q hq => ?_, fun q hq => ?_⟩
    all_goals by_cases e : q = p
    · subst e
      rw [M.setS_at, ea]
      exact h.held.ask q hq
    · rw [M.setS_ne e]
      exact h.held.ask q hq
    · subst e
      rw [M.setS_at, el]
      exact h.held.lat q hq
    · rw [M.setS_ne e]
      exact h.held.lat q hq
    · subst e
      rw [M.setS_at, ew]
      exact h.held.wat q hq
    · rw [M.setS_ne e]
      exact h.held.wat q hq
/-- a server's list is stored where it stands -/
theorem Wd.setAsk (h : Wd Z H0 H L m) {p : Int} (hp : 11 ≤ p ∧ p ≤ 14) {r : List Addr} {ys : List (List Int)} (hr : All2 (TupAt H) r ys) {vs : List V} (hv : vs = refs r) :
    Wd Z H0 (upd H (L.ask p) (.lst vs)) { L with askR := upI L.askR p r } (m.setS p { m.servers p with asked := ys }) := by
  refine h.put (k := .ask p) hp (fun j => by cases j <;> rfl) ?_ (fun j _ n => ?_) ?_
  · show HO.lst (refs (upI L.askR p r p)) = _
    rw [upI_at, hv]
  · cases j with
    | ask q =>
      show HO.lst (refs (upI L.askR p r q)) = _
      rw [upI_ne fun e => n (congrArg Cell.ask e)]
      rfl
    | srv q =>
      show HO.ins Z.S (L.srvD q) (sF ((m.setS p _).servers q) _ _ _) = _
      by_cases e : q = p
      · subst e
        rw [M.setS_at]
        rfl
      · rw [M.setS_ne e]
        rfl
    | _ => rfl
  · refine ⟨h.held.dc, h.held.ds, h.held.air, h.held.came, h.held.wait, fun q hq => ?_, fun q hq => ?_, fun q hq => ?_⟩
    · show All2 (TupAt H) (upI L.askR p r q) _
      by_cases e : q = p
      · subst e
        rw [M.setS_at, upI_at]
        exact hr
      · rw [M.setS_ne e, upI_ne e]
        exact h.held.ask q hq
    all_goals by_cases e : q = p
    · subst e
      rw [M.setS_at]
      exact h.held.lat q hq
    · rw [M.setS_ne e]
      exact h.held.lat q hq
    · subst e
      rw [M.setS_at]
      exact h.held.wat q hq
    · rw [M.setS_ne e]
      exact h.held.wat q hq
theorem Wd.setLat (h : Wd Z H0 H L m) {p : Int} (hp : 11 ≤ p ∧ p ≤ 14) {r : List Addr} {ys : List (List Int)} (hr : All2 (TupAt H) r ys) {vs : List V} (hv : vs = refs r) :
    Wd Z H0 (upd H (L.lat p) (.lst vs)) { L with latR := upI L.latR p r } (m.setS p { m.servers p with later := ys }) := by
  refine h.put (k := .lat p) hp (fun j => by cases j <;> rfl) ?_ (fun j _ n => ?_) ?_
  · show HO.lst (refs (upI L.latR p r p)) = _
    rw [upI_at, hv]
  · cases j with
    | lat q =>
      show HO.lst (refs (upI L.latR p r q)) = _
      rw [upI_ne fun e => n (congrArg Cell.lat e)]
      rfl
    | srv q =>
      show HO.ins Z.S (L.srvD q) (sF ((m.setS p _).servers q) _ _ _) = _
      by_cases e : q = p
      · subst e
        rw [M.setS_at]
        rfl
      · rw [M.setS_ne e]
        rfl
    | _ => rfl
  · refine ⟨h.held.dc, h.held.ds, h.held.air, h.held.came, h.held.wait, fun q hq => ?_, fun q hq => ?_, fun q hq => ?_⟩
    · by_cases e : q = p
      · subst e
        rw [M.setS_at]
        exact h.held.ask q hq
      · rw [M.setS_ne e]
        exact h.held.ask q hq
    · show All2 (TupAt H) (upI L.latR p r q) _
      by_cases e : q = p
      · subst e
        rw [M.setS_at, upI_at]
        exact hr
      · rw [M.setS_ne e, upI_ne e]
        exact h.held.lat q hq
    · by_cases e : q = p
      · subst e
        rw [M.setS_at]
        exact h.held.wat q hq
      · rw [M.setS_ne e]
        exact h.held.wat q hq
theorem Wd.setWat (h : Wd Z H0 H L m) {p : Int} (hp : 11 ≤ p ∧ p ≤ 14) {r : List Addr} {ys : List (List Int)} (hr : All2 (TupAt H) r ys) {vs : List V} (hv : vs = refs r) :
    Wd Z H0 (upd H (L.wat p) (.lst vs)) { L with watR := upI L.watR p r } (m.setS p { m.servers p with watchers := ys }) := by
  refine h.put (k := .wat p) hp (fun j => by cases j <;> rfl) ?_ (fun j _ n => ?_) ?_
  · show HO.lst (refs (upI L.watR p r p)) = _
    rw [upI_at, hv]
  · cases j with
    | wat q =>
      show HO.lst (refs (upI L.watR p r q)) = _
      rw [upI_ne fun e => n (congrArg Cell.wat e)]
      rfl
    | srv q =>
      show HO.ins Z.S (L.srvD q) (sF ((m.setS p _).servers q) _ _ _) = _
      by_cases e : q = p
      · subst e
        rw [M.setS_at]
        rfl
      · rw [M.setS_ne e]
        rfl
    | _ => rfl
  · refine ⟨h.held.dc, h.held.ds, h.held.air, h.held.came, h.held.wait, fun q hq => ?_, fun q hq => ?_, fun q hq => ?_⟩
    · by_cases e : q = p
      · subst e
        rw [M.setS_at]
        exact h.held.ask q hq
      · rw [M.setS_ne e]
        exact h.held.ask q hq
    · by_cases e : q = p
      · subst e
        rw [M.setS_at]
        exact h.held.lat q hq
      · rw [M.setS_ne e]
        exact h.held.lat q hq
    · show All2 (TupAt H) (upI L.watR p r q) _
      by_cases e : q = p
      · subst e
        rw [M.setS_at, upI_at]
        exact hr
      · rw [M.setS_ne e, upI_ne e]
        exact h.held.wat q hq
/-- a server's list is another one from now on -/
theorem Wd.newAsk (h : Wd Z H0 H L m) {p : Int} (hp : 11 ≤ p ∧ p ≤ 14) {q : Addr} {r : List Addr} {ys : List (List Int)} (hr : All2 (TupAt H) r ys) (hq : H q = some (.lst (refs r))) (hq0 : H0 q = none) (hqn : ∀ j : Cell, j.ok → L.pl j ≠ q) {fs : List (Str × V)}
    (hf : fs = sF (m.servers p) q (L.lat p) (L.wat p)) : Wd Z H0 (upd H (L.srv p) (.ins Z.S (L.srvD p) fs)) { L with askR := upI L.askR p r, ask := upI L.ask p q } (m.setS p { m.servers p with asked := ys }) := by
  refine h.move (k := .ask p) (s := .srv p) hp (fun e => by cases e) (q := q) ?_ hq0 hqn (fun j n => ?_) ?_ ?_ (fun j _ n1 n2 => ?_) ?_
  · show H q = some (HO.lst (refs (upI L.askR p r p)))
    rw [upI_at]
    exact hq
  · cases j with
    | ask d =>
      show upI L.ask p q d = L.ask d
      rw [upI_ne fun e => n (congrArg Cell.ask e)]
    | _ => rfl
  · exact upI_at _ _ _
  · show HO.ins Z.S (L.srvD p) (sF ((m.setS p _).servers p) (upI L.ask p q p) _ _) = _
    rw [M.setS_at, upI_at, hf]
    rfl
  · cases j with
    | ask d =>
      show HO.lst (refs (upI L.askR p r d)) = _
      rw [upI_ne fun e => n2 (congrArg Cell.ask e)]
      rfl
    | srv d =>
      have e : d ≠ p := fun e => n1 (congrArg Cell.srv e)
      show HO.ins Z.S (L.srvD d) (sF ((m.setS p _).servers d) (upI L.ask p q d) _ _) = _
      rw [M.setS_ne e, upI_ne e]
      rfl
    | _ => rfl
  · refine ⟨h.held.dc, h.held.ds, h.held.air, h.held.came, h.held.wait, fun q hq => ?_, fun q hq => ?_, fun q hq => ?_⟩
    · show All2 (TupAt H) (upI L.askR p r q) _
      by_cases e : q = p
      · subst e
        rw [M.setS_at, upI_at]
        exact hr
      · rw [M.setS_ne e, upI_ne e]
        exact h.held.ask q hq
    all_goals by_cases e : q = p
    · subst e
      rw [M.setS_at]
      exact h.held.lat q hq
    · rw [M.setS_ne e]
      exact h.held.lat q hq
    · subst e
      rw [M.setS_at]
      exact h.held.wat q hq
    · rw [M.setS_ne e]
      exact h.held.wat q hq
theorem Wd.newLat (h : Wd Z H0 H L m) {p : Int} (hp : 11 ≤ p ∧ p ≤ 14) {q : Addr} {r : List Addr} {ys : List (List Int)} (hr : All2 (TupAt H) r ys) (hq : H q = some (.lst (refs r))) (hq0 : H0 q = none) (hqn : ∀ j : Cell, j.ok → L.pl j ≠ q) {fs : List (Str × V)}
    (hf : fs = sF (m.servers p) (L.ask p) q (L.wat p)) : Wd Z H0 (upd H (L.srv p) (.ins Z.S (L.srvD p) fs)) { L with latR := upI L.latR p r, lat := upI L.lat p q } (m.setS p { m.servers p with later := ys }) := by
  refine h.move (k := .lat p) (s := .srv p) hp (fun e => by cases e) (q := q) ?_ hq0 hqn (fun j n => ?_) ?_ ?_ (fun j _ n1 n2 => ?_) ?_
  · show H q = some (HO.lst (refs (upI L.latR p r p)))
    rw [upI_at]
    exact hq
  · cases j with
    | lat d =>
      show upI L.lat p q d = L.lat d
      rw [upI_ne fun e => n (congrArg Cell.lat e)]
    | _ => rfl
  · exact upI_at _ _ _
  · show HO.ins Z.S (L.srvD p) (sF ((m.setS p _).servers p) _ (upI L.lat p q p) _) = _
    rw [M.setS_at, upI_at, hf]
    rfl
  · cases j with
    | lat d =>
      show HO.lst (refs (upI L.latR p r d)) = _
      rw [upI_ne fun e => n2 (congrArg Cell.lat e)]
      rfl
    | srv d =>
      have e : d ≠ p := fun e => n1 (congrArg Cell.srv e)
      show HO.ins Z.S (L.srvD d) (sF ((m.setS p _).servers d) _ (upI L.lat p q d) _) = _
      rw [M.setS_ne e, upI_ne e]
      rfl
    | _ => rfl
  · refine ⟨h.held.dc, h.held.ds, h.held.air, h.held.came, h.held.wait, fun q hq => ?_, fun q hq => ?_, fun q hq => ?_⟩
    · by_cases e : q = p
      · subst e
        rw [M.setS_at]
        exact h.held.ask q hq
      · rw [M.setS_ne e]
        exact h.held.ask q hq
    · show All2 (TupAt H) (upI L.latR p r q) _
      by_cases e : q = p
      · subst e
        rw [M.setS_at, upI_at]
        exact hr
      · rw [M.setS_ne e, upI_ne e]
        exact h.held.lat q hq
    · by_cases e : q = p
      · subst e
        rw [M.setS_at]
        exact h.held.wat q hq
      · rw [M.setS_ne e]
        exact h.held.wat q hq
theorem Wd.newWat (h : Wd Z H0 H L m) {p : Int} (hp : 11 ≤ p ∧ p ≤ 14) {q : Addr} {r : List Addr} {ys : List (List Int)} (hr : All2 (TupAt H) r ys) (hq : H q = some (.lst (refs r))) (hq0 : H0 q = none) (hqn : ∀ j : Cell, j.ok → L.pl j ≠ q) {fs : List (Str × V)}
    (hf : fs = sF (m.servers p) (L.ask p) (L.lat p) q) : Wd Z H0 (upd H (L.srv p) (.ins Z.S (L.srvD p) fs)) { L with watR := upI L.watR p r, wat := upI L.wat p q } (m.setS p { m.servers p with watchers := ys }) := by
  refine h.move (k := .wat p) (s := .srv p) hp (fun e => by cases e) (q := q) ?_ hq0 hqn (fun j n => ?_) ?_ ?_ (fun j _ n1 n2 => ?_) ?_
  · show H q = some (HO.lst (refs (upI L.watR p r p)))
    rw [upI_at]
    exact hq
  · cases j with
    | wat d =>
      show upI L.wat p q d = L.wat d
      rw [upI_ne fun e => n (congrArg Cell.wat e)]
    | _ => rfl
  · exact upI_at _ _ _
  · show HO.ins Z.S (L.srvD p) (sF ((m.setS p _).servers p) _ _ (upI L.wat p q p)) = _
    rw [M.setS_at, upI_at, hf]
    rfl
  · cases j with
    | wat d =>
      show HO.lst (refs (upI L.watR p r d)) = _
      rw [upI_ne fun e => n2 (congrArg Cell.wat e)]
      rfl
    | srv d =>
      have e : d ≠ p := fun e => n1 (congrArg Cell.srv e)
      show HO.ins Z.S (L.srvD d) (sF ((m.setS p _).servers d) _ _ (upI L.wat p q d)) = _
      rw [M.setS_ne e, upI_ne e]
      rfl
    | _ => rfl
  · refine ⟨h.held.dc, h.held.ds, h.held.air, h.held.came, h.held.wait, fun q hq => ?_, fun q hq => ?_, fun q hq => ?_⟩
    · by_cases e : q = p
      · subst e
        rw [M.setS_at]
        exact h.held.ask q hq
      · rw [M.setS_ne e]
        exact h.held.ask q hq
    · by_cases e : q = p
      · subst e
        rw [M.setS_at]
        exact h.held.lat q hq
      · rw [M.setS_ne e]
        exact h.held.lat q hq
    · show All2 (TupAt H) (upI L.watR p r q) _
      by_cases e : q = p
      · subst e
        rw [M.setS_at, upI_at]
        exact hr
      · rw [M.setS_ne e, upI_ne e]
        exact h.held.wat q hq
end
end AO

set_option Elab.async false
set_option maxRecDepth 100000
set_option maxHeartbeats 2000000
namespace AO
open Ha04 (St Req Sig Came)
/-! ### 8. The specification's state as the program's -/
def isC (c : Nat) : Prop := 1 ≤ c ∧ c ≤ 4
def isS (p : Nat) : Prop := 11 ≤ p ∧ p ≤ 14
instance (c : Nat) : Decidable (isC c) := inferInstanceAs (Decidable (_ ∧ _))
instance (p : Nat) : Decidable (isS p) := inferInstanceAs (Decidable (_ ∧ _))
theorem isC_b {c : Nat} : Ha04.isCaller c = decide (isC c) := by
  unfold Ha04.isCaller isC
  by_cases h1 : 1 ≤ c <;> by_cases h2 : c ≤ 4 <;> simp [h1, h2]
theorem isS_b {p : Nat} : Ha04.isServer p = decide (isS p) := by
  unfold Ha04.isServer isS
  by_cases h1 : 11 ≤ p <;> by_cases h2 : p ≤ 14 <;> simp [h1, h2]
def repW : Option (Nat × Nat × Option Nat) → Option WaitM
  | none => none
  | some (n, p, none) => some ⟨n, p, 0, 0⟩
  | some (n, p, some t) => some ⟨n, p, 1, t⟩
def repA (y : Came) : List Int := Ha04.ints [y.num, y.how, y.v]
def repR (r : Req) : List Int := Ha04.ints (Ha04.reqTold r)
def repT (y : Nat × Nat × Nat) : List Int := Ha04.ints [y.1, y.2.1, y.2.2]
def repP (y : Nat × Nat) : List Int := Ha04.ints [y.1, y.2]
def repC (x : Ha04.Caller) : CallerM := ⟨repW x.waits, x.came.map repA⟩
def repS (x : Ha04.Server) : ServerM := ⟨x.lives, x.life, x.sum, x.asked.map repR, x.later.map repT, x.watched.map repP⟩
def repL (y : Nat × Nat × Sig) : Int × Int × List Int := (y.1, y.2.1, Ha04.ints (Ha04.sigTold y.2.2))
def rep (s : St) : M := ⟨s.time, s.last, fun j => if 1 ≤ j ∧ j ≤ 4 then repC (Ha04.caller s j.toNat) else repC Ha04.noCaller, fun j => if 11 ≤ j ∧ j ≤ 14 then repS (Ha04.server s j.toNat) else repS Ha04.noServer, s.air.map repL⟩
theorem rep_caller (s : St) {c : Nat} (h : isC c) : (rep s).callers (c : Int) = repC (Ha04.caller s c) := by
  unfold isC at h
  show (if 1 ≤ (c : Int) ∧ (c : Int) ≤ 4 then repC (Ha04.caller s (c : Int).toNat) else _) = _
  rw [if_pos (by omega)]
  rfl
theorem rep_server (s : St) {p : Nat} (h : isS p) : (rep s).servers (p : Int) = repS (Ha04.server s p) := by
  unfold isS at h
  show (if 11 ≤ (p : Int) ∧ (p : Int) ≤ 14 then repS (Ha04.server s (p : Int).toNat) else _) = _
  rw [if_pos (by omega)]
  rfl
theorem getD_set_at {α : Type} {l : List α} {i : Nat} {x d : α} (h : i < l.length) : (l.set i x).getD i d = x := by
  rw [List.getD_eq_getElem?_getD, List.getElem?_set_self h]
  rfl
theorem getD_set_ne {α : Type} {l : List α} {i j : Nat} {x d : α} (h : i ≠ j) : (l.set i x).getD j d = l.getD j d := by
  rw [List.getD_eq_getElem?_getD, List.getD_eq_getElem?_getD, List.getElem?_set_ne h]
section
variable {s : St}
theorem caller_set {c : Nat} (hl : s.callers.length = 4) (h : isC c) (x : Ha04.Caller) : Ha04.caller (Ha04.setCaller s c x) c = x := getD_set_at (by unfold isC at h; omega)
theorem caller_set_ne {c d : Nat} (h : isC c) (h' : isC d) (n : d ≠ c) (x : Ha04.Caller) : Ha04.caller (Ha04.setCaller s c x) d = Ha04.caller s d := getD_set_ne (by unfold isC at h h'; omega)
theorem server_set {p : Nat} (hl : s.servers.length = 4) (h : isS p) (x : Ha04.Server) : Ha04.server (Ha04.setServer s p x) p = x := getD_set_at (by unfold isS at h; omega)
theorem server_set_ne {p q : Nat} (h : isS p) (h' : isS q) (n : q ≠ p) (x : Ha04.Server) : Ha04.server (Ha04.setServer s p x) q = Ha04.server s q := getD_set_ne (by unfold isS at h h'; omega)
theorem rep_setC {c : Nat} (hl : s.callers.length = 4) (h : isC c) (x : Ha04.Caller) : rep (Ha04.setCaller s c x) = (rep s).setC (c : Int) (repC x) := by
  have e : (rep (Ha04.setCaller s c x)).callers = ((rep s).setC (c : Int) (repC x)).callers := by
    funext j
    show (if 1 ≤ j ∧ j ≤ 4 then repC (Ha04.caller (Ha04.setCaller s c x) j.toNat) else repC Ha04.noCaller) = if j = (c : Int) then repC x else (if 1 ≤ j ∧ j ≤ 4 then repC (Ha04.caller s j.toNat) else repC Ha04.noCaller)
    have hc := h
    unfold isC at hc
    by_cases ej : j = (c : Int)
    · subst ej
      rw [if_pos (by omega), if_pos rfl]
      exact congrArg repC (caller_set hl h x)
    · rw [if_neg ej]
      by_cases hj : 1 ≤ j ∧ j ≤ 4
      · rw [if_pos hj, if_pos hj, caller_set_ne h (by unfold isC; omega) (by omega)]
      · rw [if_neg hj, if_neg hj]
  show M.mk _ _ (rep (Ha04.setCaller s c x)).callers _ _ = _
  rw [e]
  rfl
theorem rep_setS {p : Nat} (hl : s.servers.length = 4) (h : isS p) (x : Ha04.Server) : rep (Ha04.setServer s p x) = (rep s).setS (p : Int) (repS x) := by
  have e : (rep (Ha04.setServer s p x)).servers = ((rep s).setS (p : Int) (repS x)).servers := by
    funext j
    show (if 11 ≤ j ∧ j ≤ 14 then repS (Ha04.server (Ha04.setServer s p x) j.toNat) else repS Ha04.noServer) = if j = (p : Int) then repS x else (if 11 ≤ j ∧ j ≤ 14 then repS (Ha04.server s j.toNat) else repS Ha04.noServer)
    have hc := h
    unfold isS at hc
    by_cases ej : j = (p : Int)
    · subst ej
      rw [if_pos (by omega), if_pos rfl]
      exact congrArg repS (server_set hl h x)
    · rw [if_neg ej]
      by_cases hj : 11 ≤ j ∧ j ≤ 14
      · rw [if_pos hj, if_pos hj, server_set_ne h (by unfold isS; omega) (by omega)]
      · rw [if_neg hj, if_neg hj]
  show M.mk _ _ _ (rep (Ha04.setServer s p x)).servers _ = _
  rw [e]
  rfl
theorem rep_send (p q : Nat) (x : Sig) : rep (Ha04.send s p q x) = { rep s with air := (rep s).air ++ [((p : Int), (q : Int), Ha04.ints (Ha04.sigTold x))] } := by
  show M.mk _ _ _ _ ((s.air ++ [(p, q, x)]).map repL) = _
  rw [List.map_append]
  rfl
theorem setC_setC (m : M) (c : Int) (x y : CallerM) : (m.setC c x).setC c y = m.setC c y := by
  have e : ((m.setC c x).setC c y).callers = (m.setC c y).callers := by
    funext j
    show (if j = c then y else if j = c then x else m.callers j) = if j = c then y else m.callers j
    by_cases h : j = c
    · rw [if_pos h, if_pos h]
    · rw [if_neg h, if_neg h, if_neg h]
  show M.mk _ _ ((m.setC c x).setC c y).callers _ _ = _
  rw [e]
  rfl
theorem setS_setS (m : M) (c : Int) (x y : ServerM) : (m.setS c x).setS c y = m.setS c y := by
  have e : ((m.setS c x).setS c y).servers = (m.setS c y).servers := by
    funext j
    show (if j = c then y else if j = c then x else m.servers j) = if j = c then y else m.servers j
    by_cases h : j = c
    · rw [if_pos h, if_pos h]
    · rw [if_neg h, if_neg h, if_neg h]
  show M.mk _ _ _ ((m.setS c x).setS c y).servers _ = _
  rw [e]
  rfl
end
/-! ### 9. What always holds of the state -/
def okR (r : Req) : Prop := (r.who = 0 ∨ isC r.who) ∧ r.what ≤ 4 ∧ (r.what = 2 → isS r.other)
def okX (p q : Nat) : Sig → Prop
  | .ask r => isS q ∧ okR r
  | .watch _ => isC p ∧ isS q
  | .unwatch _ => isC p ∧ isS q
  | .answer _ _ => isC q
  | .gone _ => isC q
structure Good (s : St) : Prop where
  lc : s.callers.length = 4
  ls : s.servers.length = 4
  air : ∀ y ∈ s.air, okX y.1 y.2.1 y.2.2
  wait : ∀ c, isC c → ∀ w, (Ha04.caller s c).waits = some w → isS w.2.1
  ask : ∀ p, isS p → ∀ r ∈ (Ha04.server s p).asked, okR r
  lat : ∀ p, isS p → ∀ y ∈ (Ha04.server s p).later, isC y.1
  wat : ∀ p, isS p → ∀ y ∈ (Ha04.server s p).watched, isC y.1
  dead : ∀ p, isS p → (Ha04.server s p).lives = false → (Ha04.server s p).asked = [] ∧ (Ha04.server s p).later = [] ∧ (Ha04.server s p).watched = []
section
variable {s : St}
theorem Good.send (g : Good s) {p q : Nat} {x : Sig} (h : okX p q x) : Good (Ha04.send s p q x) :=
  ⟨g.lc, g.ls, fun y hy => (List.mem_append.mp hy).elim (g.air y) (fun e => by
    have e := List.mem_singleton.mp e
    subst e
    exact h), g.wait, g.ask, g.lat, g.wat, g.dead⟩
theorem Good.air_of (g : Good s) {l : List (Nat × Nat × Sig)} (h : ∀ y ∈ l, okX y.1 y.2.1 y.2.2) : Good { s with air := l } := ⟨g.lc, g.ls, h, g.wait, g.ask, g.lat, g.wat, g.dead⟩
theorem Good.setC (g : Good s) {c : Nat} (h : isC c) {x : Ha04.Caller} (hx : ∀ w, x.waits = some w → isS w.2.1) : Good (Ha04.setCaller s c x) := by
  refine ⟨(List.length_set ..).trans g.lc, g.ls, g.air, fun d hd w e => ?_, g.ask, g.lat, g.wat, g.dead⟩
  by_cases n : d = c
  · subst n
    rw [caller_set g.lc h] at e
    exact hx w e
  · rw [caller_set_ne h hd n] at e
    exact g.wait d hd w e
theorem Good.setS (g : Good s) {p : Nat} (h : isS p) {x : Ha04.Server} (h1 : ∀ r ∈ x.asked, okR r) (h2 : ∀ y ∈ x.later, isC y.1) (h3 : ∀ y ∈ x.watched, isC y.1) (h4 : x.lives = false → x.asked = [] ∧ x.later = [] ∧ x.watched = []) : Good (Ha04.setServer s p x) := by
  refine ⟨g.lc, (List.length_set ..).trans g.ls, g.air, g.wait, fun q hq => ?_, fun q hq => ?_, fun q hq => ?_, fun q hq => ?_⟩
  all_goals by_cases n : q = p
  · subst n
    rw [server_set g.ls h]
    exact h1
  · rw [server_set_ne h hq n]
    exact g.ask q hq
  · subst n
    rw [server_set g.ls h]
    exact h2
  · rw [server_set_ne h hq n]
    exact g.lat q hq
  · subst n
    rw [server_set g.ls h]
    exact h3
  · rw [server_set_ne h hq n]
    exact g.wat q hq
  · subst n
    rw [server_set g.ls h]
    exact h4
  · rw [server_set_ne h hq n]
    exact g.dead q hq
theorem Good.comes (g : Good s) {c num how v : Nat} (h : isC c) : Good (Ha04.comes s c num how v) := by
  unfold Ha04.comes
  split
  · rename_i w e
    split
    · show Good (if how = 1 then _ else _)
      have g1 : Good (Ha04.setCaller s c { Ha04.caller s c with waits := none, came := (Ha04.caller s c).came ++ [⟨num, how, v⟩] }) := g.setC h (fun w e => by cases e)
      split
      · exact g1
      · exact g1.send ⟨h, g.wait c h w e⟩
    · exact g
  · exact g
theorem rep_comes (g : Good s) {c : Nat} (hc : isC c) (k : Came) : (((rep s).setC c { (rep s).callers c with came := ((rep s).callers c).came ++ [repA k] }).setC c { ((rep s).setC c { (rep s).callers c with came := ((rep s).callers c).came ++ [repA k] }).callers c with waiting := none }) = rep (Ha04.setCaller s c { Ha04.caller s c with waits := none, came := (Ha04.caller s c).came ++ [k] }) := by
  rw [setC_setC, M.setC_at, rep_setC g.lc hc, rep_caller s hc]
  refine congrArg _ ?_
  show CallerM.mk none ((Ha04.caller s c).came.map repA ++ [repA k]) = CallerM.mk none (((Ha04.caller s c).came ++ [k]).map repA)
  rw [List.map_append]
  rfl
theorem comes_is {c num how v : Nat} {x : Nat × Nat × Option Nat} (hw : (Ha04.caller s c).waits = some x) (e : x.1 = num) : Ha04.comes s c num how v = if how = 1 then Ha04.setCaller s c { Ha04.caller s c with waits := none, came := (Ha04.caller s c).came ++ [⟨num, how, v⟩] } else Ha04.send (Ha04.setCaller s c { Ha04.caller s c with waits := none, came := (Ha04.caller s c).came ++ [⟨num, how, v⟩] }) c x.2.1 (.unwatch num) := by
  unfold Ha04.comes
  rw [hw]
  show (if x.1 = num then _ else _) = _
  rw [if_pos e]
theorem Good.arrives (g : Good s) {p q : Nat} {x : Sig} (h : okX p q x) : Good (Ha04.arrives s p q x) := by
  cases x with
  | ask r =>
    show Good (if _ then _ else _)
    split
    · rename_i al
      exact g.setS h.1 (fun r' hr => (List.mem_append.mp hr).elim (g.ask q h.1 r') (fun e => by
        have e := List.mem_singleton.mp e
        subst e
        exact h.2)) (g.lat q h.1) (g.wat q h.1) (fun e => by
          have e : (Ha04.server s q).lives = false := e
          rw [al] at e
          cases e)
    · exact g
  | watch n =>
    show Good (if _ then _ else _)
    split
    · rename_i al
      exact g.setS h.2 (g.ask q h.2) (g.lat q h.2) (fun y hy => (List.mem_append.mp hy).elim (g.wat q h.2 y) (fun e => by
        have e := List.mem_singleton.mp e
        subst e
        exact h.1)) (fun e => by
          have e : (Ha04.server s q).lives = false := e
          rw [al] at e
          cases e)
    · exact g.send (show isC p from h.1)
  | unwatch n => exact g.setS h.2 (g.ask q h.2) (g.lat q h.2) (fun y hy => g.wat q h.2 y (List.mem_filter.mp hy).1) (fun e => by
      have d := g.dead q h.2 e
      exact ⟨d.1, d.2.1, by show List.filter _ (Ha04.server s q).watched = []; rw [d.2.2]; rfl⟩)
  | answer n v => exact g.comes (show isC q from h)
  | gone n => exact g.comes (show isC q from h)
theorem Good.deliverAt (g : Good s) (i : Nat) : Good (Ha04.deliverAt s i) := by
  unfold Ha04.deliverAt
  split
  · rename_i y e
    exact Good.arrives (g.air_of fun z hz => g.air z (List.mem_of_mem_eraseIdx hz)) (g.air y (List.mem_of_getElem? e))
  · exact g
theorem Good.dies (g : Good s) {p : Nat} (h : isS p) : Good (Ha04.dies s p) := by
  have g1 := g.setS h (x := { Ha04.server s p with lives := false, asked := [], later := [], watched := [] }) (fun _ e => by cases e) (fun _ e => by cases e) (fun _ e => by cases e) (fun _ => ⟨rfl, rfl, rfl⟩)
  refine g1.air_of fun y hy => ?_
  rcases List.mem_append.mp hy with hy | hy
  · exact g.air y hy
  · obtain ⟨z, hz, rfl⟩ := List.mem_map.mp hy
    exact g.wat p h z hz
theorem Good.adds (g : Good s) {p : Nat} (h : isS p) (r : Req) : Good (Ha04.adds s p r) := by
  have g1 := g.setS h (x := { Ha04.server s p with sum := Ha04.plus (Ha04.server s p).sum r.n }) (g.ask p h) (g.lat p h) (g.wat p h) (g.dead p h)
  exact ⟨g1.lc, g1.ls, g1.air, g1.wait, g1.ask, g1.lat, g1.wat, g1.dead⟩
theorem Good.answers (g : Good s) {p who num v : Nat} (h : who = 0 ∨ isC who) : Good (Ha04.answers s p who num v) := by
  unfold Ha04.answers
  split
  · exact g
  · rename_i n
    have g1 := g.send (p := p) (q := who) (x := .answer num v) (h.resolve_left n)
    exact ⟨g1.lc, g1.ls, g1.air, g1.wait, g1.ask, g1.lat, g1.wat, g1.dead⟩
theorem Good.works (g : Good s) {p : Nat} (h : isS p) : Good (Ha04.works s p) := by
  unfold Ha04.works
  split
  · exact g
  · rename_i r l e
    have hr : okR r := g.ask p h r (by rw [e]; exact List.mem_cons_self ..)
    have hl : ∀ r' ∈ l, okR r' := fun r' m => g.ask p h r' (by rw [e]; exact List.mem_cons_of_mem _ m)
    have g1 : Good (Ha04.setServer s p { Ha04.server s p with asked := l }) := g.setS h hl (g.lat p h) (g.wat p h) (fun z => by
      have d := (g.dead p h z).1
      rw [e] at d
      cases d)
    show Good (match r.what with | 0 => _ | 1 => _ | 2 => _ | 3 => _ | _ => _)
    split
    · exact (g1.adds h r).answers hr.1
    · show Good (if _ then _ else _)
      split
      · exact g1.adds h r
      · rename_i n
        have g2 := g1.adds h r
        have lv : (Ha04.server (Ha04.adds (Ha04.setServer s p { Ha04.server s p with asked := l }) p r) p).lives = (Ha04.server s p).lives := by
          show (Ha04.server (Ha04.setServer (Ha04.setServer s p { Ha04.server s p with asked := l }) p _) p).lives = _
          rw [server_set g1.ls h]
          show (Ha04.server (Ha04.setServer s p { Ha04.server s p with asked := l }) p).lives = _
          rw [server_set g.ls h]
        exact g2.setS h (g2.ask p h) (fun y hy => (List.mem_append.mp hy).elim (g2.lat p h y) (fun e => by
          have e := List.mem_singleton.mp e
          subst e
          exact hr.1.resolve_left n)) (g2.wat p h) (fun z => by
            have z : (Ha04.server (Ha04.adds (Ha04.setServer s p { Ha04.server s p with asked := l }) p r) p).lives = false := z
            rw [lv] at z
            have d := (g.dead p h z).1
            rw [e] at d
            cases d)
    · rename_i e2
      exact g1.send ⟨hr.2.2 e2, hr.1, by show 0 ≤ 4; omega, fun e => by cases e⟩
    · exact g1.dies h
    · exact ((g1.adds h r).answers hr.1).dies h
end
end AO

set_option Elab.async false
set_option maxRecDepth 100000
set_option maxHeartbeats 2000000
namespace AO
open Ha04 (St Req Sig Came)
/-! ### 10. How much the state holds -/
def szS (x : Ha04.Server) : Nat := x.asked.length + x.later.length + x.watched.length
def szC (x : Ha04.Caller) : Nat := x.came.length
def sz (s : St) : Nat := s.air.length + (szS (Ha04.server s 11) + szS (Ha04.server s 12) + szS (Ha04.server s 13) + szS (Ha04.server s 14)) + (szC (Ha04.caller s 1) + szC (Ha04.caller s 2) + szC (Ha04.caller s 3) + szC (Ha04.caller s 4))
section
variable {s : St}
theorem sz_air : s.air.length ≤ sz s := by unfold sz; omega
theorem sz_srv {p : Nat} (h : isS p) : szS (Ha04.server s p) ≤ sz s := by
  unfold isS at h
  have e : p = 11 ∨ p = 12 ∨ p = 13 ∨ p = 14 := by omega
  unfold sz
  rcases e with rfl | rfl | rfl | rfl <;> omega
theorem sz_cal {c : Nat} (h : isC c) : szC (Ha04.caller s c) ≤ sz s := by
  unfold isC at h
  have e : c = 1 ∨ c = 2 ∨ c = 3 ∨ c = 4 := by omega
  unfold sz
  rcases e with rfl | rfl | rfl | rfl <;> omega
theorem sz_ask {p : Nat} (h : isS p) : (Ha04.server s p).asked.length ≤ sz s := Nat.le_trans (by unfold szS; omega) (sz_srv h)
theorem sz_lat {p : Nat} (h : isS p) : (Ha04.server s p).later.length ≤ sz s := Nat.le_trans (by unfold szS; omega) (sz_srv h)
theorem sz_wat {p : Nat} (h : isS p) : (Ha04.server s p).watched.length ≤ sz s := Nat.le_trans (by unfold szS; omega) (sz_srv h)
theorem sz_came {c : Nat} (h : isC c) : (Ha04.caller s c).came.length ≤ sz s := sz_cal h
theorem sz_send (p q : Nat) (x : Sig) : sz (Ha04.send s p q x) = sz s + 1 := by
  show (s.air ++ [(p, q, x)]).length + _ + _ = _
  rw [List.length_append, List.length_singleton]
  unfold sz
  show s.air.length + 1 + (szS (Ha04.server s 11) + szS (Ha04.server s 12) + szS (Ha04.server s 13) + szS (Ha04.server s 14)) + (szC (Ha04.caller s 1) + szC (Ha04.caller s 2) + szC (Ha04.caller s 3) + szC (Ha04.caller s 4)) = _
  omega
theorem sz_setS (g : Good s) {p : Nat} (h : isS p) (x : Ha04.Server) : sz (Ha04.setServer s p x) + szS (Ha04.server s p) = sz s + szS x := by
  have hp := h
  unfold isS at hp
  have e : p = 11 ∨ p = 12 ∨ p = 13 ∨ p = 14 := by omega
  have a : sz (Ha04.setServer s p x) = s.air.length + (szS (Ha04.server (Ha04.setServer s p x) 11) + szS (Ha04.server (Ha04.setServer s p x) 12) + szS (Ha04.server (Ha04.setServer s p x) 13) + szS (Ha04.server (Ha04.setServer s p x) 14)) + (szC (Ha04.caller s 1) + szC (Ha04.caller s 2) + szC (Ha04.caller s 3) + szC (Ha04.caller s 4)) := rfl
  have i1 : isS 11 := by decide
  have i2 : isS 12 := by decide
  have i3 : isS 13 := by decide
  have i4 : isS 14 := by decide
  rcases e with rfl | rfl | rfl | rfl
  · rw [server_set g.ls i1, server_set_ne i1 i2 (by decide), server_set_ne i1 i3 (by decide), server_set_ne i1 i4 (by decide)] at a
    unfold sz at a ⊢
    omega
  · rw [server_set g.ls i2, server_set_ne i2 i1 (by decide), server_set_ne i2 i3 (by decide), server_set_ne i2 i4 (by decide)] at a
    unfold sz at a ⊢
    omega
  · rw [server_set g.ls i3, server_set_ne i3 i1 (by decide), server_set_ne i3 i2 (by decide), server_set_ne i3 i4 (by decide)] at a
    unfold sz at a ⊢
    omega
  · rw [server_set g.ls i4, server_set_ne i4 i1 (by decide), server_set_ne i4 i2 (by decide), server_set_ne i4 i3 (by decide)] at a
    unfold sz at a ⊢
    omega
theorem sz_setS_le (g : Good s) {p : Nat} (h : isS p) {x : Ha04.Server} {k : Nat} (hk : szS x ≤ szS (Ha04.server s p) + k) : sz (Ha04.setServer s p x) ≤ sz s + k := by
  have e := sz_setS g h x
  omega
theorem sz_setC (g : Good s) {c : Nat} (h : isC c) (x : Ha04.Caller) : sz (Ha04.setCaller s c x) + szC (Ha04.caller s c) = sz s + szC x := by
  have hp := h
  unfold isC at hp
  have e : c = 1 ∨ c = 2 ∨ c = 3 ∨ c = 4 := by omega
  have a : sz (Ha04.setCaller s c x) = s.air.length + (szS (Ha04.server s 11) + szS (Ha04.server s 12) + szS (Ha04.server s 13) + szS (Ha04.server s 14)) + (szC (Ha04.caller (Ha04.setCaller s c x) 1) + szC (Ha04.caller (Ha04.setCaller s c x) 2) + szC (Ha04.caller (Ha04.setCaller s c x) 3) + szC (Ha04.caller (Ha04.setCaller s c x) 4)) := rfl
  have i1 : isC 1 := by decide
  have i2 : isC 2 := by decide
  have i3 : isC 3 := by decide
  have i4 : isC 4 := by decide
  rcases e with rfl | rfl | rfl | rfl
  · rw [caller_set g.lc i1, caller_set_ne i1 i2 (by decide), caller_set_ne i1 i3 (by decide), caller_set_ne i1 i4 (by decide)] at a
    unfold sz at a ⊢
    omega
  · rw [caller_set g.lc i2, caller_set_ne i2 i1 (by decide), caller_set_ne i2 i3 (by decide), caller_set_ne i2 i4 (by decide)] at a
    unfold sz at a ⊢
    omega
  · rw [caller_set g.lc i3, caller_set_ne i3 i1 (by decide), caller_set_ne i3 i2 (by decide), caller_set_ne i3 i4 (by decide)] at a
    unfold sz at a ⊢
    omega
  · rw [caller_set g.lc i4, caller_set_ne i4 i1 (by decide), caller_set_ne i4 i2 (by decide), caller_set_ne i4 i3 (by decide)] at a
    unfold sz at a ⊢
    omega
theorem sz_comes (g : Good s) {c : Nat} (h : isC c) (num how v : Nat) : sz (Ha04.comes s c num how v) ≤ sz s + 2 := by
  unfold Ha04.comes
  split
  · split
    · show sz (if how = 1 then _ else _) ≤ _
      have e := sz_setC g h { Ha04.caller s c with waits := none, came := (Ha04.caller s c).came ++ [⟨num, how, v⟩] }
      have f : szC { Ha04.caller s c with waits := none, came := (Ha04.caller s c).came ++ [⟨num, how, v⟩] } = szC (Ha04.caller s c) + 1 := List.length_append
      split
      · omega
      · rw [sz_send]
        omega
    · omega
  · omega
theorem sz_arrives (g : Good s) {p q : Nat} {x : Sig} (h : okX p q x) : sz (Ha04.arrives s p q x) ≤ sz s + 2 := by
  cases x with
  | ask r =>
    show sz (if _ then _ else _) ≤ _
    split
    · exact sz_setS_le g h.1 (by simp only [szS, List.length_append, List.length_singleton]; omega)
    · omega
  | watch n =>
    show sz (if _ then _ else _) ≤ _
    split
    · exact sz_setS_le g h.2 (by simp only [szS, List.length_append, List.length_singleton]; omega)
    · rw [sz_send]
      omega
  | unwatch n =>
    refine Nat.le_trans (sz_setS_le (k := 0) g h.2 ?_) (by omega)
    have k := List.length_filter_le (fun y => !(y.1 == p && y.2 == n)) (Ha04.server s q).watched
    simp only [szS]
    omega
  | answer n v => exact sz_comes g (show isC q from h) n 0 v
  | gone n => exact sz_comes g (show isC q from h) n 1 0
theorem sz_air_of (l : List (Nat × Nat × Sig)) (h : l.length ≤ s.air.length) : sz { s with air := l } ≤ sz s := by
  show l.length + (szS (Ha04.server s 11) + szS (Ha04.server s 12) + szS (Ha04.server s 13) + szS (Ha04.server s 14)) + (szC (Ha04.caller s 1) + szC (Ha04.caller s 2) + szC (Ha04.caller s 3) + szC (Ha04.caller s 4)) ≤ _
  unfold sz
  omega
theorem sz_deliverAt (g : Good s) (i : Nat) : sz (Ha04.deliverAt s i) ≤ sz s + 2 := by
  unfold Ha04.deliverAt
  split
  · rename_i y e
    have g1 : Good { s with air := s.air.eraseIdx i } := g.air_of fun z hz => g.air z (List.mem_of_mem_eraseIdx hz)
    have h1 := sz_arrives g1 (g.air y (List.mem_of_getElem? e))
    have h2 := sz_air_of (s := s) (s.air.eraseIdx i) (List.length_eraseIdx_le ..)
    exact Nat.le_trans h1 (by omega)
  · omega
theorem sz_dies (g : Good s) {p : Nat} (h : isS p) : sz (Ha04.dies s p) ≤ sz s := by
  have e := sz_setS g h { Ha04.server s p with lives := false, asked := [], later := [], watched := [] }
  have f : szS { Ha04.server s p with lives := false, asked := [], later := [], watched := [] } = 0 := rfl
  have a : sz (Ha04.dies s p) = sz (Ha04.setServer s p { Ha04.server s p with lives := false, asked := [], later := [], watched := [] }) + (Ha04.server s p).watched.length := by
    show (s.air ++ (Ha04.server s p).watched.map fun y => (p, y.1, Sig.gone y.2)).length + _ + _ = s.air.length + _ + _ + _
    rw [List.length_append, List.length_map]
    have r : ∀ a b c d : Nat, a + b + c + d = a + c + d + b := fun a b c d => by omega
    exact r _ _ _ _
  have b : (Ha04.server s p).watched.length ≤ szS (Ha04.server s p) := by
    unfold szS
    omega
  omega
theorem sz_adds (g : Good s) {p : Nat} (h : isS p) (r : Req) : sz (Ha04.adds s p r) = sz s := by
  have e := sz_setS g h { Ha04.server s p with sum := Ha04.plus (Ha04.server s p).sum r.n }
  have f : szS { Ha04.server s p with sum := Ha04.plus (Ha04.server s p).sum r.n } = szS (Ha04.server s p) := rfl
  have a : sz (Ha04.adds s p r) = sz (Ha04.setServer s p { Ha04.server s p with sum := Ha04.plus (Ha04.server s p).sum r.n }) := rfl
  omega
theorem sz_answers (p who num v : Nat) : sz (Ha04.answers s p who num v) ≤ sz s + 1 := by
  unfold Ha04.answers
  split
  · omega
  · exact Nat.le_of_eq (sz_send p who (.answer num v))
theorem sz_works (g : Good s) {p : Nat} (h : isS p) : sz (Ha04.works s p) ≤ sz s + 1 := by
  unfold Ha04.works
  split
  · omega
  · rename_i r l e
    have hr : okR r := g.ask p h r (by rw [e]; exact List.mem_cons_self ..)
    have hl : ∀ r' ∈ l, okR r' := fun r' m => g.ask p h r' (by rw [e]; exact List.mem_cons_of_mem _ m)
    have g1 : Good (Ha04.setServer s p { Ha04.server s p with asked := l }) := g.setS h hl (g.lat p h) (g.wat p h) (fun z => by
      have d := (g.dead p h z).1
      rw [e] at d
      cases d)
    have f1 : sz (Ha04.setServer s p { Ha04.server s p with asked := l }) + 1 = sz s := by
      have s1 := sz_setS g h { Ha04.server s p with asked := l }
      have f1 : szS { Ha04.server s p with asked := l } + 1 = szS (Ha04.server s p) := by
        simp only [szS]
        rw [e, List.length_cons]
        omega
      omega
    show sz (match r.what with | 0 => _ | 1 => _ | 2 => _ | 3 => _ | _ => _) ≤ _
    split
    · refine Nat.le_trans (sz_answers ..) ?_
      rw [sz_adds g1 h]
      omega
    · show sz (if _ then _ else _) ≤ _
      split
      · rw [sz_adds g1 h]
        omega
      · have g2 := g1.adds h r
        have s2 := sz_adds g1 h r
        refine Nat.le_trans (sz_setS_le (k := 1) g2 h ?_) (by omega)
        simp only [szS, List.length_append, List.length_singleton]
        omega
    · rw [sz_send]
      omega
    · have := sz_dies g1 h
      omega
    · have g2 := (g1.adds h r).answers (p := p) (num := r.num) (v := (Ha04.server (Ha04.adds (Ha04.setServer s p { Ha04.server s p with asked := l }) p r) p).sum) hr.1
      have s2 := sz_dies g2 h
      have s3 := sz_answers (s := Ha04.adds (Ha04.setServer s p { Ha04.server s p with asked := l }) p r) p r.who r.num (Ha04.server (Ha04.adds (Ha04.setServer s p { Ha04.server s p with asked := l }) p r) p).sum
      have s4 := sz_adds g1 h r
      omega
end
end AO

set_option Elab.async false
set_option maxRecDepth 100000
set_option maxHeartbeats 2000000
namespace AO
open Ha04 (St Req Sig Came)
/-! ### 16. The calls keep what always holds; how much a call adds -/
def badQ (c p what n other : Nat) : Prop := ¬ isC c ∨ ¬ isS p ∨ 4 < what ∨ 1000 < n ∨ (what = 2 ∧ ¬ isS other) ∨ (what ≠ 2 ∧ other ≠ 0)
section
variable {s : St}
theorem good_init : Good Ha04.init := by
  have hc : ∀ c, isC c → Ha04.caller Ha04.init c = Ha04.noCaller := fun c h => by
    unfold isC at h
    have e : c = 1 ∨ c = 2 ∨ c = 3 ∨ c = 4 := by omega
    rcases e with rfl | rfl | rfl | rfl <;> rfl
  have hs : ∀ p, isS p → Ha04.server Ha04.init p = ⟨true, 1, 0, [], [], []⟩ := fun p h => by
    unfold isS at h
    have e : p = 11 ∨ p = 12 ∨ p = 13 ∨ p = 14 := by omega
    rcases e with rfl | rfl | rfl | rfl <;> rfl
  refine ⟨rfl, rfl, fun y h => (by cases h), fun c h w e => ?_, fun p h => ?_, fun p h => ?_, fun p h => ?_, fun p h => ?_⟩
  · rw [hc c h] at e
    cases e
  · rw [hs p h]
    exact fun r h => by cases h
  · rw [hs p h]
    exact fun r h => by cases h
  · rw [hs p h]
    exact fun r h => by cases h
  · rw [hs p h]
    exact fun e => by cases e
theorem sz_init : sz Ha04.init = 0 := rfl
theorem Good.overdue (g : Good s) {c : Nat} (h : isC c) : Good (Ha04.overdue s c) := by
  unfold Ha04.overdue
  split
  · split
    · split
      · exact g.comes h
      · exact g
    · exact g
  · exact g
theorem sz_overdue (g : Good s) {c : Nat} (h : isC c) : sz (Ha04.overdue s c) ≤ sz s + 2 := by
  unfold Ha04.overdue
  split
  · split
    · split
      · exact sz_comes g h _ _ _
      · omega
    · omega
  · omega
theorem Good.time (g : Good s) (n : Nat) : Good { s with time := n } := ⟨g.lc, g.ls, g.air, g.wait, g.ask, g.lat, g.wat, g.dead⟩
theorem Good.passes (g : Good s) (n : Nat) : Good (Ha04.passes s n) :=
  (((((g.time (s.time + n)).overdue (c := 1) (by decide)).overdue (c := 2) (by decide)).overdue (c := 3) (by decide)).overdue (c := 4) (by decide))
theorem sz_passes (g : Good s) (n : Nat) : sz (Ha04.passes s n) ≤ sz s + 8 := by
  have g0 := g.time (s.time + n)
  have g1 := g0.overdue (c := 1) (by decide)
  have g2 := g1.overdue (c := 2) (by decide)
  have g3 := g2.overdue (c := 3) (by decide)
  have h1 := sz_overdue g0 (c := 1) (by decide)
  have h2 := sz_overdue g1 (c := 2) (by decide)
  have h3 := sz_overdue g2 (c := 3) (by decide)
  have h4 := sz_overdue g3 (c := 4) (by decide)
  have e : sz ({ s with time := s.time + n } : St) = sz s := rfl
  show sz (Ha04.overdue (Ha04.overdue (Ha04.overdue (Ha04.overdue { s with time := s.time + n } 1) 2) 3) 4) ≤ _
  omega
theorem Good.round (g : Good s) : Good (Ha04.round s) :=
  ((((g.deliverAt 0).works (p := 11) (by decide)).works (p := 12) (by decide)).works (p := 13) (by decide)).works (p := 14) (by decide)
theorem sz_round (g : Good s) : sz (Ha04.round s) ≤ sz s + 6 := by
  have g0 := g.deliverAt 0
  have g1 := g0.works (p := 11) (by decide)
  have g2 := g1.works (p := 12) (by decide)
  have g3 := g2.works (p := 13) (by decide)
  have h0 := sz_deliverAt g 0
  have h1 := sz_works g0 (p := 11) (by decide)
  have h2 := sz_works g1 (p := 12) (by decide)
  have h3 := sz_works g2 (p := 13) (by decide)
  have h4 := sz_works g3 (p := 14) (by decide)
  show sz (Ha04.works (Ha04.works (Ha04.works (Ha04.works (Ha04.deliverAt s 0) 11) 12) 13) 14) ≤ _
  omega
end
theorem Good.rounds : ∀ (n : Nat) {s : St}, Good s → Good (Ha04.rounds n s)
  | 0, _, g => g
  | n + 1, _, g => Good.rounds n g.round
theorem sz_rounds : ∀ (n : Nat) {s : St}, Good s → sz (Ha04.rounds n s) ≤ sz s + 6 * n
  | 0, _, _ => by
    show sz _ ≤ _
    exact Nat.le_refl _
  | n + 1, s, g => by
    have h1 := sz_rounds n g.round
    have h2 := sz_round g
    show sz (Ha04.rounds n (Ha04.round s)) ≤ _
    omega
section
variable {s : St}
theorem Good.asksQ (g : Good s) {c p what n other : Nat} (h : ¬ badQ c p what n other) (o : Option Nat) : Good (Ha04.asks s c p what n other o) := by
  have hc : isC c := by unfold badQ isC isS at *; omega
  have hp : isS p := by unfold badQ isC isS at *; omega
  have g1 : Good (Ha04.setCaller { s with last := s.last + 1 } c { Ha04.caller s c with waits := some (s.last + 1, p, o.map fun t => s.time + t) }) :=
    Good.setC (s := { s with last := s.last + 1 }) ⟨g.lc, g.ls, g.air, g.wait, g.ask, g.lat, g.wat, g.dead⟩ hc (fun w e => by cases e; exact hp)
  exact (g1.send (p := c) (q := p) (x := .watch (s.last + 1)) ⟨hc, hp⟩).send (p := c) (q := p) (x := .ask ⟨c, s.last + 1, what, n, other⟩) ⟨hp, .inr hc, by show what ≤ 4; unfold badQ isC isS at *; omega, fun e => by
    have e : what = 2 := e
    show isS other
    unfold badQ isC isS at *
    omega⟩
theorem sz_asksQ (g : Good s) {c p what n other : Nat} (hc : isC c) (o : Option Nat) : sz (Ha04.asks s c p what n other o) ≤ sz s + 2 := by
  have g0 : Good ({ s with last := s.last + 1 } : St) := ⟨g.lc, g.ls, g.air, g.wait, g.ask, g.lat, g.wat, g.dead⟩
  have e := sz_setC g0 hc { Ha04.caller s c with waits := some (s.last + 1, p, o.map fun t => s.time + t) }
  have e2 : sz ({ s with last := s.last + 1 } : St) = sz s := rfl
  have e3 : szC { Ha04.caller s c with waits := some (s.last + 1, p, o.map fun t => s.time + t) } = szC (Ha04.caller s c) := rfl
  have e4 : Ha04.caller ({ s with last := s.last + 1 } : St) c = Ha04.caller s c := rfl
  rw [e2, e3, e4] at e
  show sz (Ha04.send (Ha04.send (Ha04.setCaller { s with last := s.last + 1 } c { Ha04.caller s c with waits := some (s.last + 1, p, o.map fun t => s.time + t) }) c p _) c p _) ≤ _
  rw [sz_send, sz_send]
  omega
theorem step_keeps (g : Good s) (x : Ha04.Call) : Good (Ha04.step s x).1 ∧ sz (Ha04.step s x).1 ≤ sz s + 3100 := by
  have stay : Good s ∧ sz s ≤ sz s + 3100 := ⟨g, by omega⟩
  have iC : ∀ {c : Nat}, ¬ Ha04.isCaller c = false → isC c := fun {c} h => by
    rw [isC_b, decide_eq_false_iff_not, Classical.not_not] at h
    exact h
  have iS : ∀ {p : Nat}, ¬ Ha04.isServer p = false → isS p := fun {p} h => by
    rw [isS_b, decide_eq_false_iff_not, Classical.not_not] at h
    exact h
  cases x with
  | ask c p what n other e t =>
    unfold Ha04.step
    dsimp only
    split
    · exact stay
    · rename_i hb
      have nb : ¬ badQ c p what n other := by
        rw [isC_b, isS_b, isS_b, decide_eq_false_iff_not, decide_eq_false_iff_not, decide_eq_false_iff_not] at hb
        exact hb
      have hc : isC c := by unfold badQ isC isS at *; omega
      split
      · exact stay
      · split
        · exact stay
        · split
          · exact stay
          · split
            · have g1 := g.asksQ nb (some 0)
              have h1 := sz_asksQ (p := p) (what := what) (n := n) (other := other) g hc (some 0)
              have h2 := sz_comes g1 hc (s.last + 1) 2 0
              exact ⟨g1.comes hc, by show sz (Ha04.comes _ _ _ _ _) ≤ _; omega⟩
            · have h1 := sz_asksQ (p := p) (what := what) (n := n) (other := other) g hc (if e = 1 then some t else none)
              exact ⟨g.asksQ nb _, by show sz (Ha04.asks _ _ _ _ _ _ _) ≤ _; omega⟩
  | tell c p n =>
    unfold Ha04.step
    dsimp only
    split
    · exact stay
    · rename_i hb
      have hp : isS p := iS fun h => hb (.inr (.inl h))
      split
      · exact stay
      · exact ⟨g.send ⟨hp, .inl rfl, by show 0 ≤ 4; omega, fun e => by cases e⟩, by show sz (Ha04.send _ _ _ _) ≤ _; rw [sz_send]; omega⟩
  | halt_ c =>
    unfold Ha04.step
    dsimp only
    split
    · exact stay
    · rename_i hb
      have hc := iC hb
      split
      · exact stay
      · rename_i w _
        have := sz_comes g hc w.1 3 0
        exact ⟨g.comes hc, by show sz (Ha04.comes _ _ _ _ _) ≤ _; omega⟩
  | deliver p q =>
    unfold Ha04.step
    dsimp only
    split
    · exact stay
    · rename_i i _
      have := sz_deliverAt g i
      exact ⟨g.deliverAt i, by show sz (Ha04.deliverAt _ _) ≤ _; omega⟩
  | work p =>
    unfold Ha04.step
    dsimp only
    split
    · exact stay
    · rename_i hb
      split
      · exact stay
      · split
        · exact stay
        · have := sz_works g (iS hb)
          exact ⟨g.works (iS hb), by show sz (Ha04.works _ _) ≤ _; omega⟩
  | answer p k =>
    unfold Ha04.step
    dsimp only
    split
    · exact stay
    · rename_i hb
      have hp := iS hb
      split
      · exact stay
      · rename_i y hy
        split
        · exact stay
        · have hy1 : isC y.1 := g.lat p hp y (List.mem_of_getElem? hy)
          have g1 : Good (Ha04.setServer s p { Ha04.server s p with later := (Ha04.server s p).later.eraseIdx (k - 1) }) := g.setS hp (g.ask p hp) (fun z hz => g.lat p hp z (List.mem_of_mem_eraseIdx hz)) (g.wat p hp) (fun z => by
            have d := g.dead p hp z
            exact ⟨d.1, by show List.eraseIdx (Ha04.server s p).later _ = []; rw [d.2.1]; rfl, d.2.2⟩)
          have h1 : sz (Ha04.setServer s p { Ha04.server s p with later := (Ha04.server s p).later.eraseIdx (k - 1) }) ≤ sz s + 0 := sz_setS_le g hp (by
            have := List.length_eraseIdx_le (Ha04.server s p).later (k - 1)
            simp only [szS]
            omega)
          have h2 := sz_answers (s := Ha04.setServer s p { Ha04.server s p with later := (Ha04.server s p).later.eraseIdx (k - 1) }) p y.1 y.2.1 y.2.2
          exact ⟨g1.answers (.inr hy1), Nat.le_trans h2 (by omega)⟩
  | die p =>
    unfold Ha04.step
    dsimp only
    split
    · exact stay
    · rename_i hb
      split
      · exact stay
      · have := sz_dies g (iS hb)
        exact ⟨g.dies (iS hb), by show sz (Ha04.dies _ _) ≤ _; omega⟩
  | start p =>
    unfold Ha04.step
    dsimp only
    split
    · exact stay
    · rename_i hb
      split
      · exact stay
      · have h1 : sz (Ha04.setServer s p ⟨true, (Ha04.server s p).life + 1, 0, [], [], []⟩) ≤ sz s + 0 := sz_setS_le g (iS hb) (by
          simp only [szS, List.length_nil]
          omega)
        exact ⟨g.setS (iS hb) (fun _ h => by cases h) (fun _ h => by cases h) (fun _ h => by cases h) (fun e => by cases e), by show sz (Ha04.setServer _ _ _) ≤ _; omega⟩
  | ticks n =>
    unfold Ha04.step
    dsimp only
    split
    · exact stay
    · have := sz_passes g n
      exact ⟨g.passes n, by show sz (Ha04.passes _ _) ≤ _; omega⟩
  | turns n =>
    unfold Ha04.step
    dsimp only
    split
    · exact stay
    · have := sz_rounds n g
      exact ⟨Good.rounds n g, by show sz (Ha04.rounds _ _) ≤ _; omega⟩
  | came c => exact stay
  | waits c => exact stay
  | server p => exact stay
  | air => exact stay
end
/-! ### 17. The list of calls, one behind another -/
theorem whole_is (c : List (List Int)) : PyHa04.whole c = c := by
  unfold PyHa04.whole
  split <;> rfl
theorem map_whole (cs : List (List (List Int))) : cs.map PyHa04.whole = cs := by
  induction cs with
  | nil => rfl
  | cons c r ih => rw [List.map_cons, ih, whole_is]
theorem all_if {c : Prop} [Decidable c] {α : Type} {a b : Option α} {f : α → Bool} (h1 : a.all f = true) (h2 : b.all f = true) : (if c then a else b).all f = true := by
  by_cases h : c
  · rw [if_pos h]
    exact h1
  · rw [if_neg h]
    exact h2
theorem shape_rows (p : Int) : (PyHa04.shape p).all (fun nk => decide (nk.2 = 0)) = true := by
  unfold PyHa04.shape
  exact all_if rfl (all_if rfl (all_if rfl (all_if rfl (all_if rfl (all_if rfl (all_if rfl (all_if rfl (all_if rfl (all_if rfl (all_if rfl (all_if rfl (all_if rfl (all_if rfl rfl)))))))))))))
theorem calls_cons {f : Nat} {p : Int} {r : List Int} {cs : List (List (List Int))} (h : PyFlat.calls PyHa04.shape f (p :: r) = some cs) :
    ∃ g n cs', f = g + 1 ∧ PyHa04.shape p = some (n, 0) ∧ n ≤ r.length ∧ PyFlat.calls PyHa04.shape g (r.drop n) = some cs' ∧ cs = [p :: r.take n] :: cs' := by
  cases f with
  | zero => exact absurd h (by simp [PyFlat.calls])
  | succ g =>
    have h : (match PyFlat.call PyHa04.shape (p :: r) with
      | none => none
      | some (c, t) => match PyFlat.calls PyHa04.shape g t with
        | none => none
        | some cs => some (c :: cs)) = some cs := h
    have sh0 : ∀ n k, PyHa04.shape p = some (n, k) → k = 0 := fun n k e => by
      have q := shape_rows p
      rw [e] at q
      exact of_decide_eq_true q
    cases es : PyHa04.shape p with
    | none =>
      have e : PyFlat.call PyHa04.shape (p :: r) = none := by simp [PyFlat.call, es]
      rw [e] at h
      cases h
    | some nk =>
      obtain ⟨n, k⟩ := nk
      have k0 := sh0 n k es
      subst k0
      by_cases hl : r.length < n
      · have e : PyFlat.call PyHa04.shape (p :: r) = none := by simp [PyFlat.call, es, hl]
        rw [e] at h
        cases h
      · have e : PyFlat.call PyHa04.shape (p :: r) = some ([p :: r.take n], r.drop n) := by simp [PyFlat.call, es, hl, PyFlat.rows]
        rw [e] at h
        have h : (match PyFlat.calls PyHa04.shape g (r.drop n) with
          | none => none
          | some cs => some ([p :: r.take n] :: cs)) = some cs := h
        cases ec : PyFlat.calls PyHa04.shape g (r.drop n) with
        | none => rw [ec] at h; cases h
        | some cs' =>
          rw [ec] at h
          exact ⟨g, n, cs', rfl, rfl, by omega, ec, (Option.some.inj h).symm⟩
theorem calls_nil {f : Nat} : PyFlat.calls PyHa04.shape f [] = some [] := by
  cases f <;> rfl
end AO

set_option Elab.async false
set_option maxRecDepth 100000
set_option maxHeartbeats 2000000
namespace AO
open PySem L2
/-! ### 4. The text by places -/
def top (i : Nat) : Stmt := PySem.Challenge.pw_answeredonce_s01_answers.main.body.getD i (.Pass ⟨0, 0, 0, 0⟩)
abbrev s_Wait : Stmt := inClass (top 1) 0
abbrev s_Caller : Stmt := inClass (top 2) 0
abbrev s_Server : Stmt := inClass (top 3) 0
abbrev s_Letter : Stmt := inClass (top 4) 0
abbrev s_World : Stmt := inClass (top 5) 0
abbrev s_send : Stmt := top 22
abbrev s_first_on_its_way : Stmt := top 23
abbrev s_comes_back : Stmt := top 24
abbrev s_arrives : Stmt := top 25
abbrev s_arrives_at_server : Stmt := top 26
abbrev s_watch_arrives : Stmt := top 27
abbrev s_arrives_at_caller : Stmt := top 28
abbrev s_does_first : Stmt := top 29
abbrev s_adds : Stmt := top 30
abbrev s_dies : Stmt := top 31
abbrev s_lives_again : Stmt := top 32
abbrev s_is_over : Stmt := top 33
abbrev s_time_passes : Stmt := top 34
abbrev s_one_turn : Stmt := top 35
abbrev s_asked_badly : Stmt := top 47
abbrev s_ask : Stmt := top 48
abbrev s_tell : Stmt := top 49
abbrev s_stop : Stmt := top 50
abbrev s_deliver : Stmt := top 51
abbrev s_work : Stmt := top 52
abbrev s_answer : Stmt := top 53
abbrev s_die : Stmt := top 54
abbrev s_start : Stmt := top 55
abbrev s_counted : Stmt := top 57
abbrev s_came : Stmt := top 58
abbrev s_waits : Stmt := top 59
abbrev s_server : Stmt := top 60
abbrev s_air : Stmt := top 61
abbrev s_ticks : Stmt := top 63
abbrev s_turns : Stmt := top 64
abbrev s_answer_to : Stmt := top 80
abbrev s_look_at : Stmt := top 81
abbrev s_answers : Stmt := top 82
def givens : List Int := [7, 3, 1, 2, 1, 2, 1, 1, 1, 1, 1, 1, 1, 0]
/-! ### 5. What the top has written -/
structure Txt (K : PySem.W.Frag) (mg : Str → Option Value) (Z : Cs) : Prop where
  cW : Cls K Z.W
  nW_now : NoAttr K Z.W "now"
  nW_made : NoAttr K Z.W "made"
  nW_callers : NoAttr K Z.W "callers"
  nW_servers : NoAttr K Z.W "servers"
  nW_air : NoAttr K Z.W "air"
  cC : Cls K Z.C
  nC_waiting : NoAttr K Z.C "waiting"
  nC_came : NoAttr K Z.C "came"
  cS : Cls K Z.S
  nS_alive : NoAttr K Z.S "alive"
  nS_lives : NoAttr K Z.S "lives"
  nS_total : NoAttr K Z.S "total"
  nS_asked : NoAttr K Z.S "asked"
  nS_later : NoAttr K Z.S "later"
  nS_watchers : NoAttr K Z.S "watchers"
  cL : Cls K Z.L
  nL_sender : NoAttr K Z.L "sender"
  nL_receiver : NoAttr K Z.L "receiver"
  nL_told : NoAttr K Z.L "told"
  cT : Cls K Z.T
  nT_number : NoAttr K Z.T "number"
  nT_server : NoAttr K Z.T "server"
  nT_ends : NoAttr K Z.T "ends"
  nT_over : NoAttr K Z.T "over"
  len : mg "len" = none
  enumerate : mg "enumerate" = none
  list : mg "list" = none
  range : mg "range" = none
  sorted : mg "sorted" = none
  k_ASKED : ∃ t, mg "ASKED" = some (.int 0 t)
  k_WATCH : ∃ t, mg "WATCH" = some (.int 1 t)
  k_UNWATCH : ∃ t, mg "UNWATCH" = some (.int 2 t)
  k_ANSWER : ∃ t, mg "ANSWER" = some (.int 3 t)
  k_GONE : ∃ t, mg "GONE" = some (.int 4 t)
  k_CAME_ANSWER : ∃ t, mg "CAME_ANSWER" = some (.int 0 t)
  k_CAME_GONE : ∃ t, mg "CAME_GONE" = some (.int 1 t)
  k_CAME_OVER : ∃ t, mg "CAME_OVER" = some (.int 2 t)
  k_CAME_STOPPED : ∃ t, mg "CAME_STOPPED" = some (.int 3 t)
  k_ADD : ∃ t, mg "ADD" = some (.int 0 t)
  k_ADD_LATER : ∃ t, mg "ADD_LATER" = some (.int 1 t)
  k_HAND_ON : ∃ t, mg "HAND_ON" = some (.int 2 t)
  k_DIE : ∃ t, mg "DIE" = some (.int 3 t)
  k_ADD_AND_DIE : ∃ t, mg "ADD_AND_DIE" = some (.int 4 t)
  k_MODULUS : ∃ t, mg "MODULUS" = some (.int 1000003 t)
  k_NOT_THERE : ∃ t, mg "NOT_THERE" = some (.int (-1) t)
  k_BAD_END : ∃ t, mg "BAD_END" = some (.int (-2) t)
  k_NOTHING : ∃ t, mg "NOTHING" = some (.int (-5) t)
  k_TOO_MANY : ∃ t, mg "TOO_MANY" = some (.int (-6) t)
  k_NOT_NOW : ∃ t, mg "NOT_NOW" = some (.int (-8) t)
  k_MOST_WHAT : ∃ t, mg "MOST_WHAT" = some (.int 4 t)
  k_MOST_MUCH : ∃ t, mg "MOST_MUCH" = some (.int 1000 t)
  k_MOST_TICKS : ∃ t, mg "MOST_TICKS" = some (.int 10000 t)
  k_MOST_TURNS : ∃ t, mg "MOST_TURNS" = some (.int 500 t)
  k_FULL_AIR : ∃ t, mg "FULL_AIR" = some (.int 150 t)
  k_CALL_ASK : ∃ t, mg "CALL_ASK" = some (.int 0 t)
  k_CALL_TELL : ∃ t, mg "CALL_TELL" = some (.int 1 t)
  k_CALL_STOP : ∃ t, mg "CALL_STOP" = some (.int 2 t)
  k_CALL_DELIVER : ∃ t, mg "CALL_DELIVER" = some (.int 3 t)
  k_CALL_WORK : ∃ t, mg "CALL_WORK" = some (.int 4 t)
  k_CALL_ANSWER : ∃ t, mg "CALL_ANSWER" = some (.int 5 t)
  k_CALL_DIE : ∃ t, mg "CALL_DIE" = some (.int 6 t)
  k_CALL_START : ∃ t, mg "CALL_START" = some (.int 7 t)
  k_CALL_TICKS : ∃ t, mg "CALL_TICKS" = some (.int 8 t)
  k_CALL_TURNS : ∃ t, mg "CALL_TURNS" = some (.int 9 t)
  k_CALL_CAME : ∃ t, mg "CALL_CAME" = some (.int 10 t)
  k_CALL_WAITS : ∃ t, mg "CALL_WAITS" = some (.int 11 t)
  k_CALL_SERVER : ∃ t, mg "CALL_SERVER" = some (.int 12 t)
  k_GIVEN : mg "GIVEN" = some (.ref Z.g)
  given : ∀ H : Hp, SqT K H Z.g (givens.map V.int)
end AO

set_option Elab.async false
set_option maxRecDepth 100000
set_option maxHeartbeats 2000000
set_option linter.unusedVariables false
namespace AO
open PySem L2
/-! ### 6. Calls, classes made, constants -/
structure Cal (P : Program) (w : World) (K : PySem.W.Frag) (mg : Str → Option Value) (base : Heap) (k : Nat) (x : Str) (ps : List Str) (sp : Sp) (f : Addr) (fd : FuncData) : Prop where
  ok : FnOk P w K mg base CX0 k f fd ps sp
  g : mg x = some (.ref f)
  kp : PySem.W.keepIn K (.ref f) = true
  b : Binds K fd ps []
structure Mak (P : Program) (w : World) (K : PySem.W.Frag) (mg : Str → Option Value) (base : Heap) (k : Nat) (x : Str) (ps : List Str) (sp : Sp) (C f : Addr) (fd : FuncData) : Prop where
  ok : FnOk P w K mg base CX0 k f fd ps sp
  M : Mk K C f
  g : mg x = some (.ref C)
  b : Binds K fd ps []
theorem pe_gi {X : Cx} {x : Str} {i : Int} {pos : Pos} (h : ∃ t, X.mg x = some (.int i t)) (hg : Gl X x) (hd : (x == ("__debug__" : Str)) = false := by decide) : PE X (.Name x pos) (tC (.int i)) := by
  obtain ⟨t, ht⟩ := h
  exact pe_glob hg ht ⟨t, rfl⟩ hd
/-! ### 6b. The state on its way: from the heap Hs and the layout G it came here; what never changes of Hs is as it was, and the fixed places are G's -/
structure Fx (L L' : Lay) : Prop where
  w : L'.w = L.w
  air : L'.air = L.air
  cal : L'.cal = L.cal
  came : L'.came = L.came
  srv : L'.srv = L.srv
theorem Fx.refl (L : Lay) : Fx L L := ⟨rfl, rfl, rfl, rfl, rfl⟩
structure Go (Z : Cs) (H0 Hs : Hp) (G : Lay) (H : Hp) (L : Lay) (m : M) : Prop where
  W : Wd Z H0 H L m
  fx : Fx G L
  k : KeepI Hs H
section
variable {Z : Cs} {H0 Hs H H' : Hp} {G L : Lay} {m m' : M}
theorem Go.of (W : Wd Z H0 H L m) : Go Z H0 H L H L m := ⟨W, Fx.refl L, KeepI.refl H⟩
theorem Go.cast (g : Go Z H0 Hs G H L m) (e : m = m') : Go Z H0 Hs G H L m' := e ▸ g
theorem Go.mono (g : Go Z H0 Hs G H L m) (s : Same H H') : Go Z H0 Hs G H' L m := ⟨g.W.mono s, g.fx, g.k.trans (.of s)⟩
theorem Go.new (g : Go Z H0 Hs G H L m) {p : Addr} {o : HO} (n : H p = none) : Go Z H0 Hs G (upd H p o) L m := g.mono (Same.new n)
theorem Go.w (g : Go Z H0 Hs G H L m) : H G.w = some (.ins Z.W L.dxw (wF m L.dc L.ds G.air)) := by
  have h := g.W.cell .w trivial
  rw [← g.fx.w, ← g.fx.air]
  exact h
theorem Go.air (g : Go Z H0 Hs G H L m) : H G.air = some (.lst (refs L.airR)) := by
  rw [← g.fx.air]
  exact g.W.cell .air trivial
theorem Go.cal (g : Go Z H0 Hs G H L m) {c : Int} (hc : 1 ≤ c ∧ c ≤ 4) : H (G.cal c) = some (.ins Z.C (L.calD c) (cF (L.calW c) (G.came c))) := by
  rw [← g.fx.cal, ← g.fx.came]
  exact g.W.cell (.cal c) hc
theorem Go.came (g : Go Z H0 Hs G H L m) {c : Int} (hc : 1 ≤ c ∧ c ≤ 4) : H (G.came c) = some (.lst (refs (L.cameR c))) := by
  rw [← g.fx.came]
  exact g.W.cell (.came c) hc
theorem Go.srv (g : Go Z H0 Hs G H L m) {p : Int} (hp : 11 ≤ p ∧ p ≤ 14) : H (G.srv p) = some (.ins Z.S (L.srvD p) (sF (m.servers p) (L.ask p) (L.lat p) (L.wat p))) := by
  rw [← g.fx.srv]
  exact g.W.cell (.srv p) hp
theorem Go.ask (g : Go Z H0 Hs G H L m) {p : Int} (hp : 11 ≤ p ∧ p ≤ 14) : H (L.ask p) = some (.lst (refs (L.askR p))) := g.W.cell (.ask p) hp
theorem Go.lat (g : Go Z H0 Hs G H L m) {p : Int} (hp : 11 ≤ p ∧ p ≤ 14) : H (L.lat p) = some (.lst (refs (L.latR p))) := g.W.cell (.lat p) hp
theorem Go.wat (g : Go Z H0 Hs G H L m) {p : Int} (hp : 11 ≤ p ∧ p ≤ 14) : H (L.wat p) = some (.lst (refs (L.watR p))) := g.W.cell (.wat p) hp
theorem Go.airPush (g : Go Z H0 Hs G H L m) {a : Addr} {y : Int × Int × List Int} (ha : LetterAt Z H a y) : Go Z H0 Hs G (upd H G.air (.lst (refs L.airR ++ [.ref a]))) { L with airR := L.airR ++ [a] } { m with air := m.air ++ [y] } := by
  have h := g.W.airPush ha
  have k := g.k.trans (g.W.keep (k := .air) trivial (o := .lst (refs L.airR ++ [.ref a])))
  rw [← g.fx.air]
  exact ⟨h, ⟨g.fx.w, g.fx.air, g.fx.cal, g.fx.came, g.fx.srv⟩, k⟩
theorem Go.airPop (g : Go Z H0 Hs G H L m) (i : Nat) : ∃ L', Go Z H0 Hs G (upd H G.air (.lst ((refs L.airR).eraseIdx i))) L' { m with air := m.air.eraseIdx i } := by
  have h := g.W.airPop i
  have k := g.k.trans (g.W.keep (k := .air) trivial (o := .lst ((refs L.airR).eraseIdx i)))
  rw [← g.fx.air]
  exact ⟨_, h, ⟨g.fx.w, g.fx.air, g.fx.cal, g.fx.came, g.fx.srv⟩, k⟩
theorem Go.setMade (g : Go Z H0 Hs G H L m) (x : Int) : Go Z H0 Hs G (upd H G.w (.ins Z.W L.dxw (putF "made" (.int x) (wF m L.dc L.ds G.air)))) L { m with made := x } := by
  have h := g.W.setMade x
  have k := g.k.trans (g.W.keep (k := .w) trivial (o := .ins Z.W L.dxw (putF "made" (.int x) (wF m L.dc L.ds L.air))))
  rw [← g.fx.w, ← g.fx.air]
  exact ⟨h, ⟨g.fx.w, g.fx.air, g.fx.cal, g.fx.came, g.fx.srv⟩, k⟩
theorem Go.setNow (g : Go Z H0 Hs G H L m) (x : Int) : Go Z H0 Hs G (upd H G.w (.ins Z.W L.dxw (putF "now" (.int x) (wF m L.dc L.ds G.air)))) L { m with now := x } := by
  have h := g.W.setNow x
  have k := g.k.trans (g.W.keep (k := .w) trivial (o := .ins Z.W L.dxw (putF "now" (.int x) (wF m L.dc L.ds L.air))))
  rw [← g.fx.w, ← g.fx.air]
  exact ⟨h, ⟨g.fx.w, g.fx.air, g.fx.cal, g.fx.came, g.fx.srv⟩, k⟩
theorem Go.setWait (g : Go Z H0 Hs G H L m) {c : Int} (hc : 1 ≤ c ∧ c ≤ 4) {v : V} {x : Option WaitM} (hv : WaitAt Z H v x) :
    ∃ L', Go Z H0 Hs G (upd H (G.cal c) (.ins Z.C (L.calD c) (putF "waiting" v (cF (L.calW c) (G.came c))))) L' (m.setC c { m.callers c with waiting := x }) := by
  have h := g.W.setWait hc hv
  have k := g.k.trans (g.W.keep (k := .cal c) hc (o := .ins Z.C (L.calD c) (putF "waiting" v (cF (L.calW c) (L.came c)))))
  rw [← g.fx.cal, ← g.fx.came]
  exact ⟨_, h, ⟨g.fx.w, g.fx.air, g.fx.cal, g.fx.came, g.fx.srv⟩, k⟩
theorem Go.camePush (g : Go Z H0 Hs G H L m) {c : Int} (hc : 1 ≤ c ∧ c ≤ 4) {a : Addr} {y : List Int} (ha : TupAt H a y) :
    ∃ L', Go Z H0 Hs G (upd H (G.came c) (.lst (refs (L.cameR c) ++ [.ref a]))) L' (m.setC c { m.callers c with came := (m.callers c).came ++ [y] }) := by
  have h := g.W.camePush hc ha
  have k := g.k.trans (g.W.keep (k := .came c) hc (o := .lst (refs (L.cameR c) ++ [.ref a])))
  rw [← g.fx.came]
  exact ⟨_, h, ⟨g.fx.w, g.fx.air, g.fx.cal, g.fx.came, g.fx.srv⟩, k⟩
/-- a server's numbers alone -/
theorem Go.setSrv (g : Go Z H0 Hs G H L m) {p : Int} (hp : 11 ≤ p ∧ p ≤ 14) {x : ServerM} (ea : x.asked = (m.servers p).asked) (el : x.later = (m.servers p).later) (ew : x.watchers = (m.servers p).watchers) {fs : List (Str × V)} (hf : fs = sF x (L.ask p) (L.lat p) (L.wat p)) :
    Go Z H0 Hs G (upd H (G.srv p) (.ins Z.S (L.srvD p) fs)) L (m.setS p x) := by
  have h := g.W.setSrv hp ea el ew hf
  have k := g.k.trans (g.W.keep (k := .srv p) hp (o := .ins Z.S (L.srvD p) fs))
  rw [← g.fx.srv]
  exact ⟨h, g.fx, k⟩
theorem Go.setAsk (g : Go Z H0 Hs G H L m) {p : Int} (hp : 11 ≤ p ∧ p ≤ 14) {r : List Addr} {ys : List (List Int)} (hr : All2 (TupAt H) r ys) {vs : List V} (hv : vs = refs r) : ∃ L', Go Z H0 Hs G (upd H (L.ask p) (.lst vs)) L' (m.setS p { m.servers p with asked := ys }) :=
  ⟨_, g.W.setAsk hp hr hv, ⟨g.fx.w, g.fx.air, g.fx.cal, g.fx.came, g.fx.srv⟩, g.k.trans (g.W.keep (k := .ask p) hp (o := .lst vs))⟩
theorem Go.setLat (g : Go Z H0 Hs G H L m) {p : Int} (hp : 11 ≤ p ∧ p ≤ 14) {r : List Addr} {ys : List (List Int)} (hr : All2 (TupAt H) r ys) {vs : List V} (hv : vs = refs r) : ∃ L', Go Z H0 Hs G (upd H (L.lat p) (.lst vs)) L' (m.setS p { m.servers p with later := ys }) :=
  ⟨_, g.W.setLat hp hr hv, ⟨g.fx.w, g.fx.air, g.fx.cal, g.fx.came, g.fx.srv⟩, g.k.trans (g.W.keep (k := .lat p) hp (o := .lst vs))⟩
theorem Go.setWat (g : Go Z H0 Hs G H L m) {p : Int} (hp : 11 ≤ p ∧ p ≤ 14) {r : List Addr} {ys : List (List Int)} (hr : All2 (TupAt H) r ys) {vs : List V} (hv : vs = refs r) : ∃ L', Go Z H0 Hs G (upd H (L.wat p) (.lst vs)) L' (m.setS p { m.servers p with watchers := ys }) :=
  ⟨_, g.W.setWat hp hr hv, ⟨g.fx.w, g.fx.air, g.fx.cal, g.fx.came, g.fx.srv⟩, g.k.trans (g.W.keep (k := .wat p) hp (o := .lst vs))⟩
/-- a server's list is a new one, made at q in a heap H where nothing stood there -/
theorem Go.newAsk (g : Go Z H0 Hs G H L m) {p : Int} (hp : 11 ≤ p ∧ p ≤ 14) {q : Addr} {r : List Addr} {ys : List (List Int)} (hr : All2 (TupAt (upd H q (.lst (refs r)))) r ys) (nq : H q = none) :
    ∃ L', Go Z H0 Hs G (upd (upd H q (.lst (refs r))) (G.srv p) (.ins Z.S (L.srvD p) (putF "asked" (.ref q) (sF (m.servers p) (L.ask p) (L.lat p) (L.wat p))))) L' (m.setS p { m.servers p with asked := ys }) := by
  have W1 := g.W.mono (Same.new (o := .lst (refs r)) nq)
  have h := W1.newAsk hp hr upd_same (g.W.same.free nq) (fun j hj => g.W.ne_new hj nq) (sF_putAsked (m.servers p) (L.ask p) (L.lat p) (L.wat p) q)
  have k := (g.k.trans (.of (Same.new (o := .lst (refs r)) nq))).trans (W1.keep (k := .srv p) hp (o := .ins Z.S (L.srvD p) (putF "asked" (.ref q) (sF (m.servers p) (L.ask p) (L.lat p) (L.wat p)))))
  rw [← g.fx.srv]
  exact ⟨_, h, ⟨g.fx.w, g.fx.air, g.fx.cal, g.fx.came, g.fx.srv⟩, k⟩
theorem Go.newLat (g : Go Z H0 Hs G H L m) {p : Int} (hp : 11 ≤ p ∧ p ≤ 14) {q : Addr} {r : List Addr} {ys : List (List Int)} (hr : All2 (TupAt (upd H q (.lst (refs r)))) r ys) (nq : H q = none) :
    ∃ L', Go Z H0 Hs G (upd (upd H q (.lst (refs r))) (G.srv p) (.ins Z.S (L.srvD p) (putF "later" (.ref q) (sF (m.servers p) (L.ask p) (L.lat p) (L.wat p))))) L' (m.setS p { m.servers p with later := ys }) := by
  have W1 := g.W.mono (Same.new (o := .lst (refs r)) nq)
  have h := W1.newLat hp hr upd_same (g.W.same.free nq) (fun j hj => g.W.ne_new hj nq) (sF_putLater (m.servers p) (L.ask p) (L.lat p) (L.wat p) q)
  have k := (g.k.trans (.of (Same.new (o := .lst (refs r)) nq))).trans (W1.keep (k := .srv p) hp (o := .ins Z.S (L.srvD p) (putF "later" (.ref q) (sF (m.servers p) (L.ask p) (L.lat p) (L.wat p)))))
  rw [← g.fx.srv]
  exact ⟨_, h, ⟨g.fx.w, g.fx.air, g.fx.cal, g.fx.came, g.fx.srv⟩, k⟩
theorem Go.newWat (g : Go Z H0 Hs G H L m) {p : Int} (hp : 11 ≤ p ∧ p ≤ 14) {q : Addr} {r : List Addr} {ys : List (List Int)} (hr : All2 (TupAt (upd H q (.lst (refs r)))) r ys) (nq : H q = none) :
    ∃ L', Go Z H0 Hs G (upd (upd H q (.lst (refs r))) (G.srv p) (.ins Z.S (L.srvD p) (putF "watchers" (.ref q) (sF (m.servers p) (L.ask p) (L.lat p) (L.wat p))))) L' (m.setS p { m.servers p with watchers := ys }) := by
  have W1 := g.W.mono (Same.new (o := .lst (refs r)) nq)
  have h := W1.newWat hp hr upd_same (g.W.same.free nq) (fun j hj => g.W.ne_new hj nq) (sF_putWatchers (m.servers p) (L.ask p) (L.lat p) (L.wat p) q)
  have k := (g.k.trans (.of (Same.new (o := .lst (refs r)) nq))).trans (W1.keep (k := .srv p) hp (o := .ins Z.S (L.srvD p) (putF "watchers" (.ref q) (sF (m.servers p) (L.ask p) (L.lat p) (L.wat p)))))
  rw [← g.fx.srv]
  exact ⟨_, h, ⟨g.fx.w, g.fx.air, g.fx.cal, g.fx.came, g.fx.srv⟩, k⟩
end
/-! ### 7. What an expression is worth over the state -/
def inC (c : Int) : Prop := 1 ≤ c ∧ c ≤ 4
def inS (p : Int) : Prop := 11 ≤ p ∧ p ≤ 14
instance (c : Int) : Decidable (inC c) := inferInstanceAs (Decidable (_ ∧ _))
instance (p : Int) : Decidable (inS p) := inferInstanceAs (Decidable (_ ∧ _))
theorem cals_get {L : Lay} {c : Int} (hc : inC c) : valV (cals L) (Sum.inl c : Key) = some (.ref (L.cal c)) := by
  obtain ⟨h1, h2⟩ := hc
  have e : c = 1 ∨ c = 2 ∨ c = 3 ∨ c = 4 := by omega
  rcases e with rfl | rfl | rfl | rfl <;> rfl
theorem srvs_get {L : Lay} {p : Int} (hp : inS p) : valV (srvs L) (Sum.inl p : Key) = some (.ref (L.srv p)) := by
  obtain ⟨h1, h2⟩ := hp
  have e : p = 11 ∨ p = 12 ∨ p = 13 ∨ p = 14 := by omega
  rcases e with rfl | rfl | rfl | rfl <;> rfl
theorem inl_ne {a b : Int} (h : ¬ a = b) : ¬ ((Sum.inl a : Key) = Sum.inl b) := fun e => h (Sum.inl.inj e)
theorem cals_not {L : Lay} {c : Int} (hc : ¬ inC c) : valV (cals L) (Sum.inl c : Key) = none := by
  unfold inC at hc
  unfold cals
  rw [valV_neg (inl_ne (by omega)), valV_neg (inl_ne (by omega)), valV_neg (inl_ne (by omega)), valV_neg (inl_ne (by omega))]
  rfl
theorem srvs_not {L : Lay} {p : Int} (hp : ¬ inS p) : valV (srvs L) (Sum.inl p : Key) = none := by
  unfold inS at hp
  unfold srvs
  rw [valV_neg (inl_ne (by omega)), valV_neg (inl_ne (by omega)), valV_neg (inl_ne (by omega)), valV_neg (inl_ne (by omega))]
  rfl
theorem cals_is {L : Lay} {c : Int} : (valV (cals L) (Sum.inl c : Key)).isSome = decide (inC c) := by
  by_cases hc : inC c
  · rw [cals_get hc, decide_eq_true hc]
    rfl
  · rw [cals_not hc, decide_eq_false hc]
    rfl
theorem srvs_is {L : Lay} {p : Int} : (valV (srvs L) (Sum.inl p : Key)).isSome = decide (inS p) := by
  by_cases hp : inS p
  · rw [srvs_get hp, decide_eq_true hp]
    rfl
  · rw [srvs_not hp, decide_eq_false hp]
    rfl
section
variable {K : PySem.W.Frag} {mg : Str → Option Value} {Z : Cs} {H0 Hs H : Hp} {G L : Lay} {m : M} {σ : L2.St} {tw te tk ti : TE}
theorem v_callers (T : Txt K mg Z) (W : Go Z H0 Hs G H L m) (h : Val tw σ H (.ref G.w)) : Val (tFld K tw "callers") σ H (.ref L.dc) := val_fld h W.w T.cW T.nW_callers (wF_callers _ _ _ _)
theorem v_servers (T : Txt K mg Z) (W : Go Z H0 Hs G H L m) (h : Val tw σ H (.ref G.w)) : Val (tFld K tw "servers") σ H (.ref L.ds) := val_fld h W.w T.cW T.nW_servers (wF_servers _ _ _ _)
theorem v_air (T : Txt K mg Z) (W : Go Z H0 Hs G H L m) (h : Val tw σ H (.ref G.w)) : Val (tFld K tw "air") σ H (.ref G.air) := val_fld h W.w T.cW T.nW_air (wF_air _ _ _ _)
theorem v_now (T : Txt K mg Z) (W : Go Z H0 Hs G H L m) (h : Val tw σ H (.ref G.w)) : Val (tFld K tw "now") σ H (.int m.now) := val_fld h W.w T.cW T.nW_now (wF_now _ _ _ _)
theorem v_made (T : Txt K mg Z) (W : Go Z H0 Hs G H L m) (h : Val tw σ H (.ref G.w)) : Val (tFld K tw "made") σ H (.int m.made) := val_fld h W.w T.cW T.nW_made (wF_made _ _ _ _)
theorem val_dget {d : Addr} {kvs : List (Key × V)} {k : Int} {v : V} (h : Val te σ H (.ref d)) (hk : Val tk σ H (.int k)) (hd : H d = some (.dK kvs)) (hv : valV kvs (Sum.inl k : Key) = some v) : Val (tDGet te tk) σ H v := fun Q q =>
  h _ (hk _ ⟨d, v, rfl, by rw [← hv]; exact DGet.k (k := Sum.inl k) hd, q⟩)
theorem v_caller (T : Txt K mg Z) (W : Go Z H0 Hs G H L m) (h : Val tw σ H (.ref G.w)) {c : Int} (hc : inC c) (hk : Val tk σ H (.int c)) : Val (tDGet (tFld K tw "callers") tk) σ H (.ref (G.cal c)) := by
  rw [← W.fx.cal]
  exact val_dget (v_callers T W h) hk W.W.held.dc (cals_get hc)
theorem v_server (T : Txt K mg Z) (W : Go Z H0 Hs G H L m) (h : Val tw σ H (.ref G.w)) {p : Int} (hp : inS p) (hk : Val tk σ H (.int p)) : Val (tDGet (tFld K tw "servers") tk) σ H (.ref (G.srv p)) := by
  rw [← W.fx.srv]
  exact val_dget (v_servers T W h) hk W.W.held.ds (srvs_get hp)
theorem a_inCallers (T : Txt K mg Z) (W : Go Z H0 Hs G H L m) (h : Val tw σ H (.ref G.w)) {c : Int} (hk : Val tk σ H (.int c)) : Ans (tB (tDIn tk (tFld K tw "callers"))) σ H (decide (inC c)) := fun Q q =>
  hk _ (v_callers T W h _ ⟨L.dc, _, rfl, DGet.k (k := Sum.inl c) W.W.held.dc, _, rfl, by rw [cals_is]; exact q⟩)
theorem a_notInCallers (T : Txt K mg Z) (W : Go Z H0 Hs G H L m) (h : Val tw σ H (.ref G.w)) {c : Int} (hk : Val tk σ H (.int c)) : Ans (tB (tDNotIn tk (tFld K tw "callers"))) σ H (!decide (inC c)) := fun Q q =>
  hk _ (v_callers T W h _ ⟨L.dc, _, rfl, DGet.k (k := Sum.inl c) W.W.held.dc, _, rfl, by rw [cals_is]; exact q⟩)
theorem a_inServers (T : Txt K mg Z) (W : Go Z H0 Hs G H L m) (h : Val tw σ H (.ref G.w)) {p : Int} (hk : Val tk σ H (.int p)) : Ans (tB (tDIn tk (tFld K tw "servers"))) σ H (decide (inS p)) := fun Q q =>
  hk _ (v_servers T W h _ ⟨L.ds, _, rfl, DGet.k (k := Sum.inl p) W.W.held.ds, _, rfl, by rw [srvs_is]; exact q⟩)
theorem a_notInServers (T : Txt K mg Z) (W : Go Z H0 Hs G H L m) (h : Val tw σ H (.ref G.w)) {p : Int} (hk : Val tk σ H (.int p)) : Ans (tB (tDNotIn tk (tFld K tw "servers"))) σ H (!decide (inS p)) := fun Q q =>
  hk _ (v_servers T W h _ ⟨L.ds, _, rfl, DGet.k (k := Sum.inl p) W.W.held.ds, _, rfl, by rw [srvs_is]; exact q⟩)
theorem v_notInServers (T : Txt K mg Z) (W : Go Z H0 Hs G H L m) (h : Val tw σ H (.ref G.w)) {p : Int} (hk : Val tk σ H (.int p)) : Val (tDNotIn tk (tFld K tw "servers")) σ H (.bl (!decide (inS p))) := fun Q q =>
  hk _ (v_servers T W h _ ⟨L.ds, _, rfl, DGet.k (k := Sum.inl p) W.W.held.ds, by rw [srvs_is]; exact q⟩)
theorem v_waiting (T : Txt K mg Z) (W : Go Z H0 Hs G H L m) {c : Int} (hc : inC c) (h : Val te σ H (.ref (G.cal c))) : Val (tFld K te "waiting") σ H (L.calW c) := val_fld h (W.cal hc) T.cC T.nC_waiting (cF_waiting _ _)
theorem v_waitingIs (T : Txt K mg Z) (W : Go Z H0 Hs G H L m) {c : Int} (hc : inC c) {v : V} (e : L.calW c = v) (h : Val te σ H (.ref (G.cal c))) : Val (tFld K te "waiting") σ H v := e ▸ v_waiting T W hc h
theorem v_came (T : Txt K mg Z) (W : Go Z H0 Hs G H L m) {c : Int} (hc : inC c) (h : Val te σ H (.ref (G.cal c))) : Val (tFld K te "came") σ H (.ref (G.came c)) := val_fld h (W.cal hc) T.cC T.nC_came (cF_came _ _)
theorem v_alive (T : Txt K mg Z) (W : Go Z H0 Hs G H L m) {p : Int} (hp : inS p) (h : Val te σ H (.ref (G.srv p))) : Val (tFld K te "alive") σ H (.bl (m.servers p).alive) := val_fld h (W.srv hp) T.cS T.nS_alive (sF_alive _ _ _ _)
theorem v_lives (T : Txt K mg Z) (W : Go Z H0 Hs G H L m) {p : Int} (hp : inS p) (h : Val te σ H (.ref (G.srv p))) : Val (tFld K te "lives") σ H (.int (m.servers p).lives) := val_fld h (W.srv hp) T.cS T.nS_lives (sF_lives _ _ _ _)
theorem v_total (T : Txt K mg Z) (W : Go Z H0 Hs G H L m) {p : Int} (hp : inS p) (h : Val te σ H (.ref (G.srv p))) : Val (tFld K te "total") σ H (.int (m.servers p).total) := val_fld h (W.srv hp) T.cS T.nS_total (sF_total _ _ _ _)
theorem v_asked (T : Txt K mg Z) (W : Go Z H0 Hs G H L m) {p : Int} (hp : inS p) (h : Val te σ H (.ref (G.srv p))) : Val (tFld K te "asked") σ H (.ref (L.ask p)) := val_fld h (W.srv hp) T.cS T.nS_asked (sF_asked _ _ _ _)
theorem v_later (T : Txt K mg Z) (W : Go Z H0 Hs G H L m) {p : Int} (hp : inS p) (h : Val te σ H (.ref (G.srv p))) : Val (tFld K te "later") σ H (.ref (L.lat p)) := val_fld h (W.srv hp) T.cS T.nS_later (sF_later _ _ _ _)
theorem v_watchers (T : Txt K mg Z) (W : Go Z H0 Hs G H L m) {p : Int} (hp : inS p) (h : Val te σ H (.ref (G.srv p))) : Val (tFld K te "watchers") σ H (.ref (L.wat p)) := val_fld h (W.srv hp) T.cS T.nS_watchers (sF_watchers _ _ _ _)
theorem v_sender (T : Txt K mg Z) {a dx t : Addr} {p q : Int} (ho : H a = some (.ins Z.L dx (lF p q t))) (h : Val te σ H (.ref a)) : Val (tFld K te "sender") σ H (.int p) := val_fld h ho T.cL T.nL_sender (lF_sender _ _ _)
theorem v_receiver (T : Txt K mg Z) {a dx t : Addr} {p q : Int} (ho : H a = some (.ins Z.L dx (lF p q t))) (h : Val te σ H (.ref a)) : Val (tFld K te "receiver") σ H (.int q) := val_fld h ho T.cL T.nL_receiver (lF_receiver _ _ _)
theorem v_told (T : Txt K mg Z) {a dx t : Addr} {p q : Int} (ho : H a = some (.ins Z.L dx (lF p q t))) (h : Val te σ H (.ref a)) : Val (tFld K te "told") σ H (.ref t) := val_fld h ho T.cL T.nL_told (lF_told _ _ _)
theorem v_number (T : Txt K mg Z) {a dx : Addr} {x : WaitM} (ho : H a = some (.ins Z.T dx (tF x))) (h : Val te σ H (.ref a)) : Val (tFld K te "number") σ H (.int x.number) := val_fld h ho T.cT T.nT_number (tF_number _)
theorem v_wserver (T : Txt K mg Z) {a dx : Addr} {x : WaitM} (ho : H a = some (.ins Z.T dx (tF x))) (h : Val te σ H (.ref a)) : Val (tFld K te "server") σ H (.int x.server) := val_fld h ho T.cT T.nT_server (tF_server _)
theorem v_ends (T : Txt K mg Z) {a dx : Addr} {x : WaitM} (ho : H a = some (.ins Z.T dx (tF x))) (h : Val te σ H (.ref a)) : Val (tFld K te "ends") σ H (.int x.ends) := val_fld h ho T.cT T.nT_ends (tF_ends _)
theorem v_over (T : Txt K mg Z) {a dx : Addr} {x : WaitM} (ho : H a = some (.ins Z.T dx (tF x))) (h : Val te σ H (.ref a)) : Val (tFld K te "over") σ H (.int x.over) := val_fld h ho T.cT T.nT_over (tF_over _)
/-- t[j] of a tuple of ints, j written -/
theorem v_ix {t : Addr} {xs : List Int} (h : Val te σ H (.ref t)) (ht : TupAt H t xs) {j : Nat} {x : Int} (hx : xs[j]? = some x) : Val (tOp (rIxT K) te (tC (.int (j : Int)))) σ H (.int x) :=
  val_op h val_c fun Q q => ⟨t, _, _, _, rfl, rfl, SqT.of ht, atI_nat (by rw [List.getElem?_map, hx]; rfl), q⟩
theorem v_add {a b : Int} {ta tb : TE} (ha : Val ta σ H (.int a)) (hb : Val tb σ H (.int b)) : Val (tOp (rI0 fun i j => .int (i + j)) ta tb) σ H (.int (a + b)) := val_op ha hb fun Q q => ⟨a, b, rfl, rfl, q⟩
theorem v_sub {a b : Int} {ta tb : TE} (ha : Val ta σ H (.int a)) (hb : Val tb σ H (.int b)) : Val (tOp (rI0 fun i j => .int (i - j)) ta tb) σ H (.int (a - b)) := val_op ha hb fun Q q => ⟨a, b, rfl, rfl, q⟩
theorem a_eqI {a b : Int} {ta tb : TE} (ha : Val ta σ H (.int a)) (hb : Val tb σ H (.int b)) : Ans (tTest (tOp rEq ta tb)) σ H (decide (a = b)) := ans_eq ha hb rfl (by
  by_cases e : a = b
  · subst e; simp
  · simp [e])
theorem a_neI {a b : Int} {ta tb : TE} (ha : Val ta σ H (.int a)) (hb : Val tb σ H (.int b)) : Ans (tTest (tOp rNe ta tb)) σ H (!decide (a = b)) := ans_ne ha hb rfl (by
  by_cases e : a = b
  · subst e; simp
  · simp [e])
def VA (ta : TA) (σ : L2.St) (H : Hp) (vs : List V) : Prop := ∀ Q : List V → Hp → Prop, Q vs H → ta σ H Q
theorem va_nil : VA tNil σ H [] := fun _ q => q
theorem va_cons {v : V} {vs : List V} {tr : TA} (h : Val te σ H v) (hr : VA tr σ H vs) : VA (tCons te tr) σ H (v :: vs) := fun _ q => h _ (hr _ q)
theorem va_tup {ta : TA} {vs : List V} (h : VA ta σ H vs) {Q : VK} (hl : vs.length ≤ 1000) (k : ∀ p, H p = none → Q (.ref p) (upd H p (.tup vs))) : tTup ta σ H Q := h _ ⟨Nat.le_trans hl (by decide), k⟩
theorem va_lst {ta : TA} {vs : List V} (h : VA ta σ H vs) (hl : vs.length ≤ 1000) {Q : VK} (k : ∀ p, H p = none → Q (.ref p) (upd H p (.lst vs))) : tLst ta σ H Q := h _ ⟨Nat.le_trans hl (by decide), k⟩
theorem va_call {ta : TA} {vs : List V} {sp : Sp} {E : XK} (h : VA ta σ H vs) {Q : VK} (k : sp vs H Q E) : tCall sp [] E ta σ H Q := h _ (by rw [List.append_nil]; exact k)
/-! ### 7b. What a piece asks, from its parts -/
variable {D : Ends} {Q : VK} {ta : TA} {vs : List V} {v : V} {i : Nat} {l : Addr} {xs : List V} {C : Addr} {sp : Sp} {E : XK}
theorem small {n : Nat} (h : n ≤ 8000000) : n < sizeLine := Nat.lt_of_le_of_lt h (by decide)
theorem putF_lt {f : Str} {v : V} : ∀ {fs : List (Str × V)} {n : Nat}, fs.length < n → (putF f v fs).length < n + 1
  | [], n, h => by show 1 < n + 1; omega
  | (g, x) :: r, n, h => by
    show (if g = f then (g, v) :: r else (g, x) :: putF f v r).length < n + 1
    split
    · exact Nat.lt_succ_of_lt h
    · have h' : r.length < n - 1 := by rw [List.length_cons] at h; omega
      have q := putF_lt (f := f) (v := v) h'
      rw [List.length_cons]
      omega
theorem b_drop (h : te σ H (fun _ H1 => D.nx σ H1)) : tDrop te D σ H := h
theorem b_set (h : te σ H (fun v H1 => D.nx (σ.set i (some v)) H1)) : tAsg te (gName i) D σ H := h
theorem b_ret (h : te σ H D.rt) : tRet te D σ H := h
theorem b_val (h : Val te σ H v) (k : Q v H) : te σ H Q := h Q k
theorem b_append (ho : Val tk σ H (.ref l)) (hl : H l = some (.lst xs)) (hz : xs.length ≤ 8000000) (hv : Val te σ H v) (k : Q .non (upd H l (.lst (xs ++ [v])))) : tBM K "list" rAppend tk (tCons te tNil) σ H Q :=
  ho _ ⟨.inl ⟨rfl, _, SqL.of hl⟩, hv _ ⟨l, xs, v, rfl, rfl, hl, small hz, k⟩⟩
theorem b_meth {r : V → List V → Hp → VK → Prop} (ho : Val tk σ H (.ref l)) (hl : H l = some (.lst xs)) (h : ta σ H fun ys H2 => r (.ref l) ys H2 Q) : tBM K "list" r tk ta σ H Q := ho _ ⟨.inl ⟨rfl, _, SqL.of hl⟩, h⟩
theorem b_cons1 {R : List V → Hp → Prop} (h : te σ H fun v H1 => R [v] H1) : tCons te tNil σ H R := h
theorem b_make (h : VA ta σ H vs) (k : ∀ x dx, H x = none → H dx = none → dx ≠ x → sp (.ref x :: vs) (upd (upd H dx (.own x)) x (.ins C dx [])) (fun v H2 => v = .non ∧ Q (.ref x) H2) E) : tMake C sp [] E ta σ H Q :=
  h _ fun x dx a b c => by
    rw [List.append_nil]
    exact k x dx a b c
theorem b_call4 {t1 t2 t3 t4 : TE} {v1 v2 v3 : V} (h1 : Val t1 σ H v1) (h2 : Val t2 σ H v2) (h3 : Val t3 σ H v3) (h4 : t4 σ H fun v4 H1 => sp [v1, v2, v3, v4] H1 Q E) : tCall sp [] E (tCons t1 (tCons t2 (tCons t3 (tCons t4 tNil)))) σ H Q := h1 _ (h2 _ (h3 _ h4))
theorem v_neg {i : Int} : Val (tUn (rU fun i => .int (-i)) (tC (.int i))) σ H (.int (-i)) := fun _ q => ⟨i, rfl, q⟩
theorem b_rapp {H2 : Hp} (hl : H2 l = some (.lst xs)) (hz : xs.length ≤ 8000000) (k : Q .non (upd H2 l (.lst (xs ++ [v])))) : rAppend (.ref l) [v] H2 Q := ⟨l, xs, v, rfl, rfl, hl, small hz, k⟩
end
end AO

set_option Elab.async false
set_option maxRecDepth 100000
set_option maxHeartbeats 7000000
set_option linter.unusedVariables false
namespace AO
open PySem L2
open Ha04 (Req Sig Came)
/-! ### 11. The promises, def by def -/
/-- the state is s' from here on -/
def Nx (Z : Cs) (H0 Hs : Hp) (G : Lay) (s' : Ha04.St) (Q : Hp → Prop) : Prop := ∀ H' L', Go Z H0 Hs G H' L' (rep s') → Q H'
def spLetter (Z : Cs) : Sp := fun vs H Q _ => ∃ (x dx : Addr) (p q : Int) (t : Addr), vs = [.ref x, .int p, .int q, .ref t] ∧ H x = some (.ins Z.L dx []) ∧ Q .non (upd H x (.ins Z.L dx (lF p q t)))
def spWait (Z : Cs) : Sp := fun vs H Q _ => ∃ (x dx : Addr) (y : WaitM), vs = [.ref x, .int y.number, .int y.server, .int y.ends, .int y.over] ∧ H x = some (.ins Z.T dx []) ∧ Q .non (upd H x (.ins Z.T dx (tF y)))
def spSend (Z : Cs) : Sp := fun vs H Q _ => ∃ (H0 Hs : Hp) (G L : Lay) (s : Ha04.St) (p q : Nat) (t : Addr) (x : Sig), vs = [.ref G.w, .int p, .int q, .ref t] ∧ Go Z H0 Hs G H L (rep s) ∧ s.air.length ≤ 7000000 ∧ TupAt H t (Ha04.ints (Ha04.sigTold x)) ∧
  ∀ H' a, Go Z H0 Hs G H' { L with airR := L.airR ++ [a] } (rep (Ha04.send s p q x)) → Q .non H'
theorem inC_of {c : Nat} (h : isC c) : inC (c : Int) := by unfold isC at h; unfold inC; omega
theorem inS_of {p : Nat} (h : isS p) : inS (p : Int) := by unfold isS at h; unfold inS; omega
section
variable {Z : Cs} {H0 H : Hp} {L : Lay} {s : Ha04.St}
theorem Wd.lenCame (W : Wd Z H0 H L (rep s)) {c : Nat} (hc : isC c) : (L.cameR c).length = (Ha04.caller s c).came.length := by
  rw [(W.held.came c (inC_of hc)).len, rep_caller s hc]
  exact List.length_map _
theorem Wd.lenAsk (W : Wd Z H0 H L (rep s)) {p : Nat} (hp : isS p) : (L.askR p).length = (Ha04.server s p).asked.length := by
  rw [(W.held.ask p (inS_of hp)).len, rep_server s hp]
  exact List.length_map _
theorem Wd.lenLat (W : Wd Z H0 H L (rep s)) {p : Nat} (hp : isS p) : (L.latR p).length = (Ha04.server s p).later.length := by
  rw [(W.held.lat p (inS_of hp)).len, rep_server s hp]
  exact List.length_map _
theorem Wd.lenWat (W : Wd Z H0 H L (rep s)) {p : Nat} (hp : isS p) : (L.watR p).length = (Ha04.server s p).watched.length := by
  rw [(W.held.wat p (inS_of hp)).len, rep_server s hp]
  exact List.length_map _
theorem Wd.lenAir (W : Wd Z H0 H L (rep s)) : L.airR.length = s.air.length := by
  rw [W.held.air.len]
  exact List.length_map _
end
section
variable {P : Program} {w : World} {K : PySem.W.Frag} {mg : Str → Option Value} {base : Heap} {Z : Cs}
theorem sc_Letter : FnScope ["self", "sender", "receiver", "told"] ["self", "sender", "receiver", "told"] (defScope s_Letter) := ⟨rfl, rfl, rfl, by decide +kernel, rfl, by decide +kernel, by decide +kernel⟩
theorem ok_Letter {f : Addr} {fd : FuncData} (F : Fun K "__init__" "Letter.__init__" s_Letter f fd) (T : Txt K mg Z) : FnOk P w K mg base CX0 1 f fd ["self", "sender", "receiver", "told"] (spLetter Z) := by
  refine F.ok sc_Letter (fun vs H Q E h => ?_) (fun cdv A outer s H vs Q E hr h => ?_)
  · obtain ⟨x, dx, p, q, t, rfl, _⟩ := h
    rfl
  · obtain ⟨x, dx, p, q, t, rfl, hx, k⟩ := h
    refine ⟨_, (pss_cons (ps_fld (pv 0) (pv 1) rfl)
    (pss_cons (ps_fld (pv 0) (pv 2) rfl)
    (pss_one (ps_fld (pv 0) (pv 3) rfl)))), ?_⟩
    refine st_seq (st_fld (val_var rfl) (val_var rfl) hx T.cL T.nL_sender (by decide) ?_)
    refine st_seq (st_fld (val_var rfl) (val_var rfl) upd_same T.cL T.nL_receiver (putF_lt (by decide)) ?_)
    refine st_fld (val_var rfl) (val_var rfl) upd_same T.cL T.nL_told (putF_lt (putF_lt (by decide))) ?_
    show Q _ _
    rw [upd_upd, upd_upd, lF_new]
    exact k
theorem sc_Wait : FnScope ["self", "number", "server", "ends", "over"] ["self", "number", "server", "ends", "over"] (defScope s_Wait) := ⟨rfl, rfl, rfl, by decide +kernel, rfl, by decide +kernel, by decide +kernel⟩
theorem ok_Wait {f : Addr} {fd : FuncData} (F : Fun K "__init__" "Wait.__init__" s_Wait f fd) (T : Txt K mg Z) : FnOk P w K mg base CX0 1 f fd ["self", "number", "server", "ends", "over"] (spWait Z) := by
  refine F.ok sc_Wait (fun vs H Q E h => ?_) (fun cdv A outer s H vs Q E hr h => ?_)
  · obtain ⟨x, dx, y, rfl, _⟩ := h
    rfl
  · obtain ⟨x, dx, y, rfl, hx, k⟩ := h
    refine ⟨_, (pss_cons (ps_fld (pv 0) (pv 1) rfl)
    (pss_cons (ps_fld (pv 0) (pv 2) rfl)
    (pss_cons (ps_fld (pv 0) (pv 3) rfl)
    (pss_one (ps_fld (pv 0) (pv 4) rfl))))), ?_⟩
    refine st_seq (st_fld (val_var rfl) (val_var rfl) hx T.cT T.nT_number (by decide) ?_)
    refine st_seq (st_fld (val_var rfl) (val_var rfl) upd_same T.cT T.nT_server (putF_lt (by decide)) ?_)
    refine st_seq (st_fld (val_var rfl) (val_var rfl) upd_same T.cT T.nT_ends (putF_lt (putF_lt (by decide))) ?_)
    refine st_fld (val_var rfl) (val_var rfl) upd_same T.cT T.nT_over (putF_lt (putF_lt (putF_lt (by decide)))) ?_
    show Q _ _
    rw [upd_upd, upd_upd, upd_upd, tF_new]
    exact k
theorem sc_send : FnScope ["world", "sender", "receiver", "told"] ["world", "sender", "receiver", "told"] (defScope s_send) := ⟨rfl, rfl, rfl, by decide +kernel, rfl, by decide +kernel, by decide +kernel⟩
theorem ok_send {f fL : Addr} {fd fdL : FuncData} (F : Fun K "send" "send" s_send f fd) (T : Txt K mg Z) (C_Letter : Mak P w K mg base 1 "Letter" ["self", "sender", "receiver", "told"] (spLetter Z) Z.L fL fdL) : FnOk P w K mg base CX0 3 f fd ["world", "sender", "receiver", "told"] (spSend Z) := by
  refine F.ok sc_send (fun vs H Q E h => ?_) (fun cdv A outer s0 H vs Q E hr h => ?_)
  · obtain ⟨H0, Hs, G, L, s, p, q, t, x, rfl, _⟩ := h
    rfl
  · obtain ⟨H0, Hs, G, L, s, p, q, t, x, rfl, W, hz, ht, k⟩ := h
    refine ⟨_, (pss_one (ps_expr (pe_bm PySem.F.plainAttrs_list PySem.F.slot_list_append PySem.F.type_list_append mt_append (pe_fld (pv 0) rfl) (pa_cons (pe_make C_Letter.M C_Letter.ok (hr.mono (by decide)) rfl C_Letter.g C_Letter.b .nil pass0 (pa_cons (pv 1) (pa_cons (pv 2) (pa_cons (pv 3) pa_nil)))) pa_nil)))), ?_⟩
    refine b_drop (b_meth (v_air T W (val_var rfl)) W.air (b_cons1 (b_make (va_cons (val_var rfl) (va_cons (val_var rfl) (va_cons (val_var rfl) va_nil))) fun a dx na ndx nex => ?_)))
    refine ⟨a, dx, p, q, t, rfl, upd_same, ⟨rfl, ?_⟩⟩
    rw [upd_upd]
    have s1 : Same H (upd (upd H dx (.own a)) a (.ins Z.L dx (lF p q t))) := (Same.new ndx).trans (Same.new (by rw [upd_ne nex.symm]; exact na))
    have W1 := W.mono s1
    refine b_rapp W1.air ?_ ?_
    · rw [refs_len, W.W.lenAir]
      omega
    · refine k _ a ?_
      rw [rep_send]
      exact W1.airPush (y := ((p : Int), (q : Int), Ha04.ints (Ha04.sigTold x))) ⟨dx, t, upd_same, s1 _ _ ht⟩
end
end AO

set_option Elab.async false
set_option maxRecDepth 100000
set_option maxHeartbeats 4000000
set_option linter.unusedVariables false
namespace AO
open PySem L2
open Ha04 (Req Sig Came)
section
variable {K : PySem.W.Frag} {σ : L2.St} {H : Hp} {te : TE} {D : Ends} {g : TG} {tb : TS} {a : Addr} {xs : List V}
theorem b_forEnum (hl : Val te σ H (.ref a)) (hx : SqL K H a xs) (Pv : Nat → L2.St → Hp → Prop) (h0 : Pv 0 σ H) (hG : ∀ i σ' H', i ≤ xs.length → Pv i σ' H' → SqL K H' a xs)
    (hs : ∀ (i : Nat) x σ' H' T, xs[i]? = some x → Pv i σ' H' → H' T = none → g (.ref T) σ' (upd H' T (.tup [.int (i : Int), x])) fun σ2 H2 => tb { D with nx := Pv (i + 1), ct := Pv (i + 1), bk := D.nx } σ2 H2)
    (hd : ∀ σ' H', Pv xs.length σ' H' → D.nx σ' H') : tFor (iEnum K (tCons te tNil)) g tb D σ H :=
  hl _ ⟨a, xs, rfl, hx, for_it walk_enum Pv h0 hG (fun i x σ' H' H'' hi p y => by
    obtain ⟨T, x1, y1, rfl, nT, rfl, e1, e2⟩ := y
    cases e1
    exact hs i y1 σ' H' T e2 p nT) hd⟩
theorem b_forList (hl : Val te σ H (.ref a)) (hx : SqL K H a xs) (Pv : Nat → L2.St → Hp → Prop) (h0 : Pv 0 σ H) (hG : ∀ i σ' H', i ≤ xs.length → Pv i σ' H' → SqL K H' a xs)
    (hs : ∀ (i : Nat) x σ' H', xs[i]? = some x → Pv i σ' H' → g x σ' H' fun σ2 H2 => tb { D with nx := Pv (i + 1), ct := Pv (i + 1), bk := D.nx } σ2 H2)
    (hd : ∀ σ' H', Pv xs.length σ' H' → D.nx σ' H') : tFor (iList K te) g tb D σ H :=
  hl _ ⟨a, rfl, ⟨xs, hx⟩, for_list Pv h0 hG hs hd⟩
end
theorem b_fldL {K : PySem.W.Frag} {σ : L2.St} {H : Hp} {ta : TE} {D : Ends} {f : Str} (h : ∀ q, H q = none → ∃ a C dx fs, Val ta σ (upd H q (.lst [])) (.ref a) ∧ (upd H q (.lst [])) a = some (.ins C dx fs) ∧ Cls K C ∧ NoAttr K C f ∧ fs.length < 1000 ∧ D.nx σ (upd (upd H q (.lst [])) a (.ins C dx (putF f (.ref q) fs)))) : sFld K ta (tLst tNil) f D σ H :=
  ⟨Nat.zero_le _, fun q nq => by
    obtain ⟨a, C, dx, fs, h1, h2, h3, h4, h5, h6⟩ := h q nq
    exact h1 _ ⟨a, C, dx, fs, rfl, h2, h3, h4, h5, h6⟩⟩
theorem map_get {α β : Type} {f : α → β} {l : List α} {i : Nat} {b : β} (h : (l.map f)[i]? = some b) : ∃ a, l[i]? = some a ∧ f a = b := by
  rw [List.getElem?_map] at h
  cases e : l[i]? with
  | none => rw [e] at h; cases h
  | some a => rw [e] at h; exact ⟨a, rfl, Option.some.inj h⟩
/-- one item more -/
theorem take_more {α : Type} : ∀ {l : List α} {i : Nat} {x : α}, l[i]? = some x → l.take (i + 1) = l.take i ++ [x]
  | [], i, x, h => by simp at h
  | a :: l, 0, x, h => by
    have e : a = x := Option.some.inj h
    subst e
    rfl
  | a :: l, i + 1, x, h => by
    have ih := take_more (l := l) (i := i) (x := x) h
    show a :: l.take (i + 1) = a :: l.take i ++ [x]
    rw [ih]
    rfl
/-- the i-th letter on its way -/
theorem Wd.letter {Z : Cs} {H0 H : Hp} {L : Lay} {s : Ha04.St} (W : Wd Z H0 H L (rep s)) {i : Nat} {x : V} (h : (refs L.airR)[i]? = some x) : ∃ a y, x = .ref a ∧ L.airR[i]? = some a ∧ s.air[i]? = some y ∧ LetterAt Z H a (repL y) := by
  obtain ⟨a, ha, rfl⟩ := map_get h
  obtain ⟨b, hb, r⟩ := W.held.air.get1 ha
  obtain ⟨y, hy, rfl⟩ := map_get (show (s.air.map repL)[i]? = some b from hb)
  exact ⟨a, y, rfl, ha, hy, r⟩
def spFirst (Z : Cs) : Sp := fun vs H Q _ => ∃ (H0 Hs : Hp) (G L : Lay) (s : Ha04.St) (p q : Nat), vs = [.ref G.w, .int p, .int q] ∧ Go Z H0 Hs G H L (rep s) ∧
  ∀ H', Same H H' → Q (.int (match Ha04.firstOf s p q with | none => -1 | some i => (i : Int))) H'
def spComes (Z : Cs) : Sp := fun vs H Q _ => ∃ (H0 Hs : Hp) (G L : Lay) (s : Ha04.St) (c how v : Nat) (x : Nat × Nat × Option Nat), vs = [.ref G.w, .int c, .int how, .int v] ∧ Go Z H0 Hs G H L (rep s) ∧ Good s ∧ sz s ≤ 3000000 ∧ isC c ∧ (Ha04.caller s c).waits = some x ∧
  Nx Z H0 Hs G (Ha04.comes s c x.1 how v) (Q .non)
def spDies (Z : Cs) : Sp := fun vs H Q _ => ∃ (H0 Hs : Hp) (G L : Lay) (s : Ha04.St) (p : Nat), vs = [.ref G.w, .int p] ∧ Go Z H0 Hs G H L (rep s) ∧ Good s ∧ sz s ≤ 3000000 ∧ isS p ∧
  Nx Z H0 Hs G (Ha04.dies s p) (Q .non)
theorem repW_some {w : Nat × Nat × Option Nat} : ∃ x, repW (some w) = some x ∧ x.number = w.1 ∧ x.server = w.2.1 := by
  obtain ⟨n, p, o⟩ := w
  cases o with
  | none => exact ⟨_, rfl, rfl, rfl⟩
  | some t => exact ⟨_, rfl, rfl, rfl⟩
theorem eq_nat {a b : Nat} : (decide ((a : Int) = (b : Int))) = (a == b) := by
  by_cases h : a = b
  · subst h; simp
  · have : ¬ ((a : Int) = (b : Int)) := by omega
    simp [h, this]
section
variable {P : Program} {w : World} {K : PySem.W.Frag} {mg : Str → Option Value} {base : Heap} {Z : Cs}
theorem sc_first_on_its_way : FnScope ["world", "sender", "receiver", "place", "letter"] ["world", "sender", "receiver"] (defScope s_first_on_its_way) := ⟨rfl, rfl, rfl, by decide +kernel, rfl, by decide +kernel, by decide +kernel⟩
theorem ok_first {f : Addr} {fd : FuncData} (F : Fun K "first_on_its_way" "first_on_its_way" s_first_on_its_way f fd) (T : Txt K mg Z) : FnOk P w K mg base CX0 1 f fd ["world", "sender", "receiver"] (spFirst Z) := by
  refine F.ok sc_first_on_its_way (fun vs H Q E h => ?_) (fun cdv A outer s0 H vs Q E hr h => ?_)
  · obtain ⟨H0, Hs, G, L, s, p, q, rfl, _⟩ := h
    rfl
  · obtain ⟨H0, Hs, G, L, s, p, q, rfl, W, k⟩ := h
    refine ⟨_, (pss_cons (ps_for PassesOwn.never rfl (pi_enum (by rfl) T.enumerate (pa_cons (pe_fld (pv 0) rfl) pa_nil)) (pg_tup rfl (pgs_cons (pg_name (i := 3) sc_first_on_its_way.nd rfl (Or.inl rfl)) (pgs_cons (pg_name (i := 4) sc_first_on_its_way.nd rfl (Or.inl rfl)) pgs_nil)))
      (pss_one (ps_if (PW.pt (pw_and (pt_cmpR op_eq (pe_fld (pv 4) rfl) (pv 1) (nomark _)) (pw_and1 (pt_cmpR op_eq (pe_fld (pv 4) rfl) (pv 2) (nomark _)))))
      (pss_one (ps_ret (pv 3)))
      pss_nil)))
    (pss_one (ps_ret (pe_un un_neg pe_int)))), ?_⟩
    refine st_seq (b_forEnum (v_air T W (val_var rfl)) (SqL.of W.air) (fun i σ H' => ∃ v3 v4, σ = [some (.ref G.w), some (.int p), some (.int q), v3, v4] ∧ Same H H' ∧ ∀ j y, j < i → s.air[j]? = some y → (y.1 == p && y.2.1 == q) = false)
      ⟨none, none, rfl, Same.refl H, fun j y h => absurd h (Nat.not_lt_zero j)⟩ (fun i σ' H' _ ⟨_, _, _, s1, _⟩ => SqL.of (s1 _ _ W.air)) ?_ ?_)
    · rintro i x σ' H' t hx ⟨v3, v4, rfl, s1, hn⟩ nt
      obtain ⟨a, y, rfl, ha, hy, dx, t1, hl, ht⟩ := W.W.letter hx
      have s2 : Same H (upd H' t (.tup [.int (i : Int), .ref a])) := s1.trans (Same.new nt)
      refine ⟨t, _, rfl, SqT.of upd_same, rfl, _, _, rfl, _, _, rfl, rfl, ?_⟩
      have hl2 := s2 _ _ hl
      by_cases c : (y.1 == p && y.2.1 == q) = true
      · refine st_yes (Ans.to (ans_and2 (a_eqI (v_sender T hl2 (val_var rfl)) (val_var rfl)) (a_eqI (v_receiver T hl2 (val_var rfl)) (val_var rfl))) (b' := true) ?_) ?_
        · show (decide ((y.1 : Int) = (p : Int)) && decide ((y.2.1 : Int) = (q : Int))) = true
          rw [eq_nat, eq_nat]
          exact c
        · refine st_ret (val_var rfl) ?_
          have e : Ha04.firstOf s p q = some i := by
            unfold Ha04.firstOf
            obtain ⟨hi, ei⟩ := List.getElem?_eq_some_iff.mp hy
            refine List.findIdx?_eq_some_iff_getElem.mpr ⟨hi, by rw [ei]; exact c, fun j hj => ?_⟩
            have := hn j _ hj (List.getElem?_eq_getElem (Nat.lt_trans hj hi))
            rw [this]
            exact Bool.false_ne_true
          have := k _ s2
          rw [e] at this
          exact this
      · refine st_no (Ans.to (ans_and2 (a_eqI (v_sender T hl2 (val_var rfl)) (val_var rfl)) (a_eqI (v_receiver T hl2 (val_var rfl)) (val_var rfl))) (b' := false) ?_) ?_
        · show (decide ((y.1 : Int) = (p : Int)) && decide ((y.2.1 : Int) = (q : Int))) = false
          rw [eq_nat, eq_nat]
          exact Bool.eq_false_iff.mpr c
        · refine ⟨_, _, rfl, s2, fun j z hj hz => ?_⟩
          by_cases e : j < i
          · exact hn j z e hz
          · have e : j = i := by omega
            subst e
            rw [hy] at hz
            cases hz
            exact Bool.eq_false_iff.mpr c
    · rintro σ' H' ⟨v3, v4, rfl, s1, hn⟩
      refine st_ret (σ := [some (.ref G.w), some (.int p), some (.int q), v3, v4]) v_neg ?_
      have e : Ha04.firstOf s p q = none := by
        unfold Ha04.firstOf
        refine List.findIdx?_eq_none_iff.mpr fun y hy => ?_
        obtain ⟨j, hj, e⟩ := List.mem_iff_getElem.mp hy
        refine hn j y ?_ (by rw [List.getElem?_eq_getElem hj, e])
        have h1 := W.W.held.air.len
        rw [refs_len, h1]
        show j < (s.air.map repL).length
        rw [List.length_map]
        exact hj
      have := k _ s1
      rw [e] at this
      exact this
theorem sc_comes_back : FnScope ["world", "c", "how", "answer", "caller", "wait"] ["world", "c", "how", "answer"] (defScope s_comes_back) := ⟨rfl, rfl, rfl, by decide +kernel, rfl, by decide +kernel, by decide +kernel⟩
theorem ok_comes {f fS : Addr} {fd fdS : FuncData} (F : Fun K "comes_back" "comes_back" s_comes_back f fd) (T : Txt K mg Z) (G_send : Cal P w K mg base 3 "send" ["world", "sender", "receiver", "told"] (spSend Z) fS fdS) : FnOk P w K mg base CX0 4 f fd ["world", "c", "how", "answer"] (spComes Z) := by
  refine F.ok sc_comes_back (fun vs H Q E h => ?_) (fun cdv A outer s0 H vs Q E hr h => ?_)
  · obtain ⟨H0, Hs, G, L, s, c, how, v, x, rfl, _⟩ := h
    rfl
  · obtain ⟨H0, Hs, G, L, s, c, how, v, y, rfl, W, g, hz, hc, hw, k⟩ := h
    have hC := inC_of hc
    obtain ⟨x, ex, en, es⟩ := repW_some (w := y)
    obtain ⟨aw, dw, eW, hA⟩ : ∃ aw dw, L.calW (c : Int) = .ref aw ∧ H aw = some (.ins Z.T dw (tF x)) := by
      have h1 := W.W.held.wait c hC
      rw [rep_caller s hc] at h1
      have h2 : WaitAt Z H (L.calW (c : Int)) (repW (Ha04.caller s c).waits) := h1
      rw [hw, ex] at h2
      exact h2
    refine ⟨_, (pss_cons (ps_set (i := 4) sc_comes_back.nd rfl (Or.inl rfl) (pe_dget (hu_of hr) (pe_fld (pv 0) rfl) (pv 1) (fun _ _ => rfl)))
    (pss_cons (ps_set (i := 5) sc_comes_back.nd rfl (Or.inl rfl) (pe_fld (pv 4) rfl))
    (pss_cons (ps_expr (pe_bm PySem.F.plainAttrs_list PySem.F.slot_list_append PySem.F.type_list_append mt_append (pe_fld (pv 4) rfl) (pa_cons (pe_tup (pa_cons (pe_fld (pv 5) rfl) (pa_cons (pv 2) (pa_cons (pv 3) pa_nil)))) pa_nil)))
    (pss_cons (ps_fld (pv 4) pe_non rfl)
    (pss_one (ps_if (pt_cmpR op_ne (pv 2) (pe_gi T.k_CAME_GONE rfl) (nomark _))
      (pss_one (ps_expr (pe_call G_send.ok (hr.mono (by decide)) rfl G_send.g G_send.kp G_send.b .nil pass0 (pa_cons (pv 0) (pa_cons (pv 1) (pa_cons (pe_fld (pv 5) rfl) (pa_cons (pe_tup (pa_cons (pe_gi T.k_UNWATCH rfl) (pa_cons (pe_fld (pv 5) rfl) pa_nil))) pa_nil)))))))
      pss_nil)))))), ?_⟩
    refine st_seq (st_set (v_caller T W (val_var rfl) hC (val_var rfl)) ?_)
    refine st_seq (st_set (v_waitingIs T W hC eW (val_var rfl)) ?_)
    refine st_seq (b_drop (b_meth (v_came T W hC (val_var rfl)) (W.came hC) (b_cons1 (va_tup (va_cons (v_number T hA (val_var rfl)) (va_cons (val_var rfl) (va_cons (val_var rfl) va_nil))) (by show 3 ≤ 1000; decide) fun t nt => ?_))))
    have W1 := W.new (o := .tup [.int x.number, .int how, .int v]) nt
    have ht : TupAt (upd H t (.tup [.int x.number, .int how, .int v])) t (repA ⟨y.1, how, v⟩) := by
      show _ = some (HO.tup [V.int ((y.1 : Nat) : Int), V.int how, V.int v])
      rw [← en]
      exact upd_same
    have hA1 := Same.new (o := .tup [.int x.number, .int how, .int v]) nt _ _ hA
    refine b_rapp (W1.came hC) ?_ ?_
    · rw [refs_len, W.W.lenCame hc]
      have := sz_came (s := s) hc
      omega
    · have hA2 := (W1.W.keep (k := .came c) hC (o := .lst (refs (L.cameR c) ++ [.ref t]))) _ _ hA1 (.inr rfl)
      rw [show L.pl (.came c) = G.came c from congrFun W1.fx.came c] at hA2
      obtain ⟨L2, W2⟩ := W1.camePush hC ht
      refine st_seq (st_fld val_c (val_var rfl) (W2.cal hC) T.cC T.nC_waiting (by show 2 < 1000; decide) ?_)
      have hA3 := (W2.W.keep (k := .cal c) hC (o := .ins Z.C (L2.calD c) (putF "waiting" .non (cF (L2.calW c) (G.came c))))) _ _ hA2 (.inr rfl)
      rw [show L2.pl (.cal c) = G.cal c from congrFun W2.fx.cal c] at hA3
      obtain ⟨L3, W3⟩ := W2.setWait hC (v := .non) (x := none) rfl
      have W4 := W3.cast (rep_comes g hc ⟨y.1, how, v⟩)
      have ek := comes_is (how := how) (v := v) hw rfl
      by_cases e1 : how = 1
      · refine st_no (Ans.to (a_neI (val_var rfl) val_c) (by show (!decide ((how : Int) = 1)) = false; rw [decide_eq_true (by omega)]; rfl)) ?_
        rw [ek, if_pos e1] at k
        exact k _ _ W4
      · refine st_yes (Ans.to (a_neI (val_var rfl) val_c) (by show (!decide ((how : Int) = 1)) = true; rw [decide_eq_false (by omega)]; rfl)) ?_
        rw [ek, if_neg e1] at k
        refine b_drop (b_call4 (val_var rfl) (val_var rfl) (v_wserver T hA3 (val_var rfl)) (va_tup (va_cons val_c (va_cons (v_number T hA3 (val_var rfl)) va_nil)) (by show 2 ≤ 1000; decide) fun t4 n4 => ?_))
        have W5 := W4.new (o := .tup [.int 2, .int x.number]) n4
        refine ⟨H0, Hs, G, _, _, c, y.2.1, t4, .unwatch y.1, ?_, W5, ?_, ?_, fun H' a W6 => k _ _ W6⟩
        · rw [es]
        · show s.air.length ≤ _
          have := sz_air (s := s)
          omega
        · show _ = some (HO.tup [V.int 2, V.int ((y.1 : Nat) : Int)])
          rw [← en]
          exact upd_same
theorem sc_dies : FnScope ["world", "p", "server", "watcher"] ["world", "p"] (defScope s_dies) := ⟨rfl, rfl, rfl, by decide +kernel, rfl, by decide +kernel, by decide +kernel⟩
theorem ok_dies {f fS : Addr} {fd fdS : FuncData} (F : Fun K "dies" "dies" s_dies f fd) (T : Txt K mg Z) (G_send : Cal P w K mg base 3 "send" ["world", "sender", "receiver", "told"] (spSend Z) fS fdS) : FnOk P w K mg base CX0 4 f fd ["world", "p"] (spDies Z) := by
  refine F.ok sc_dies (fun vs H Q E h => ?_) (fun cdv A outer s0 H vs Q E hr h => ?_)
  · obtain ⟨H0, Hs, G, L, s, p, rfl, _⟩ := h
    rfl
  · obtain ⟨H0, Hs, G, L, s, p, rfl, W, g, hz, hp, k⟩ := h
    have hS := inS_of hp
    refine ⟨_, (pss_cons (ps_set (i := 2) sc_dies.nd rfl (Or.inl rfl) (pe_dget (hu_of hr) (pe_fld (pv 0) rfl) (pv 1) (fun _ _ => rfl)))
    (pss_cons (ps_for PassesOwn.never rfl (pi_list (pe_fld (pv 2) rfl)) (pg_name (i := 3) sc_dies.nd rfl (Or.inl rfl))
      (pss_one (ps_expr (pe_call G_send.ok (hr.mono (by decide)) rfl G_send.g G_send.kp G_send.b .nil pass0 (pa_cons (pv 0) (pa_cons (pv 1) (pa_cons (pe_ix ix_tup (pv 3) pe_int (fun _ _ => rfl)) (pa_cons (pe_tup (pa_cons (pe_gi T.k_GONE rfl) (pa_cons (pe_ix ix_tup (pv 3) pe_int (fun _ _ => rfl)) pa_nil))) pa_nil))))))))
    (pss_cons (ps_fld (pv 2) pe_bl rfl)
    (pss_cons (ps_fld (pv 2) (pe_lst pa_nil) rfl)
    (pss_cons (ps_fld (pv 2) (pe_lst pa_nil) rfl)
    (pss_one (ps_fld (pv 2) (pe_lst pa_nil) rfl))))))), ?_⟩
    refine st_seq (st_set (v_server T W (val_var rfl) hS (val_var rfl)) ?_)
    have hwl := sz_wat (s := s) hp
    have hal := sz_air (s := s)
    refine st_seq (b_forList (v_watchers T W hS (val_var rfl)) (SqL.of (W.wat hS)) (fun i σ H' => ∃ v3 R, σ = [some (.ref G.w), some (.int p), some (.ref (G.srv p)), v3] ∧ Go Z H0 Hs G H' { L with airR := R } (rep { s with air := s.air ++ ((Ha04.server s p).watched.take i).map fun y => (p, y.1, Sig.gone y.2) }))
      ⟨none, L.airR, rfl, W.cast (by rw [List.take_zero, List.map_nil, List.append_nil])⟩ (fun i σ' H' _ ⟨_, _, _, W1⟩ => SqL.of (W1.wat hS)) ?_ ?_)
    · rintro i x σ' H' hx ⟨v3, R, rfl, W1⟩
      obtain ⟨a, ha, rfl⟩ := map_get hx
      obtain ⟨b, hb, hta⟩ := (W1.W.held.wat p hS).get1 ha
      have hb' : ((Ha04.server s p).watched.map repP)[i]? = some b := by
        have e : ((rep { s with air := s.air ++ ((Ha04.server s p).watched.take i).map fun y => (p, y.1, Sig.gone y.2) }).servers (p : Int)).watchers = (Ha04.server s p).watched.map repP := by
          rw [rep_server _ hp]
          rfl
        rw [← e]
        exact hb
      obtain ⟨y, hy, rfl⟩ := map_get hb'
      refine b_drop (b_call4 (val_var rfl) (val_var rfl) (v_ix (j := 0) (val_var rfl) hta rfl) (va_tup (va_cons val_c (va_cons (v_ix (j := 1) (val_var rfl) hta rfl) va_nil)) (by show 2 ≤ 1000; decide) fun t4 n4 => ?_))
      have W2 := W1.new (o := .tup [.int 4, .int y.2]) n4
      refine ⟨H0, Hs, G, { L with airR := R }, _, p, y.1, t4, .gone y.2, rfl, W2, ?_, upd_same, fun H2 a2 W3 => ⟨_, R ++ [a2], rfl, W3.cast ?_⟩⟩
      · show (s.air ++ _).length ≤ _
        rw [List.length_append, List.length_map, List.length_take]
        omega
      · refine congrArg rep ?_
        show ({ s with air := (s.air ++ ((Ha04.server s p).watched.take i).map fun y => (p, y.1, Sig.gone y.2)) ++ [(p, y.1, Sig.gone y.2)] } : Ha04.St) = _
        rw [take_more hy, List.map_append, List.append_assoc]
        rfl
    · rintro σ' H' ⟨v3, R, rfl, W1⟩
      have hlen : (refs (L.watR p)).length = (Ha04.server s p).watched.length := by rw [refs_len, W.W.lenWat hp]
      rw [hlen, List.take_length] at W1
      obtain ⟨s1, es1⟩ : ∃ s1 : Ha04.St, s1 = { s with air := s.air ++ (Ha04.server s p).watched.map fun y => (p, y.1, Sig.gone y.2) } := ⟨_, rfl⟩
      rw [← es1] at W1
      obtain ⟨L1, eL1⟩ : ∃ L1 : Lay, L1 = { L with airR := R } := ⟨_, rfl⟩
      rw [← eL1] at W1
      dsimp only
      refine st_seq (st_fld val_c (val_var rfl) (W1.srv hS) T.cS T.nS_alive (by show 6 < 1000; decide) ?_)
      have W2 := W1.setSrv hS (x := { (rep s1).servers p with alive := false }) rfl rfl rfl (sF_putAlive _ _ _ _ _)
      dsimp only
      refine st_seq (b_fldL fun q nq => ⟨_, _, _, _, val_var rfl, (W2.new nq).srv hS, T.cS, T.nS_asked, (by show 6 < 1000; decide), ?_⟩)
      obtain ⟨L3, W3⟩ := W2.newAsk hS (r := []) (ys := []) trivial nq
      dsimp only
      refine st_seq (b_fldL fun r nr => ⟨_, _, _, _, val_var rfl, (W3.new nr).srv hS, T.cS, T.nS_later, (by show 6 < 1000; decide), ?_⟩)
      obtain ⟨L4, W4⟩ := W3.newLat hS (r := []) (ys := []) trivial nr
      dsimp only
      refine b_fldL fun t nt => ⟨_, _, _, _, val_var rfl, (W4.new nt).srv hS, T.cS, T.nS_watchers, (by show 6 < 1000; decide), ?_⟩
      obtain ⟨L5, W5⟩ := W4.newWat hS (r := []) (ys := []) trivial nt
      refine k _ L5 (W5.cast ?_)
      simp only [setS_setS, M.setS_at]
      rw [rep_server _ hp]
      have e6 : Ha04.dies s p = Ha04.setServer s1 p { Ha04.server s p with lives := false, asked := [], later := [], watched := [] } := by
        rw [es1]
        rfl
      rw [e6, rep_setS (by rw [es1]; exact g.ls) hp]
      rw [es1]
      rfl
end
end AO

set_option Elab.async false
set_option maxRecDepth 100000
set_option maxHeartbeats 4000000
set_option linter.unusedVariables false
namespace AO
open PySem L2
open Ha04 (Req Sig Came)
/-! ### 12. What arrives -/
theorem Go.re {Z : Cs} {H0 Hs H : Hp} {G L : Lay} {m : M} (g : Go Z H0 Hs G H L m) : Go Z H0 H G H L m := ⟨g.W, g.fx, KeepI.refl H⟩
theorem Go.back {Z : Cs} {H0 Hs H H' : Hp} {G L L' : Lay} {m m' : M} (g : Go Z H0 Hs G H L m) (g' : Go Z H0 H G H' L' m') : Go Z H0 Hs G H' L' m' := ⟨g'.W, g'.fx, g.k.trans g'.k⟩
/-- the items of whose fellows P holds -/
def filt {β : Type} (P : β → Bool) : List Addr → List β → List Addr
  | a :: r, y :: s => if P y then a :: filt P r s else filt P r s
  | _, _ => []
theorem filt_snoc {β : Type} {P : β → Bool} {a : Addr} {y : β} : ∀ {r : List Addr} {s : List β}, r.length = s.length → filt P (r ++ [a]) (s ++ [y]) = filt P r s ++ if P y then [a] else []
  | [], [], _ => by
    show (if P y then [a] else []) = _
    rfl
  | b :: r, z :: s, h => by
    have ih := filt_snoc (P := P) (a := a) (y := y) (r := r) (s := s) (by simpa using h)
    show (if P z then b :: filt P (r ++ [a]) (s ++ [y]) else filt P (r ++ [a]) (s ++ [y])) = (if P z then b :: filt P r s else filt P r s) ++ _
    rw [ih]
    split <;> rfl
  | [], _ :: _, h => by simp at h
  | _ :: _, [], h => by simp at h
theorem filt_all {β : Type} {P : β → Bool} {R : Addr → List Int → Prop} {f : β → List Int} : ∀ {r : List Addr} {s : List β}, All2 R r (s.map f) → All2 R (filt P r s) ((s.filter P).map f)
  | [], [], _ => trivial
  | a :: r, y :: s, h => by
    have ih := filt_all (P := P) (r := r) (s := s) h.2
    show All2 R (if P y then a :: filt P r s else filt P r s) (((y :: s).filter P).map f)
    rw [List.filter_cons]
    split
    · exact ⟨h.1, ih⟩
    · exact ih
  | [], _ :: _, h => h.elim
  | _ :: _, [], h => h.elim
theorem filt_len {β : Type} {P : β → Bool} : ∀ {r : List Addr} {s : List β}, (filt P r s).length ≤ r.length
  | [], [] => Nat.le_refl _
  | a :: r, y :: s => by
    have ih := filt_len (P := P) (r := r) (s := s)
    show (if P y then a :: filt P r s else filt P r s).length ≤ r.length + 1
    split
    · exact Nat.succ_le_succ ih
    · omega
  | [], _ :: _ => Nat.le_refl _
  | _ :: _, [] => Nat.zero_le _
section
variable {K : PySem.W.Frag} {σ : L2.St} {H : Hp} {te : TE} {Q : VK}
theorem b_slT1 {t : Addr} {y : Int} {ys : List Int} (h : Val te σ H (.ref t)) (ht : TupAt H t (y :: ys)) (k : ∀ p, H p = none → Q (.ref p) (upd H p (.tup (ys.map V.int)))) : tSl (rSlT K) te (tPart (tC (.int 1))) tNoPart σ H Q := by
  refine h _ ⟨1, rfl, t, _, rfl, SqT.of ht, fun e => ?_, fun p np => ?_⟩
  · have e1 : HT.sIx ((y :: ys).map V.int).length 0 (some ((1 : Nat) : Int)) = 0 := e.1
    rw [HT.sIx_nat, List.length_map, List.length_cons] at e1
    omega
  · have e : cutV ((y :: ys).map V.int) (some ((1 : Nat) : Int)) none = ys.map V.int := by
      unfold cutV
      rw [HT.sIx_nat, HT.sIx_none, List.length_map, List.length_cons, Nat.min_eq_left (by omega)]
      show (List.drop 1 (V.int y :: ys.map V.int)).take (ys.length + 1 - 1) = _
      rw [List.drop_succ_cons, List.drop_zero, Nat.add_sub_cancel]
      exact List.take_of_length_le (by rw [List.length_map]; exact Nat.le_refl _)
    have k1 := k p np
    rw [← e] at k1
    exact k1
theorem eqv_two {a b c d : Int} : PyData.eqv (.tuple [.int a, .int b]) (.tuple [.int c, .int d]) = (decide (a = c) && decide (b = d)) := by
  simp only [PyData.eqv, PyData.eqvAll, Bool.and_true]
  rfl
theorem a_ne2 {ta tb : TE} {x y : Addr} {a b c d : Int} (ha : Val ta σ H (.ref x)) (hb : Val tb σ H (.ref y)) (hx : TupAt H x [a, b]) (hy : TupAt H y [c, d]) : Ans (tTest (tOp (rNeD K) ta tb)) σ H (!(decide (a = c) && decide (b = d))) := by
  refine ans_cmp ha hb fun Q q => ⟨.tuple [.int a, .int b], .tuple [.int c, .int d], .tup (SqT.of hx) (.cons (.int _) (.cons (.int _) .nil)), .tup (SqT.of hy) (.cons (.int _) (.cons (.int _) .nil)), rfl, rfl, ?_⟩
  rw [eqv_two]
  exact q
end
section
variable {K : PySem.W.Frag} {σ : L2.St} {H : Hp} {ta tv tl te : TE} {D : Ends} {f : Str} {Q : VK} {a : Addr} {xs : List V} {g : TG} {tt : TT} {vs : List Nat}
theorem b_fldV (h : tv σ H fun y H1 => ta σ H1 fun x H2 => ∃ a C dx fs, x = .ref a ∧ H2 a = some (.ins C dx fs) ∧ Cls K C ∧ NoAttr K C f ∧ fs.length < 1000 ∧ D.nx σ (upd H2 a (.ins C dx (putF f y fs)))) : sFld K ta tv f D σ H := h
theorem b_lc (hl : Val tl σ H (.ref a)) (hx : SqL K H a xs) (Pv : Addr → Nat → Hp → Prop) (h0 : ∀ D, H D = none → Pv D 0 (upd H D (.lst []))) (hG : ∀ D i H', i ≤ xs.length → Pv D i H' → SqL K H' a xs)
    (hs : ∀ D, H D = none → ∀ i x H', xs[i]? = some x → Pv D i H' → g x (wipe σ vs) H' fun σ2 H2 => wipe σ2 vs = wipe σ vs ∧ tt σ2 H2 fun b H3 => if b = true then te σ2 H3 fun y H4 => ∃ acc, H4 D = some (.lst acc) ∧ acc.length < sizeLine ∧ Pv D (i + 1) (upd H4 D (.lst (acc ++ [y]))) else Pv D (i + 1) H3)
    (hd : ∀ D, H D = none → ∀ H', Pv D xs.length H' → Q (.ref D) H') : tLc (iList K tl) g tt te vs σ H Q := hl _ ⟨a, rfl, ⟨xs, hx⟩, fun D nD => lc_list (Pv D) (h0 D nD) (hG D) (hs D nD) (hd D nD)⟩
theorem if_pos_of {c : Bool} {A B : Prop} (hc : c = true) (h : A) : if c = true then A else B := by
  rw [if_pos hc]
  exact h
theorem if_neg_of {c : Bool} {A B : Prop} (hc : c = false) (h : B) : if c = true then A else B := by
  rw [hc, if_neg Bool.false_ne_true]
  exact h
end
def spArr (Z : Cs) (C : Nat → Sig → Prop) : Sp := fun vs H Q _ => ∃ (H0 Hs : Hp) (G L : Lay) (s : Ha04.St) (a : Addr) (p q : Nat) (x : Sig), vs = [.ref G.w, .ref a] ∧ Go Z H0 Hs G H L (rep s) ∧ Good s ∧ sz s ≤ 2900000 ∧ LetterAt Z H a (repL (p, q, x)) ∧ okX p q x ∧ C q x ∧
  Nx Z H0 Hs G (Ha04.arrives s p q x) (Q .non)
def isWatch (_ : Nat) : Sig → Prop
  | .watch _ => True
  | _ => False
section
variable {P : Program} {w : World} {K : PySem.W.Frag} {mg : Str → Option Value} {base : Heap} {Z : Cs}
theorem sc_watch_arrives : FnScope ["world", "letter", "server", "number"] ["world", "letter"] (defScope s_watch_arrives) := ⟨rfl, rfl, rfl, by decide +kernel, rfl, by decide +kernel, by decide +kernel⟩
theorem ok_watch {f fS : Addr} {fd fdS : FuncData} (F : Fun K "watch_arrives" "watch_arrives" s_watch_arrives f fd) (T : Txt K mg Z) (G_send : Cal P w K mg base 3 "send" ["world", "sender", "receiver", "told"] (spSend Z) fS fdS) : FnOk P w K mg base CX0 4 f fd ["world", "letter"] (spArr Z isWatch) := by
  refine F.ok sc_watch_arrives (fun vs H Q E h => ?_) (fun cdv A outer s0 H vs Q E hr h => ?_)
  · obtain ⟨H0, Hs, G, L, s, a, p, q, x, rfl, _⟩ := h
    rfl
  · obtain ⟨H0, Hs, G, L, s, a, p, q, x, rfl, W, g, hz, ⟨dx, t, hl, ht⟩, ok, hx, k⟩ := h
    cases x with
    | watch n =>
      have hq : isS q := ok.2
      have hS := inS_of hq
      have eal := congrArg ServerM.alive (rep_server s hq)
      refine ⟨_, (pss_cons (ps_set (i := 2) sc_watch_arrives.nd rfl (Or.inl rfl) (pe_dget (hu_of hr) (pe_fld (pv 0) rfl) (pe_fld (pv 1) rfl) (fun _ _ => rfl)))
    (pss_cons (ps_set (i := 3) sc_watch_arrives.nd rfl (Or.inl rfl) (pe_ix ix_tup (pe_fld (pv 1) rfl) pe_int (fun _ _ => rfl)))
    (pss_one (ps_if (pt_val (pe_fld (pv 2) rfl))
      (pss_one (ps_expr (pe_bm PySem.F.plainAttrs_list PySem.F.slot_list_append PySem.F.type_list_append mt_append (pe_fld (pv 2) rfl) (pa_cons (pe_tup (pa_cons (pe_fld (pv 1) rfl) (pa_cons (pv 3) pa_nil))) pa_nil))))
      (pss_one (ps_expr (pe_call G_send.ok (hr.mono (by decide)) rfl G_send.g G_send.kp G_send.b .nil pass0 (pa_cons (pv 0) (pa_cons (pe_fld (pv 1) rfl) (pa_cons (pe_fld (pv 1) rfl) (pa_cons (pe_tup (pa_cons (pe_gi T.k_GONE rfl) (pa_cons (pv 3) pa_nil))) pa_nil))))))))))), ?_⟩
      refine st_seq (st_set (v_server T W (val_var rfl) hS (v_receiver T hl (val_var rfl))) ?_)
      refine st_seq (st_set (v_ix (j := 1) (v_told T hl (val_var rfl)) ht rfl) ?_)
      cases ea : (Ha04.server s q).lives with
      | true =>
        refine st_yes (Ans.to (ans_val (v_alive T W hS (val_var rfl))) (eal.trans ea)) ?_
        refine b_drop (b_meth (v_watchers T W hS (val_var rfl)) (W.wat hS) (b_cons1 (va_tup (va_cons (v_sender T hl (val_var rfl)) (va_cons (val_var rfl) va_nil)) (by show 2 ≤ 1000; decide) fun t1 n1 => ?_)))
        have W1 := W.new (o := .tup [.int p, .int n]) n1
        refine b_rapp (W1.wat hS) ?_ ?_
        · rw [refs_len, W.W.lenWat hq]
          have := sz_wat (s := s) hq
          omega
        · obtain ⟨L2, W2⟩ := W1.setWat hS ((W1.W.held.wat q hS).snoc (a := t1) (b := repP (p, n)) upd_same) (refs_snoc _ _)
          refine k _ L2 (W2.cast ?_)
          show _ = rep (if _ then _ else _)
          rw [if_pos ea, rep_setS g.ls hq, rep_server s hq]
          refine congrArg _ ?_
          show ServerM.mk _ _ _ _ _ ((Ha04.server s q).watched.map repP ++ [repP (p, n)]) = ServerM.mk _ _ _ _ _ (((Ha04.server s q).watched ++ [(p, n)]).map repP)
          rw [List.map_append]
          rfl
      | false =>
        refine st_no (Ans.to (ans_val (v_alive T W hS (val_var rfl))) (eal.trans ea)) ?_
        refine b_drop (b_call4 (val_var rfl) (v_receiver T hl (val_var rfl)) (v_sender T hl (val_var rfl)) (va_tup (va_cons val_c (va_cons (val_var rfl) va_nil)) (by show 2 ≤ 1000; decide) fun t4 n4 => ?_))
        have W5 := W.new (o := .tup [.int 4, .int n]) n4
        refine ⟨H0, Hs, G, _, _, q, p, t4, .gone n, rfl, W5, ?_, upd_same, fun H' a W6 => k _ _ (W6.cast ?_)⟩
        · have := sz_air (s := s)
          omega
        · show _ = rep (if _ then _ else _)
          rw [if_neg (by rw [ea]; exact Bool.false_ne_true)]
    | ask _ => exact hx.elim
    | unwatch _ => exact hx.elim
    | answer _ _ => exact hx.elim
    | gone _ => exact hx.elim
theorem b_filter {D : Ends} {H0 Hs H1 : Hp} {G L : Lay} {s : Ha04.St} {a t1 : Addr} {p q n : Nat} {v3 : Option V} (T : Txt K mg Z) (W1 : Go Z H0 Hs G H1 L (rep s)) (g : Good s) (hz : sz s ≤ 2900000) (hq : isS q) (hT1 : TupAt H1 t1 [(p : Int), (n : Int)])
    (k : ∀ H' L', Go Z H0 Hs G H' L' (rep (Ha04.arrives s p q (.unwatch n))) → D.nx [some (.ref G.w), some (.ref a), some (.ref (G.srv q)), v3, some (.ref t1), none] H') :
    sFld K (tVar 2) (tLc (iList K (tFld K (tVar 2) "watchers")) (gName 5) (tTest (tOp (rNeD K) (tVar 5) (tVar 4))) (tVar 5) [5]) "watchers" D [some (.ref G.w), some (.ref a), some (.ref (G.srv q)), v3, some (.ref t1), none] H1 := by
  have hS := inS_of hq
  obtain ⟨wl, ewl⟩ : ∃ wl, wl = (Ha04.server s q).watched := ⟨_, rfl⟩
  have hall : All2 (TupAt H1) (L.watR q) (wl.map repP) := by
    have h1 := W1.W.held.wat q hS
    rw [rep_server s hq] at h1
    rw [ewl]
    exact h1
  have hlen : (L.watR q).length = wl.length := hall.len.trans (List.length_map _)
  refine b_fldV (b_lc (v_watchers T W1 hS (val_var rfl)) (SqL.of (W1.wat hS)) (fun D i H' => H1 D = none ∧ H' = upd H1 D (.lst (refs (filt (fun y : Nat × Nat => !(y.1 == p && y.2 == n)) ((L.watR q).take i) (wl.take i))))) (fun D nD => ⟨nD, rfl⟩) (fun D i H' _ e => ?_) ?_ ?_)
  · rw [e.2]
    exact SqL.of (Same.new e.1 _ _ (W1.wat hS))
  · rintro D nD i x H' hx ⟨_, rfl⟩
    obtain ⟨b, hb, rfl⟩ := map_get hx
    obtain ⟨c, hc, hty⟩ := hall.get1 hb
    obtain ⟨y, hy, rfl⟩ := map_get hc
    have e1 : filt (fun y : Nat × Nat => !(y.1 == p && y.2 == n)) ((L.watR q).take (i + 1)) (wl.take (i + 1)) = filt (fun y : Nat × Nat => !(y.1 == p && y.2 == n)) ((L.watR q).take i) (wl.take i) ++ if (!(y.1 == p && y.2 == n)) = true then [b] else [] := by
      rw [take_more hb, take_more hy]
      exact filt_snoc (by rw [List.length_take, List.length_take, hlen])
    refine ⟨rfl, ?_⟩
    have s1 := Same.new (H := H1) (o := .lst (refs (filt (fun y : Nat × Nat => !(y.1 == p && y.2 == n)) ((L.watR q).take i) (wl.take i)))) nD
    have hA := a_ne2 (K := K) (ta := tVar 5) (tb := tVar 4) (σ := [some (.ref G.w), some (.ref a), some (.ref (G.srv q)), v3, some (.ref t1), some (.ref b)]) (val_var rfl) (val_var rfl) (s1 _ _ hty) (s1 _ _ hT1)
    have e2 : (!(decide ((y.1 : Int) = (p : Int)) && decide ((y.2 : Int) = (n : Int)))) = !(y.1 == p && y.2 == n) := by rw [eq_nat, eq_nat]
    rw [e2] at hA
    refine hA _ ?_
    rw [e1]
    cases ec : !(y.1 == p && y.2 == n) with
    | true =>
      refine if_pos_of rfl ?_
      refine ⟨_, rfl, _, upd_same, ?_, nD, ?_⟩
      · rw [refs_len]
        refine small ?_
        have l1 := filt_len (P := fun y : Nat × Nat => !(y.1 == p && y.2 == n)) (r := (L.watR q).take i) (s := wl.take i)
        rw [List.length_take] at l1
        rw [ewl] at hlen
        have := sz_wat (s := s) hq
        omega
      · rw [upd_upd, refs_snoc]
        rfl
    | false =>
      refine if_neg_of rfl ?_
      refine ⟨nD, ?_⟩
      rw [if_neg Bool.false_ne_true, List.append_nil]
  · rintro D' nD H' ⟨_, rfl⟩
    rw [refs_len, List.take_length, hlen, List.take_length]
    obtain ⟨L2, W2⟩ := W1.newWat hS (q := D') (ys := (wl.filter fun y : Nat × Nat => !(y.1 == p && y.2 == n)).map repP) ((filt_all (P := fun y : Nat × Nat => !(y.1 == p && y.2 == n)) hall).mono fun _ _ h => Same.new nD _ _ h) nD
    refine b_val (val_var rfl) ⟨_, _, _, _, rfl, (W1.new nD).srv hS, T.cS, T.nS_watchers, (by show 6 < 1000; decide), ?_⟩
    refine k _ L2 (W2.cast ?_)
    show _ = rep (Ha04.setServer s q _)
    rw [rep_setS g.ls hq, rep_server s hq, ewl]
    rfl
theorem sc_arrives_at_server : FnScope ["world", "letter", "server", "kind", "watcher", "other"] ["world", "letter"] (defScope s_arrives_at_server) := ⟨rfl, rfl, rfl, by decide +kernel, rfl, by decide +kernel, by decide +kernel⟩
theorem ok_arrS {f fW : Addr} {fd fdW : FuncData} (F : Fun K "arrives_at_server" "arrives_at_server" s_arrives_at_server f fd) (T : Txt K mg Z) (G_watch_arrives : Cal P w K mg base 4 "watch_arrives" ["world", "letter"] (spArr Z isWatch) fW fdW) : FnOk P w K mg base CX0 5 f fd ["world", "letter"] (spArr Z fun q _ => isS q) := by
  refine F.ok sc_arrives_at_server (fun vs H Q E h => ?_) (fun cdv A outer s0 H vs Q E hr h => ?_)
  · obtain ⟨H0, Hs, G, L, s, a, p, q, x, rfl, _⟩ := h
    rfl
  · obtain ⟨H0, Hs, G, L, s, a, p, q, x, rfl, W, g, hz, ⟨dx, t, hl, ht⟩, ok, hq, k⟩ := h
    have hS := inS_of hq
    have eal := congrArg ServerM.alive (rep_server s hq)
    refine ⟨_, (pss_cons (ps_set (i := 2) sc_arrives_at_server.nd rfl (Or.inl rfl) (pe_dget (hu_of hr) (pe_fld (pv 0) rfl) (pe_fld (pv 1) rfl) (fun _ _ => rfl)))
    (pss_cons (ps_set (i := 3) sc_arrives_at_server.nd rfl (Or.inl rfl) (pe_ix ix_tup (pe_fld (pv 1) rfl) pe_int (fun _ _ => rfl)))
    (pss_one (ps_if (pt_cmpR op_eq (pv 3) (pe_gi T.k_ASKED rfl) (nomark _))
      (pss_one (ps_if (pt_val (pe_fld (pv 2) rfl))
      (pss_one (ps_expr (pe_bm PySem.F.plainAttrs_list PySem.F.slot_list_append PySem.F.type_list_append mt_append (pe_fld (pv 2) rfl) (pa_cons (pe_slice sl_tup (pe_fld (pv 1) rfl) (po_some pe_int) po_none) pa_nil))))
      pss_nil))
      (pss_one (ps_if (pt_cmpR op_eq (pv 3) (pe_gi T.k_WATCH rfl) (nomark _))
      (pss_one (ps_expr (pe_call G_watch_arrives.ok (hr.mono (by decide)) rfl G_watch_arrives.g G_watch_arrives.kp G_watch_arrives.b .nil pass0 (pa_cons (pv 0) (pa_cons (pv 1) pa_nil)))))
      (pss_cons (ps_set (i := 4) sc_arrives_at_server.nd rfl (Or.inr rfl) (pe_tup (pa_cons (pe_fld (pv 1) rfl) (pa_cons (pe_ix ix_tup (pe_fld (pv 1) rfl) pe_int (fun _ _ => rfl)) pa_nil))))
    (pss_one (ps_fld (pv 2) (pe_lc (own := [("other", 5)]) (g := gName 5) (tt := tTest (tOp (rNeD K) (tVar 5) (tVar 4))) (te := tVar 5) rfl sc_arrives_at_server.nd (pi_list (pe_fld (pv 2) rfl)) (blkOk_by (own := [("other", 5)]) (N := ["world", "letter", "server", "kind", "watcher", "other"]) (sc := defScope s_arrives_at_server) (by decide +kernel)) (fun _ _ _ _ _ => pg_name (i := 5) sc_arrives_at_server.nd rfl (Or.inl rfl)) (fun _ _ _ _ _ => (pts_one (pt_cmpR (op_neD hr.units) (pv 5) (pv 4) (nomark _)))) (fun _ _ _ _ _ => (pv 5))) rfl))))))))), ?_⟩
    refine st_seq (st_set (v_server T W (val_var rfl) hS (v_receiver T hl (val_var rfl))) ?_)
    cases x with
    | ask r =>
      refine st_seq (st_set (v_ix (j := 0) (v_told T hl (val_var rfl)) ht rfl) ?_)
      refine st_yes (Ans.to (a_eqI (val_var rfl) val_c) rfl) ?_
      cases ea : (Ha04.server s q).lives with
      | true =>
        refine st_yes (Ans.to (ans_val (v_alive T W hS (val_var rfl))) (eal.trans ea)) ?_
        refine b_drop (b_meth (v_asked T W hS (val_var rfl)) (W.ask hS) (b_cons1 (b_slT1 (v_told T hl (val_var rfl)) ht fun t1 n1 => ?_)))
        have W1 := W.new (o := .tup ((repR r).map V.int)) n1
        refine b_rapp (W1.ask hS) ?_ ?_
        · rw [refs_len, W.W.lenAsk hq]
          have := sz_ask (s := s) hq
          omega
        · obtain ⟨L2, W2⟩ := W1.setAsk hS ((W1.W.held.ask q hS).snoc (a := t1) (b := repR r) upd_same) (refs_snoc _ _)
          refine k _ L2 (W2.cast ?_)
          show _ = rep (if _ then _ else _)
          rw [if_pos ea, rep_setS g.ls hq, rep_server s hq]
          refine congrArg _ ?_
          show ServerM.mk _ _ _ ((Ha04.server s q).asked.map repR ++ [repR r]) _ _ = ServerM.mk _ _ _ (((Ha04.server s q).asked ++ [r]).map repR) _ _
          rw [List.map_append]
          rfl
      | false =>
        refine st_no (Ans.to (ans_val (v_alive T W hS (val_var rfl))) (eal.trans ea)) ?_
        refine k _ L (W.cast ?_)
        show _ = rep (if _ then _ else _)
        rw [if_neg (by rw [ea]; exact Bool.false_ne_true)]
    | watch n =>
      refine st_seq (st_set (v_ix (j := 0) (v_told T hl (val_var rfl)) ht rfl) ?_)
      refine st_no (Ans.to (a_eqI (val_var rfl) val_c) rfl) ?_
      refine st_yes (Ans.to (a_eqI (val_var rfl) val_c) rfl) ?_
      exact b_drop (va_call (va_cons (val_var rfl) (va_cons (val_var rfl) va_nil)) ⟨H0, Hs, G, L, s, a, p, q, .watch n, rfl, W, g, hz, ⟨dx, t, hl, ht⟩, ok, trivial, k⟩)
    | unwatch n =>
      refine st_seq (st_set (v_ix (j := 0) (v_told T hl (val_var rfl)) ht rfl) ?_)
      refine st_no (Ans.to (a_eqI (val_var rfl) val_c) rfl) ?_
      refine st_no (Ans.to (a_eqI (val_var rfl) val_c) rfl) ?_
      refine st_seq (b_set (va_tup (va_cons (v_sender T hl (val_var rfl)) (va_cons (v_ix (j := 1) (v_told T hl (val_var rfl)) ht rfl) va_nil)) (by show 2 ≤ 1000; decide) fun t1 n1 => ?_))
      have W1 := W.new (o := .tup [.int p, .int n]) n1
      have hT1 : TupAt (upd H t1 (.tup [.int p, .int n])) t1 [(p : Int), (n : Int)] := upd_same
      exact b_filter T W1 g hz hq hT1 fun H' L' W2 => k _ _ W2
    | answer _ _ =>
      have h1 : isC q := ok
      unfold isC at h1
      unfold isS at hq
      omega
    | gone _ =>
      have h1 : isC q := ok
      unfold isC at h1
      unfold isS at hq
      omega
theorem comes_none {s : Ha04.St} {c num how v : Nat} (h : (Ha04.caller s c).waits = none) : Ha04.comes s c num how v = s := by
  unfold Ha04.comes
  rw [h]
theorem comes_other {s : Ha04.St} {c num how v : Nat} {y : Nat × Nat × Option Nat} (h : (Ha04.caller s c).waits = some y) (n : ¬ y.1 = num) : Ha04.comes s c num how v = s := by
  unfold Ha04.comes
  rw [h]
  exact if_neg n
/-- what a caller waits for, as it lies there -/
theorem Wd.wait {H0 H : Hp} {L : Lay} {s : Ha04.St} (W : Wd Z H0 H L (rep s)) {c : Nat} (hc : isC c) : WaitAt Z H (L.calW (c : Int)) (repW (Ha04.caller s c).waits) := by
  have h1 := W.held.wait c (inC_of hc)
  rw [rep_caller s hc] at h1
  exact h1
theorem sc_arrives_at_caller : FnScope ["world", "letter", "wait"] ["world", "letter"] (defScope s_arrives_at_caller) := ⟨rfl, rfl, rfl, by decide +kernel, rfl, by decide +kernel, by decide +kernel⟩
theorem ok_arrC {f fW : Addr} {fd fdW : FuncData} (F : Fun K "arrives_at_caller" "arrives_at_caller" s_arrives_at_caller f fd) (T : Txt K mg Z) (G_comes_back : Cal P w K mg base 4 "comes_back" ["world", "c", "how", "answer"] (spComes Z) fW fdW) : FnOk P w K mg base CX0 5 f fd ["world", "letter"] (spArr Z fun q _ => isC q) := by
  refine F.ok sc_arrives_at_caller (fun vs H Q E h => ?_) (fun cdv A outer s0 H vs Q E hr h => ?_)
  · obtain ⟨H0, Hs, G, L, s, a, p, q, x, rfl, _⟩ := h
    rfl
  · obtain ⟨H0, Hs, G, L, s, a, p, q, x, rfl, W, g, hz, ⟨dx, t, hl, ht⟩, ok, hq, k⟩ := h
    have hC := inC_of hq
    have hW := W.W.wait hq
    refine ⟨_, (pss_cons (ps_set (i := 2) sc_arrives_at_caller.nd rfl (Or.inl rfl) (pe_fld (pe_dget (hu_of hr) (pe_fld (pv 0) rfl) (pe_fld (pv 1) rfl) (fun _ _ => rfl)) rfl))
    (pss_cons (ps_if (PW.pt (pw_or (pt_cmpR op_isN (pv 2) pe_non (nomark _)) (pw_or1 (pt_cmpR op_ne (pe_fld (pv 2) rfl) (pe_ix ix_tup (pe_fld (pv 1) rfl) pe_int (fun _ _ => rfl)) (nomark _)))))
      (pss_one ps_retN)
      pss_nil)
    (pss_one (ps_if (pt_cmpR op_eq (pe_ix ix_tup (pe_fld (pv 1) rfl) pe_int (fun _ _ => rfl)) (pe_gi T.k_ANSWER rfl) (nomark _))
      (pss_one (ps_expr (pe_call G_comes_back.ok (hr.mono (by decide)) rfl G_comes_back.g G_comes_back.kp G_comes_back.b .nil pass0 (pa_cons (pv 0) (pa_cons (pe_fld (pv 1) rfl) (pa_cons (pe_gi T.k_CAME_ANSWER rfl) (pa_cons (pe_ix ix_tup (pe_fld (pv 1) rfl) pe_int (fun _ _ => rfl)) pa_nil)))))))
      (pss_one (ps_expr (pe_call G_comes_back.ok (hr.mono (by decide)) rfl G_comes_back.g G_comes_back.kp G_comes_back.b .nil pass0 (pa_cons (pv 0) (pa_cons (pe_fld (pv 1) rfl) (pa_cons (pe_gi T.k_CAME_GONE rfl) (pa_cons pe_int pa_nil))))))))))), ?_⟩
    have no : ∀ {A : Prop}, isS q → A := fun h => by
      unfold isS at h
      unfold isC at hq
      omega
    cases ew : (Ha04.caller s q).waits with
    | none =>
      rw [ew] at hW
      refine st_seq (st_set (v_waitingIs T W hC hW (v_caller T W (val_var rfl) hC (v_receiver T hl (val_var rfl)))) ?_)
      refine st_seq (st_yes (ans_or1 (ans_isN (val_var rfl) rfl)) ?_)
      cases x with
      | answer n v =>
        have e : Ha04.arrives s p q (.answer n v) = s := comes_none ew
        rw [e] at k
        exact k _ _ W
      | gone n =>
        have e : Ha04.arrives s p q (.gone n) = s := comes_none ew
        rw [e] at k
        exact k _ _ W
      | ask _ => exact no ok.1
      | watch _ => exact no ok.2
      | unwatch _ => exact no ok.2
    | some y =>
      obtain ⟨x1, ex, en, es⟩ := repW_some (w := y)
      rw [ew, ex] at hW
      obtain ⟨aw, dw, eW, hA⟩ := hW
      refine st_seq (st_set (v_waitingIs T W hC eW (v_caller T W (val_var rfl) hC (v_receiver T hl (val_var rfl)))) ?_)
      cases x with
      | answer n v =>
        by_cases e : y.1 = n
        · refine st_seq (st_no (ans_or (ans_isN (val_var rfl) rfl) (Ans.to (a_neI (v_number T hA (val_var rfl)) (v_ix (j := 1) (v_told T hl (val_var rfl)) ht rfl)) (by rw [en]; show (!decide (((y.1 : Nat) : Int) = ((n : Nat) : Int))) = false; rw [decide_eq_true (by rw [e])]; rfl))) ?_)
          refine st_yes (Ans.to (a_eqI (v_ix (j := 0) (v_told T hl (val_var rfl)) ht rfl) val_c) rfl) ?_
          refine b_drop (b_call4 (val_var rfl) (v_receiver T hl (val_var rfl)) val_c (v_ix (j := 2) (v_told T hl (val_var rfl)) ht rfl _ ?_))
          subst e
          exact ⟨H0, Hs, G, L, s, q, 0, v, y, rfl, W, g, by omega, hq, ew, k⟩
        · refine st_seq (st_yes (ans_or (ans_isN (val_var rfl) rfl) (Ans.to (a_neI (v_number T hA (val_var rfl)) (v_ix (j := 1) (v_told T hl (val_var rfl)) ht rfl)) (by rw [en]; show (!decide (((y.1 : Nat) : Int) = ((n : Nat) : Int))) = true; rw [decide_eq_false (by omega)]; rfl))) ?_)
          have e : Ha04.arrives s p q (.answer n v) = s := comes_other ew e
          rw [e] at k
          exact k _ _ W
      | gone n =>
        by_cases e : y.1 = n
        · refine st_seq (st_no (ans_or (ans_isN (val_var rfl) rfl) (Ans.to (a_neI (v_number T hA (val_var rfl)) (v_ix (j := 1) (v_told T hl (val_var rfl)) ht rfl)) (by rw [en]; show (!decide (((y.1 : Nat) : Int) = ((n : Nat) : Int))) = false; rw [decide_eq_true (by rw [e])]; rfl))) ?_)
          refine st_no (Ans.to (a_eqI (v_ix (j := 0) (v_told T hl (val_var rfl)) ht rfl) val_c) rfl) ?_
          refine b_drop (b_call4 (val_var rfl) (v_receiver T hl (val_var rfl)) val_c (val_c _ ?_))
          subst e
          exact ⟨H0, Hs, G, L, s, q, 1, 0, y, rfl, W, g, by omega, hq, ew, k⟩
        · refine st_seq (st_yes (ans_or (ans_isN (val_var rfl) rfl) (Ans.to (a_neI (v_number T hA (val_var rfl)) (v_ix (j := 1) (v_told T hl (val_var rfl)) ht rfl)) (by rw [en]; show (!decide (((y.1 : Nat) : Int) = ((n : Nat) : Int))) = true; rw [decide_eq_false (by omega)]; rfl))) ?_)
          have e : Ha04.arrives s p q (.gone n) = s := comes_other ew e
          rw [e] at k
          exact k _ _ W
      | ask _ => exact no ok.1
      | watch _ => exact no ok.2
      | unwatch _ => exact no ok.2
theorem sc_arrives : FnScope ["world", "letter"] ["world", "letter"] (defScope s_arrives) := ⟨rfl, rfl, rfl, by decide +kernel, rfl, by decide +kernel, by decide +kernel⟩
theorem ok_arrives {f fS fC : Addr} {fd fdS fdC : FuncData} (F : Fun K "arrives" "arrives" s_arrives f fd) (T : Txt K mg Z) (G_arrives_at_server : Cal P w K mg base 5 "arrives_at_server" ["world", "letter"] (spArr Z fun q _ => isS q) fS fdS)
    (G_arrives_at_caller : Cal P w K mg base 5 "arrives_at_caller" ["world", "letter"] (spArr Z fun q _ => isC q) fC fdC) : FnOk P w K mg base CX0 6 f fd ["world", "letter"] (spArr Z fun _ _ => True) := by
  refine F.ok sc_arrives (fun vs H Q E h => ?_) (fun cdv A outer s0 H vs Q E hr h => ?_)
  · obtain ⟨H0, Hs, G, L, s, a, p, q, x, rfl, _⟩ := h
    rfl
  · obtain ⟨H0, Hs, G, L, s, a, p, q, x, rfl, W, g, hz, hl0, ok, hq, k⟩ := h
    obtain ⟨dx, t, hl, ht⟩ := id hl0
    refine ⟨_, (pss_one (ps_if (pt_cmp (pc_din (hu_of hr) (pe_fld (pv 1) rfl) (pe_fld (pv 0) rfl)))
      (pss_one (ps_expr (pe_call G_arrives_at_server.ok (hr.mono (by decide)) rfl G_arrives_at_server.g G_arrives_at_server.kp G_arrives_at_server.b .nil pass0 (pa_cons (pv 0) (pa_cons (pv 1) pa_nil)))))
      (pss_one (ps_expr (pe_call G_arrives_at_caller.ok (hr.mono (by decide)) rfl G_arrives_at_caller.g G_arrives_at_caller.kp G_arrives_at_caller.b .nil pass0 (pa_cons (pv 0) (pa_cons (pv 1) pa_nil))))))), ?_⟩
    by_cases hS : isS q
    · refine st_yes (Ans.to (a_inServers T W (val_var rfl) (v_receiver T hl (val_var rfl))) (decide_eq_true (inS_of hS))) ?_
      exact b_drop (va_call (va_cons (val_var rfl) (va_cons (val_var rfl) va_nil)) ⟨H0, Hs, G, L, s, a, p, q, x, rfl, W, g, hz, hl0, ok, hS, k⟩)
    · refine st_no (Ans.to (a_inServers T W (val_var rfl) (v_receiver T hl (val_var rfl))) (decide_eq_false fun h => hS (by unfold inS at h; unfold isS; have h1 : (11 : Int) ≤ ((q : Nat) : Int) ∧ ((q : Nat) : Int) ≤ 14 := h; omega))) ?_
      have hC : isC q := by
        cases x with
        | ask _ => exact absurd ok.1 hS
        | watch _ => exact absurd ok.2 hS
        | unwatch _ => exact absurd ok.2 hS
        | answer _ _ => exact ok
        | gone _ => exact ok
      exact b_drop (va_call (va_cons (val_var rfl) (va_cons (val_var rfl) va_nil)) ⟨H0, Hs, G, L, s, a, p, q, x, rfl, W, g, hz, hl0, ok, hC, k⟩)
end
end AO

set_option Elab.async false
set_option maxRecDepth 100000
set_option maxHeartbeats 4000000
set_option linter.unusedVariables false
namespace AO
open PySem L2
open Ha04 (Req Sig Came)
/-! ### 13. A server does the first that it was asked -/
def workOf (t : Ha04.St) (p : Nat) (r : Req) : Ha04.St := match r.what with
  | 0 => Ha04.answers (Ha04.adds t p r) p r.who r.num (Ha04.server (Ha04.adds t p r) p).sum
  | 1 =>
    let u := Ha04.adds t p r
    if r.who = 0 then u else Ha04.setServer u p { Ha04.server u p with later := (Ha04.server u p).later ++ [(r.who, r.num, (Ha04.server u p).sum)] }
  | 2 => Ha04.send t p r.other (.ask { r with what := 0, other := 0 })
  | 3 => Ha04.dies t p
  | _ => Ha04.dies (Ha04.answers (Ha04.adds t p r) p r.who r.num (Ha04.server (Ha04.adds t p r) p).sum) p
theorem works_is {s : Ha04.St} {p : Nat} {r : Req} {l : List Req} (h : (Ha04.server s p).asked = r :: l) : Ha04.works s p = workOf (Ha04.setServer s p { Ha04.server s p with asked := l }) p r := by
  unfold Ha04.works
  rw [h]
  rfl
def spAdds (Z : Cs) : Sp := fun vs H Q _ => ∃ (H0 Hs : Hp) (G L : Lay) (s : Ha04.St) (p : Nat) (a : Addr) (r : Req), vs = [.ref G.w, .int p, .ref a] ∧ Go Z H0 Hs G H L (rep s) ∧ Good s ∧ sz s ≤ 2900000 ∧ isS p ∧ okR r ∧ (r.what = 0 ∨ r.what = 1 ∨ r.what = 4) ∧ TupAt H a (repR r) ∧
  Nx Z H0 Hs G (workOf s p r) (Q .non)
def spDoes (Z : Cs) : Sp := fun vs H Q _ => ∃ (H0 Hs : Hp) (G L : Lay) (s : Ha04.St) (p : Nat) (r : Req) (l : List Req), vs = [.ref G.w, .int p] ∧ Go Z H0 Hs G H L (rep s) ∧ Good s ∧ sz s ≤ 2900000 ∧ isS p ∧ (Ha04.server s p).asked = r :: l ∧
  ∀ H' L' a, Go Z H0 Hs G H' L' (rep (Ha04.works s p)) → TupAt H' a (repR r) → Q (.ref a) H'
theorem v_mod {σ : L2.St} {H : Hp} {ta tb : TE} {a b : Int} (ha : Val ta σ H (.int a)) (hb : Val tb σ H (.int b)) (h : 0 < b) : Val (tOp (rI (fun _ j => 0 < j) fun i j => .int (i % j)) ta tb) σ H (.int (a % b)) := val_op ha hb fun Q q => ⟨a, b, rfl, rfl, h, q⟩
theorem rep_adds {s : Ha04.St} (g : Good s) {p : Nat} (hp : isS p) (r : Req) : (rep s).setS p { (rep s).servers p with total := (((rep s).servers p).total + (r.n : Int)) % 1000003 } = rep (Ha04.adds s p r) := by
  show _ = rep (Ha04.setServer s p { Ha04.server s p with sum := Ha04.plus (Ha04.server s p).sum r.n })
  rw [rep_setS g.ls hp, rep_server s hp]
  refine congrArg _ ?_
  show ServerM.mk _ _ ((((Ha04.server s p).sum : Int) + (r.n : Int)) % 1000003) _ _ _ = ServerM.mk _ _ ((Ha04.plus (Ha04.server s p).sum r.n : Nat) : Int) _ _ _
  have e : ((((Ha04.server s p).sum : Int) + (r.n : Int)) % 1000003) = ((Ha04.plus (Ha04.server s p).sum r.n : Nat) : Int) := by
    unfold Ha04.plus
    omega
  rw [e]
  rfl
theorem rep_answers {s : Ha04.St} {p who num v : Nat} (h : ¬ who = 0) : rep (Ha04.send s p who (.answer num v)) = rep (Ha04.answers s p who num v) := by
  unfold Ha04.answers
  rw [if_neg h]
  rfl
theorem answers_no {s : Ha04.St} {p num v : Nat} {who : Nat} (h : who = 0) : Ha04.answers s p who num v = s := if_pos h
section
variable {P : Program} {w : World} {K : PySem.W.Frag} {mg : Str → Option Value} {base : Heap} {Z : Cs}
theorem sc_adds : FnScope ["world", "p", "asked", "server", "caller", "number", "what"] ["world", "p", "asked"] (defScope s_adds) := ⟨rfl, rfl, rfl, by decide +kernel, rfl, by decide +kernel, by decide +kernel⟩
theorem ok_adds {f fS fD : Addr} {fd fdS fdD : FuncData} (F : Fun K "adds" "adds" s_adds f fd) (T : Txt K mg Z) (G_send : Cal P w K mg base 3 "send" ["world", "sender", "receiver", "told"] (spSend Z) fS fdS) (G_dies : Cal P w K mg base 4 "dies" ["world", "p"] (spDies Z) fD fdD) : FnOk P w K mg base CX0 5 f fd ["world", "p", "asked"] (spAdds Z) := by
  refine F.ok sc_adds (fun vs H Q E h => ?_) (fun cdv A outer s0 H vs Q E hr h => ?_)
  · obtain ⟨H0, Hs, G, L, s, p, a, r, rfl, _⟩ := h
    rfl
  · obtain ⟨H0, Hs, G, L, s, p, a, r, rfl, W, g, hz, hp, okr, hw, ha, k⟩ := h
    have hS := inS_of hp
    refine ⟨_, (pss_cons (ps_set (i := 3) sc_adds.nd rfl (Or.inl rfl) (pe_dget (hu_of hr) (pe_fld (pv 0) rfl) (pv 1) (fun _ _ => rfl)))
    (pss_cons (ps_set (i := 4) sc_adds.nd rfl (Or.inl rfl) (pe_ix ix_tup (pv 2) pe_int (fun _ _ => rfl)))
    (pss_cons (ps_set (i := 5) sc_adds.nd rfl (Or.inl rfl) (pe_ix ix_tup (pv 2) pe_int (fun _ _ => rfl)))
    (pss_cons (ps_set (i := 6) sc_adds.nd rfl (Or.inl rfl) (pe_ix ix_tup (pv 2) pe_int (fun _ _ => rfl)))
    (pss_cons (ps_fld (pv 3) (pe_op op_mod (pe_op op_add (pe_fld (pv 3) rfl) (pe_ix ix_tup (pv 2) pe_int (fun _ _ => rfl))) (pe_gi T.k_MODULUS rfl)) rfl)
    (pss_cons (ps_if (pt_cmpR op_ne (pv 4) pe_int (nomark _))
      (pss_one (ps_if (pt_cmpR op_eq (pv 6) (pe_gi T.k_ADD_LATER rfl) (nomark _))
      (pss_one (ps_expr (pe_bm PySem.F.plainAttrs_list PySem.F.slot_list_append PySem.F.type_list_append mt_append (pe_fld (pv 3) rfl) (pa_cons (pe_tup (pa_cons (pv 4) (pa_cons (pv 5) (pa_cons (pe_fld (pv 3) rfl) pa_nil)))) pa_nil))))
      (pss_one (ps_expr (pe_call G_send.ok (hr.mono (by decide)) rfl G_send.g G_send.kp G_send.b .nil pass0 (pa_cons (pv 0) (pa_cons (pv 1) (pa_cons (pv 4) (pa_cons (pe_tup (pa_cons (pe_gi T.k_ANSWER rfl) (pa_cons (pv 5) (pa_cons (pe_fld (pv 3) rfl) pa_nil)))) pa_nil)))))))))
      pss_nil)
    (pss_one (ps_if (pt_cmpR op_eq (pv 6) (pe_gi T.k_ADD_AND_DIE rfl) (nomark _))
      (pss_one (ps_expr (pe_call G_dies.ok (hr.mono (by decide)) rfl G_dies.g G_dies.kp G_dies.b .nil pass0 (pa_cons (pv 0) (pa_cons (pv 1) pa_nil)))))
      pss_nil)))))))), ?_⟩
    refine st_seq (st_set (v_server T W (val_var rfl) hS (val_var rfl)) ?_)
    refine st_seq (st_set (v_ix (j := 0) (val_var rfl) ha rfl) ?_)
    refine st_seq (st_set (v_ix (j := 1) (val_var rfl) ha rfl) ?_)
    refine st_seq (st_set (v_ix (j := 2) (val_var rfl) ha rfl) ?_)
    refine st_seq (st_fld (v_mod (v_add (v_total T W hS (val_var rfl)) (v_ix (j := 3) (val_var rfl) ha rfl)) val_c (by decide)) (val_var rfl) (W.srv hS) T.cS T.nS_total (by show 6 < 1000; decide) ?_)
    have W1 := (W.setSrv hS (x := { (rep s).servers p with total := (((rep s).servers p).total + (r.n : Int)) % 1000003 }) rfl rfl rfl (sF_putTotal _ _ _ _ _)).cast (rep_adds g hp r)
    obtain ⟨s1, es1⟩ : ∃ s1, s1 = Ha04.adds s p r := ⟨_, rfl⟩
    rw [← es1] at W1
    have g1 : Good s1 := by rw [es1]; exact g.adds hp r
    have hz1 : sz s1 ≤ 2900000 := by rw [es1, sz_adds g hp]; exact hz
    have etot : ((rep s1).servers p).total = ((Ha04.server s1 p).sum : Int) := by rw [rep_server s1 hp]; rfl
    have hal := sz_air (s := s1)
    -- the end, by what
    have ew0 : r.what = 0 → workOf s p r = Ha04.answers s1 p r.who r.num (Ha04.server s1 p).sum := fun e => by
      unfold workOf
      rw [e, es1]
      rfl
    have ew4 : r.what = 4 → workOf s p r = Ha04.dies (Ha04.answers s1 p r.who r.num (Ha04.server s1 p).sum) p := fun e => by
      unfold workOf
      rw [e, es1]
      rfl
    have ew1 : r.what = 1 → workOf s p r = if r.who = 0 then s1 else Ha04.setServer s1 p { Ha04.server s1 p with later := (Ha04.server s1 p).later ++ [(r.who, r.num, (Ha04.server s1 p).sum)] } := fun e => by
      unfold workOf
      rw [e, es1]
      rfl
    by_cases h0 : r.who = 0
    · refine st_seq (st_no (Ans.to (a_neI (val_var rfl) val_c) (by show (!decide ((r.who : Int) = 0)) = false; rw [decide_eq_true (by omega)]; rfl)) ?_)
      by_cases h4 : r.what = 4
      · refine st_yes (Ans.to (a_eqI (val_var rfl) val_c) (by show decide ((r.what : Int) = 4) = true; exact decide_eq_true (by omega))) ?_
        refine b_drop (va_call (va_cons (val_var rfl) (va_cons (val_var rfl) va_nil)) ⟨H0, Hs, G, _, s1, p, rfl, W1, g1, by omega, hp, ?_⟩)
        rw [ew4 h4, answers_no h0] at k
        exact k
      · refine st_no (Ans.to (a_eqI (val_var rfl) val_c) (by show decide ((r.what : Int) = 4) = false; exact decide_eq_false (by omega))) ?_
        rcases hw with e | e | e
        · rw [ew0 e, answers_no h0] at k
          exact k _ _ W1
        · rw [ew1 e, if_pos h0] at k
          exact k _ _ W1
        · exact absurd e h4
    · have hcw : isC r.who := okr.1.resolve_left h0
      refine st_seq (st_yes (Ans.to (a_neI (val_var rfl) val_c) (by show (!decide ((r.who : Int) = 0)) = true; rw [decide_eq_false (by omega)]; rfl)) ?_)
      by_cases h1 : r.what = 1
      · refine st_yes (Ans.to (a_eqI (val_var rfl) val_c) (by show decide ((r.what : Int) = 1) = true; exact decide_eq_true (by omega))) ?_
        refine b_drop (b_meth (v_later T W1 hS (val_var rfl)) (W1.lat hS) (b_cons1 (va_tup (va_cons (val_var rfl) (va_cons (val_var rfl) (va_cons (v_total T W1 hS (val_var rfl)) va_nil))) (by show 3 ≤ 1000; decide) fun t1 n1 => ?_)))
        have W2 := W1.new (o := .tup [.int r.who, .int r.num, .int ((rep s1).servers p).total]) n1
        refine b_rapp (W2.lat hS) ?_ ?_
        · rw [refs_len, W1.W.lenLat hp]
          have := sz_lat (s := s1) hp
          omega
        · obtain ⟨L3, W3⟩ := W2.setLat hS ((W2.W.held.lat p hS).snoc (a := t1) (b := repT (r.who, r.num, (Ha04.server s1 p).sum)) (by rw [etot]; exact upd_same)) (refs_snoc _ _)
          refine st_no (Ans.to (a_eqI (val_var rfl) val_c) (by show decide ((r.what : Int) = 4) = false; exact decide_eq_false (by omega))) ?_
          rw [ew1 h1, if_neg h0] at k
          refine k _ _ (W3.cast ?_)
          rw [rep_setS g1.ls hp, rep_server s1 hp]
          refine congrArg _ ?_
          show ServerM.mk _ _ _ _ ((Ha04.server s1 p).later.map repT ++ [repT (r.who, r.num, (Ha04.server s1 p).sum)]) _ = ServerM.mk _ _ _ _ (((Ha04.server s1 p).later ++ [(r.who, r.num, (Ha04.server s1 p).sum)]).map repT) _
          rw [List.map_append]
          rfl
      · refine st_no (Ans.to (a_eqI (val_var rfl) val_c) (by show decide ((r.what : Int) = 1) = false; exact decide_eq_false (by omega))) ?_
        refine b_drop (b_call4 (val_var rfl) (val_var rfl) (val_var rfl) (va_tup (va_cons val_c (va_cons (val_var rfl) (va_cons (v_total T W1 hS (val_var rfl)) va_nil))) (by show 3 ≤ 1000; decide) fun t4 n4 => ?_))
        have W2 := W1.new (o := .tup [.int 3, .int r.num, .int ((rep s1).servers p).total]) n4
        refine ⟨H0, Hs, G, _, s1, p, r.who, t4, .answer r.num (Ha04.server s1 p).sum, rfl, W2, by omega, by rw [etot]; exact upd_same, fun H3 a3 W3 => ?_⟩
        rw [rep_answers h0] at W3
        have g3 := g1.answers (p := p) (num := r.num) (v := (Ha04.server s1 p).sum) okr.1
        have hz3 := sz_answers (s := s1) p r.who r.num (Ha04.server s1 p).sum
        by_cases h4 : r.what = 4
        · refine st_yes (Ans.to (a_eqI (val_var rfl) val_c) (by show decide ((r.what : Int) = 4) = true; exact decide_eq_true (by omega))) ?_
          refine b_drop (va_call (va_cons (val_var rfl) (va_cons (val_var rfl) va_nil)) ⟨H0, Hs, G, _, _, p, rfl, W3, g3, by omega, hp, ?_⟩)
          rw [ew4 h4] at k
          exact k
        · refine st_no (Ans.to (a_eqI (val_var rfl) val_c) (by show decide ((r.what : Int) = 4) = false; exact decide_eq_false (by omega))) ?_
          rcases hw with e | e | e
          · rw [ew0 e] at k
            exact k _ _ W3
          · exact absurd e h1
          · exact absurd e h4
theorem b_pop {σ : L2.St} {H : Hp} {tk ti : TE} {Q : VK} {l : Addr} {xs : List V} {i : Nat} {v : V} (ho : Val tk σ H (.ref l)) (hl : H l = some (.lst xs)) (hi : Val ti σ H (.int (i : Int))) (hv : xs[i]? = some v) (hz : xs.length ≤ 8000000) (k : Q v (upd H l (.lst (xs.eraseIdx i)))) : tBM K "list" rPopAt tk (tCons ti tNil) σ H Q := by
  have hi1 : i < xs.length := (List.getElem?_eq_some_iff.mp hv).1
  refine ho _ ⟨.inl ⟨rfl, _, SqL.of hl⟩, hi _ ⟨l, xs, i, i, v, rfl, rfl, hl, by omega, ?_, ?_, hv, k⟩⟩
  · have : (8000000 : Int) < 2 ^ 63 := by decide
    omega
  · have e := PyProof.Rows.seqIndex_at (i := (i : Int)) (n := xs.length) (by omega) (by omega)
    rw [Int.toNat_natCast] at e
    exact e
theorem sc_does_first : FnScope ["world", "p", "asked", "what"] ["world", "p"] (defScope s_does_first) := ⟨rfl, rfl, rfl, by decide +kernel, rfl, by decide +kernel, by decide +kernel⟩
theorem ok_does {f fS fD fA : Addr} {fd fdS fdD fdA : FuncData} (F : Fun K "does_first" "does_first" s_does_first f fd) (T : Txt K mg Z) (G_send : Cal P w K mg base 3 "send" ["world", "sender", "receiver", "told"] (spSend Z) fS fdS) (G_dies : Cal P w K mg base 4 "dies" ["world", "p"] (spDies Z) fD fdD)
    (G_adds : Cal P w K mg base 5 "adds" ["world", "p", "asked"] (spAdds Z) fA fdA) : FnOk P w K mg base CX0 6 f fd ["world", "p"] (spDoes Z) := by
  refine F.ok sc_does_first (fun vs H Q E h => ?_) (fun cdv A outer s0 H vs Q E hr h => ?_)
  · obtain ⟨H0, Hs, G, L, s, p, r, l, rfl, _⟩ := h
    rfl
  · obtain ⟨H0, Hs, G, L, s, p, r, l, rfl, W, g, hz, hp, hasked, k⟩ := h
    have hS := inS_of hp
    have hall : All2 (TupAt H) (L.askR p) (repR r :: l.map repR) := by
      have h1 := W.W.held.ask p hS
      rw [rep_server s hp] at h1
      have h2 : All2 (TupAt H) (L.askR p) ((Ha04.server s p).asked.map repR) := h1
      rw [hasked] at h2
      exact h2
    obtain ⟨a, ha, hta⟩ := hall.get (i := 0) rfl
    have hlen := W.W.lenAsk hp
    have hsz := sz_ask (s := s) hp
    refine ⟨_, (pss_cons (ps_set (i := 2) sc_does_first.nd rfl (Or.inl rfl) (pe_bm PySem.F.plainAttrs_list PySem.F.slot_list_pop PySem.F.type_list_pop mt_popAt (pe_fld (pe_dget (hu_of hr) (pe_fld (pv 0) rfl) (pv 1) (fun _ _ => rfl)) rfl) (pa_cons pe_int pa_nil)))
    (pss_cons (ps_set (i := 3) sc_does_first.nd rfl (Or.inl rfl) (pe_ix ix_tup (pv 2) pe_int (fun _ _ => rfl)))
    (pss_cons (ps_if (pt_cmpR op_eq (pv 3) (pe_gi T.k_HAND_ON rfl) (nomark _))
      (pss_one (ps_expr (pe_call G_send.ok (hr.mono (by decide)) rfl G_send.g G_send.kp G_send.b .nil pass0 (pa_cons (pv 0) (pa_cons (pv 1) (pa_cons (pe_ix ix_tup (pv 2) pe_int (fun _ _ => rfl)) (pa_cons (pe_tup (pa_cons (pe_gi T.k_ASKED rfl) (pa_cons (pe_ix ix_tup (pv 2) pe_int (fun _ _ => rfl)) (pa_cons (pe_ix ix_tup (pv 2) pe_int (fun _ _ => rfl)) (pa_cons (pe_gi T.k_ADD rfl) (pa_cons (pe_ix ix_tup (pv 2) pe_int (fun _ _ => rfl)) (pa_cons pe_int pa_nil))))))) pa_nil)))))))
      (pss_one (ps_if (pt_cmpR op_eq (pv 3) (pe_gi T.k_DIE rfl) (nomark _))
      (pss_one (ps_expr (pe_call G_dies.ok (hr.mono (by decide)) rfl G_dies.g G_dies.kp G_dies.b .nil pass0 (pa_cons (pv 0) (pa_cons (pv 1) pa_nil)))))
      (pss_one (ps_expr (pe_call G_adds.ok (hr.mono (by decide)) rfl G_adds.g G_adds.kp G_adds.b .nil pass0 (pa_cons (pv 0) (pa_cons (pv 1) (pa_cons (pv 2) pa_nil)))))))))
    (pss_one (ps_ret (pv 2)))))), ?_⟩
    refine st_seq (b_set (b_pop (i := 0) (v_asked T W hS (v_server T W (val_var rfl) hS (val_var rfl))) (W.ask hS) val_c (refs_get ha) (by rw [refs_len]; omega) ?_))
    have okr : okR r := g.ask p hp r (by rw [hasked]; exact List.mem_cons_self ..)
    have g1 : Good (Ha04.setServer s p { Ha04.server s p with asked := l }) := g.setS hp (fun r' m => g.ask p hp r' (by rw [hasked]; exact List.mem_cons_of_mem _ m)) (g.lat p hp) (g.wat p hp) (fun z => by
      have d := (g.dead p hp z).1
      rw [hasked] at d
      cases d)
    have hz1 : sz (Ha04.setServer s p { Ha04.server s p with asked := l }) ≤ sz s + 0 := sz_setS_le g hp (by simp only [szS]; rw [hasked, List.length_cons]; omega)
    obtain ⟨L1, W1⟩ := W.re.setAsk hS (r := (L.askR p).eraseIdx 0) (hall.erase 0) (refs_erase _ _)
    have W1 := W1.cast (show _ = rep (Ha04.setServer s p { Ha04.server s p with asked := l }) by
      rw [rep_setS g.ls hp, rep_server s hp]
      rfl)
    have ew := works_is hasked
    obtain ⟨s1, es1⟩ : ∃ s1, s1 = Ha04.setServer s p { Ha04.server s p with asked := l } := ⟨_, rfl⟩
    rw [← es1] at g1 hz1 W1 ew
    have ha1 := hta.mono W1.k
    have hal := sz_air (s := s1)
    have fin : ∀ H' L', Go Z H0 H G H' L' (rep (Ha04.works s p)) → Q (.ref a) H' := fun H' L' W2 => k H' L' a (W.back W2) (hta.mono W2.k)
    refine st_seq (st_set (v_ix (j := 2) (val_var rfl) ha1 rfl) ?_)
    by_cases h2 : r.what = 2
    · refine st_seq (st_yes (Ans.to (a_eqI (val_var rfl) val_c) (by show decide ((r.what : Int) = 2) = true; exact decide_eq_true (by omega))) ?_)
      refine b_drop (b_call4 (val_var rfl) (val_var rfl) (v_ix (j := 4) (val_var rfl) ha1 rfl) (va_tup (va_cons val_c (va_cons (v_ix (j := 0) (val_var rfl) ha1 rfl) (va_cons (v_ix (j := 1) (val_var rfl) ha1 rfl) (va_cons val_c (va_cons (v_ix (j := 3) (val_var rfl) ha1 rfl) (va_cons val_c va_nil)))))) (by show 6 ≤ 1000; decide) fun t4 n4 => ?_))
      have W2 := W1.new (o := .tup [.int 0, .int r.who, .int r.num, .int 0, .int r.n, .int 0]) n4
      refine ⟨H0, H, G, _, s1, p, r.other, t4, .ask { r with what := 0, other := 0 }, rfl, W2, by omega, upd_same, fun H3 a3 W3 => ?_⟩
      refine st_ret (val_var rfl) (fin _ _ (W3.cast ?_))
      rw [ew]
      unfold workOf
      rw [h2]
      rfl
    · refine st_seq (st_no (Ans.to (a_eqI (val_var rfl) val_c) (by show decide ((r.what : Int) = 2) = false; exact decide_eq_false (by omega))) ?_)
      by_cases h3 : r.what = 3
      · refine st_yes (Ans.to (a_eqI (val_var rfl) val_c) (by show decide ((r.what : Int) = 3) = true; exact decide_eq_true (by omega))) ?_
        refine b_drop (va_call (va_cons (val_var rfl) (va_cons (val_var rfl) va_nil)) ⟨H0, H, G, _, s1, p, rfl, W1, g1, by omega, hp, fun H3 L3 W3 => ?_⟩)
        refine st_ret (val_var rfl) (fin _ _ (W3.cast ?_))
        rw [ew]
        unfold workOf
        rw [h3]
        rfl
      · refine st_no (Ans.to (a_eqI (val_var rfl) val_c) (by show decide ((r.what : Int) = 3) = false; exact decide_eq_false (by omega))) ?_
        have hw4 := okr.2.1
        refine b_drop (va_call (va_cons (val_var rfl) (va_cons (val_var rfl) (va_cons (val_var rfl) va_nil))) ⟨H0, H, G, _, s1, p, a, r, rfl, W1, g1, by omega, hp, okr, by omega, ha1, fun H3 L3 W3 => ?_⟩)
        refine st_ret (val_var rfl) (fin _ _ (W3.cast ?_))
        rw [ew]
end
end AO

set_option Elab.async false
set_option maxRecDepth 100000
set_option maxHeartbeats 4000000
set_option linter.unusedVariables false
namespace AO
open PySem L2
open Ha04 (Req Sig Came)
/-! ### 14. The calls -/
/-- the call's answer is a new list -/
def Gives (Z : Cs) (H0 Hs : Hp) (G : Lay) (r : Ha04.St × List Int) (Q : VK) : Prop := ∀ H' L' p, Go Z H0 Hs G H' L' (rep r.1) → H0 p = none → H' p = some (.lst (r.2.map V.int)) → Q (.ref p) H'
theorem inC_iff {c : Nat} : inC (c : Int) ↔ isC c := by unfold inC isC; omega
theorem inS_iff {p : Nat} : inS (p : Int) ↔ isS p := by unfold inS isS; omega
theorem inC_dec {c : Nat} : decide (inC (c : Int)) = decide (isC c) := decide_eq_decide.mpr inC_iff
theorem inS_dec {p : Nat} : decide (inS (p : Int)) = decide (isS p) := decide_eq_decide.mpr inS_iff
section
variable {K : PySem.W.Frag} {σ : L2.St} {H : Hp} {ta tb te : TE} {t u : TT} {D : Ends} {Q : VK}
theorem ans_or2 {a b : Bool} (h1 : Ans t σ H a) (h2 : Ans u σ H b) : Ans (tOr t u) σ H (a || b) := by
  cases a with
  | true => exact ans_or1 h1
  | false => exact ans_or h1 h2
theorem a_gtI {a b : Int} (ha : Val ta σ H (.int a)) (hb : Val tb σ H (.int b)) : Ans (tTest (tOp (rI0 fun i j => .bl (decide (j < i))) ta tb)) σ H (decide (b < a)) := ans_cmp ha hb fun Q q => ⟨a, b, rfl, rfl, q⟩
theorem a_geI {a b : Int} (ha : Val ta σ H (.int a)) (hb : Val tb σ H (.int b)) : Ans (tTest (tOp (rI0 fun i j => .bl (decide (j ≤ i))) ta tb)) σ H (decide (b ≤ a)) := ans_cmp ha hb fun Q q => ⟨a, b, rfl, rfl, q⟩
theorem a_ltI {a b : Int} (ha : Val ta σ H (.int a)) (hb : Val tb σ H (.int b)) : Ans (tTest (tOp (rI0 fun i j => .bl (decide (i < j))) ta tb)) σ H (decide (a < b)) := ans_cmp ha hb fun Q q => ⟨a, b, rfl, rfl, q⟩
theorem a_leI {a b : Int} (ha : Val ta σ H (.int a)) (hb : Val tb σ H (.int b)) : Ans (tTest (tOp (rI0 fun i j => .bl (decide (i ≤ j))) ta tb)) σ H (decide (a ≤ b)) := ans_cmp ha hb fun Q q => ⟨a, b, rfl, rfl, q⟩
theorem v_neI {a b : Int} (ha : Val ta σ H (.int a)) (hb : Val tb σ H (.int b)) : Val (tOp rNe ta tb) σ H (.bl (!decide (a = b))) := val_op ha hb fun Q q => ⟨rfl, by
  have e : decide (V.int a = V.int b) = decide (a = b) := by
    by_cases e : a = b
    · subst e; simp
    · simp [e]
  rw [e]
  exact q⟩
theorem ans_call {sp : Sp} {E : XK} {tr : TA} {vs : List V} {b : Bool} (h : VA tr σ H vs) (k : ∀ Q : VK, Q (.bl b) H → sp vs H Q E) : Ans (tB (tCall sp [] E tr)) σ H b := fun Q q => va_call h (k _ ⟨b, rfl, q⟩)
theorem v_lenL {l : Addr} {xs : List V} (h : Val te σ H (.ref l)) (hl : SqL K H l xs) : Val (tCB (fun xs H Q => ∃ p ys, xs = [.ref p] ∧ (SqL K H p ys ∨ SqT K H p ys) ∧ Q (.int ys.length) H) (tCons te tNil)) σ H (.int (xs.length : Int)) := fun Q q => h _ ⟨l, xs, rfl, .inl hl, q⟩
theorem b_listT {t : Addr} {xs : List V} (h : Val te σ H (.ref t)) (ht : SqT K H t xs) (k : ∀ l, H l = none → Q (.ref l) (upd H l (.lst xs))) : tCB (fun xs H Q => ∃ p ys, xs = [.ref p] ∧ (SqL K H p ys ∨ SqT K H p ys) ∧ ∀ l, H l = none → Q (.ref l) (upd H l (.lst ys))) (tCons te tNil) σ H Q := h _ ⟨t, xs, rfl, .inr ht, k⟩
theorem b_cb1 {r : List V → Hp → VK → Prop} (h : te σ H fun x H1 => r [x] H1 Q) : tCB r (tCons te tNil) σ H Q := h
/-- return [..] -/
theorem give_list {Z : Cs} {H0 Hs : Hp} {G L : Lay} {s : Ha04.St} {xs : List Int} {tr : TA} (W : Go Z H0 Hs G H L (rep s)) (h : VA tr σ H (xs.map V.int)) (hl : xs.length ≤ 1000) (k : Gives Z H0 Hs G (s, xs) D.rt) : tRet (tLst tr) D σ H :=
  b_ret (va_lst h (by rw [List.length_map]; exact hl) fun p np => k _ L p (W.new np) (W.W.same.free np) upd_same)
end
def badA (c p what n other : Nat) : Prop := ¬ isC c ∨ ¬ isS p ∨ 4 < what ∨ 1000 < n ∨ (what = 2 ∧ ¬ isS other) ∨ (what ≠ 2 ∧ other ≠ 0)
instance (c p what n other : Nat) : Decidable (badA c p what n other) := inferInstanceAs (Decidable (_ ∨ _))
def spBad (Z : Cs) : Sp := fun vs H Q _ => ∃ (H0 Hs : Hp) (G L : Lay) (s : Ha04.St) (c p what n other : Nat), vs = [.ref G.w, .int c, .int p, .int what, .int n, .int other] ∧ Go Z H0 Hs G H L (rep s) ∧ Q (.bl (decide (badA c p what n other))) H
def spAct (Z : Cs) (n : Nat) (call : List Nat → Ha04.Call) : Sp := fun vs H Q _ => ∃ (H0 Hs : Hp) (G L : Lay) (s : Ha04.St) (as : List Nat), as.length = n ∧ vs = .ref G.w :: as.map (fun (a : Nat) => V.int a) ∧ Go Z H0 Hs G H L (rep s) ∧ Good s ∧ sz s ≤ 400000 ∧ Gives Z H0 Hs G (Ha04.step s (call as)) Q
def cTell (l : List Nat) : Ha04.Call := .tell (l.getD 0 0) (l.getD 1 0) (l.getD 2 0)
def cStop (l : List Nat) : Ha04.Call := .halt_ (l.getD 0 0)
def cDeliver (l : List Nat) : Ha04.Call := .deliver (l.getD 0 0) (l.getD 1 0)
def cWork (l : List Nat) : Ha04.Call := .work (l.getD 0 0)
def cAnswer (l : List Nat) : Ha04.Call := .answer (l.getD 0 0) (l.getD 1 0)
def cDie (l : List Nat) : Ha04.Call := .die (l.getD 0 0)
def cAsk (l : List Nat) : Ha04.Call := .ask (l.getD 0 0) (l.getD 1 0) (l.getD 2 0) (l.getD 3 0) (l.getD 4 0) (l.getD 5 0) (l.getD 6 0)
theorem len1 {α : Type} {l : List α} (h : l.length = 1) : ∃ a, l = [a] := match l, h with | [a], _ => ⟨a, rfl⟩
theorem len2 {α : Type} {l : List α} (h : l.length = 2) : ∃ a b, l = [a, b] := match l, h with | [a, b], _ => ⟨a, b, rfl⟩
theorem len3 {α : Type} {l : List α} (h : l.length = 3) : ∃ a b c, l = [a, b, c] := match l, h with | [a, b, c], _ => ⟨a, b, c, rfl⟩
theorem len7 {α : Type} {l : List α} (h : l.length = 7) : ∃ a b c d e f g, l = [a, b, c, d, e, f, g] := match l, h with | [a, b, c, d, e, f, g], _ => ⟨a, b, c, d, e, f, g, rfl⟩
section
variable {P : Program} {w : World} {K : PySem.W.Frag} {mg : Str → Option Value} {base : Heap} {Z : Cs}
theorem sc_asked_badly : FnScope ["world", "c", "p", "what", "much", "other"] ["world", "c", "p", "what", "much", "other"] (defScope s_asked_badly) := ⟨rfl, rfl, rfl, by decide +kernel, rfl, by decide +kernel, by decide +kernel⟩
theorem ok_bad {f : Addr} {fd : FuncData} (F : Fun K "asked_badly" "asked_badly" s_asked_badly f fd) (T : Txt K mg Z) : FnOk P w K mg base CX0 1 f fd ["world", "c", "p", "what", "much", "other"] (spBad Z) := by
  refine F.ok sc_asked_badly (fun vs H Q E h => ?_) (fun cdv A outer s0 H vs Q E hr h => ?_)
  · obtain ⟨H0, Hs, G, L, s, c, p, what, n, other, rfl, _⟩ := h
    rfl
  · obtain ⟨H0, Hs, G, L, s, c, p, what, n, other, rfl, W, k⟩ := h
    refine ⟨_, (pss_cons (ps_if (PW.pt (pw_or (pt_cmp (pc_dnotin (hu_of hr) (pv 1) (pe_fld (pv 0) rfl))) (pw_or1 (pt_cmp (pc_dnotin (hu_of hr) (pv 2) (pe_fld (pv 0) rfl))))))
      (pss_one (ps_ret pe_bl))
      pss_nil)
    (pss_cons (ps_if (PW.pt (pw_or (pt_cmpR op_gt (pv 3) (pe_gi T.k_MOST_WHAT rfl) (nomark _)) (pw_or1 (pt_cmpR op_gt (pv 4) (pe_gi T.k_MOST_MUCH rfl) (nomark _)))))
      (pss_one (ps_ret pe_bl))
      pss_nil)
    (pss_cons (ps_if (pt_cmpR op_eq (pv 3) (pe_gi T.k_HAND_ON rfl) (nomark _))
      (pss_one (ps_ret (pe_cmp (pc_dnotin (hu_of hr) (pv 5) (pe_fld (pv 0) rfl)) rfl)))
      pss_nil)
    (pss_one (ps_ret (pe_cmpR op_ne (pv 5) pe_int (nomark _))))))), ?_⟩
    have t1 : Ans (tOr (tB (tDNotIn (tVar 1) (tFld K (tVar 0) "callers"))) (tB (tDNotIn (tVar 2) (tFld K (tVar 0) "servers")))) (start ["world", "c", "p", "what", "much", "other"] [.ref G.w, .int c, .int p, .int what, .int n, .int other]) H (!decide (isC c) || !decide (isS p)) := by
      rw [← inC_dec, ← inS_dec]
      exact ans_or2 (a_notInCallers T W (val_var rfl) (val_var rfl)) (a_notInServers T W (val_var rfl) (val_var rfl))
    by_cases h1 : isC c ∧ isS p
    · refine st_seq (st_no (Ans.to t1 (by rw [decide_eq_true h1.1, decide_eq_true h1.2]; rfl)) ?_)
      by_cases h2 : 4 < what ∨ 1000 < n
      · refine st_seq (st_yes (Ans.to (ans_or2 (a_gtI (val_var rfl) val_c) (a_gtI (val_var rfl) val_c)) (b' := true) ?_) (st_ret val_c ?_))
        · show (decide ((4 : Int) < (what : Int)) || decide ((1000 : Int) < (n : Int))) = true
          rcases h2 with h2 | h2
          · rw [decide_eq_true (show (4 : Int) < (what : Int) by omega)]
            rfl
          · rw [decide_eq_true (show (1000 : Int) < (n : Int) by omega), Bool.or_true]
        · have e : badA c p what n other := by
            unfold badA
            omega
          rw [decide_eq_true e] at k
          exact k
      · refine st_seq (st_no (Ans.to (ans_or2 (a_gtI (val_var rfl) val_c) (a_gtI (val_var rfl) val_c)) (b' := false) ?_) ?_)
        · show (decide ((4 : Int) < (what : Int)) || decide ((1000 : Int) < (n : Int))) = false
          rw [decide_eq_false (show ¬ (4 : Int) < (what : Int) by omega), decide_eq_false (show ¬ (1000 : Int) < (n : Int) by omega)]
          rfl
        · by_cases h3 : what = 2
          · refine st_seq (st_yes (Ans.to (a_eqI (val_var rfl) val_c) (by show decide ((what : Int) = 2) = true; exact decide_eq_true (by omega))) (st_ret (v_notInServers T W (val_var rfl) (val_var rfl)) ?_))
            have e : (!decide (inS (other : Int))) = decide (badA c p what n other) := by
              rw [inS_dec]
              by_cases h4 : isS other
              · rw [decide_eq_true h4, decide_eq_false (show ¬ badA c p what n other by unfold badA isC isS at *; omega)]
                rfl
              · rw [decide_eq_false h4, decide_eq_true (show badA c p what n other from .inr (.inr (.inr (.inr (.inl ⟨h3, h4⟩)))))]
                rfl
            rw [← e] at k
            exact k
          · refine st_seq (st_no (Ans.to (a_eqI (val_var rfl) val_c) (by show decide ((what : Int) = 2) = false; exact decide_eq_false (by omega))) (st_ret (v_neI (val_var rfl) val_c) ?_))
            have e : (!decide ((other : Int) = 0)) = decide (badA c p what n other) := by
              by_cases h4 : other = 0
              · rw [decide_eq_true (show (other : Int) = 0 by omega), decide_eq_false (show ¬ badA c p what n other by unfold badA isC isS at *; omega)]
                rfl
              · rw [decide_eq_false (show ¬ (other : Int) = 0 by omega), decide_eq_true (show badA c p what n other by unfold badA; omega)]
                rfl
            rw [← e] at k
            exact k
    · refine st_seq (st_yes (Ans.to t1 ?_) (st_ret val_c ?_))
      · by_cases h2 : isC c
        · rw [decide_eq_true h2, decide_eq_false fun h3 => h1 ⟨h2, h3⟩]
          rfl
        · rw [decide_eq_false h2]
          rfl
      · have e : badA c p what n other := by
          unfold badA isC isS at *
          omega
        rw [decide_eq_true e] at k
        exact k
theorem sc_tell : FnScope ["world", "c", "p", "much"] ["world", "c", "p", "much"] (defScope s_tell) := ⟨rfl, rfl, rfl, by decide +kernel, rfl, by decide +kernel, by decide +kernel⟩
theorem ok_tell {f fS fB : Addr} {fd fdS fdB : FuncData} (F : Fun K "tell" "tell" s_tell f fd) (T : Txt K mg Z) (G_send : Cal P w K mg base 3 "send" ["world", "sender", "receiver", "told"] (spSend Z) fS fdS) (G_asked_badly : Cal P w K mg base 1 "asked_badly" ["world", "c", "p", "what", "much", "other"] (spBad Z) fB fdB) : FnOk P w K mg base CX0 4 f fd ["world", "c", "p", "much"] (spAct Z 3 cTell) := by
  refine F.ok sc_tell (fun vs H Q E h => ?_) (fun cdv A outer s0 H vs Q E hr h => ?_)
  · obtain ⟨H0, Hs, G, L, s, as, hl, rfl, _⟩ := h
    obtain ⟨c, p, n, rfl⟩ := len3 hl
    rfl
  · obtain ⟨H0, Hs, G, L, s, as, hl, rfl, W, g, hz, k⟩ := h
    obtain ⟨c, p, n, rfl⟩ := len3 hl
    refine ⟨_, (pss_cons (ps_if (pt_val (pe_call G_asked_badly.ok (hr.mono (by decide)) rfl G_asked_badly.g G_asked_badly.kp G_asked_badly.b .nil pass0 (pa_cons (pv 0) (pa_cons (pv 1) (pa_cons (pv 2) (pa_cons (pe_gi T.k_ADD rfl) (pa_cons (pv 3) (pa_cons pe_int pa_nil))))))))
      (pss_one (ps_ret (pe_lst (pa_cons (pe_gi T.k_NOT_THERE rfl) pa_nil))))
      pss_nil)
    (pss_cons (ps_if (pt_cmpR op_ge (pe_callB call_len_seq (by rfl) T.len PySem.boot_len (pa_cons (pe_fld (pv 0) rfl) pa_nil)) (pe_gi T.k_FULL_AIR rfl) (nomark _))
      (pss_one (ps_ret (pe_lst (pa_cons (pe_gi T.k_TOO_MANY rfl) pa_nil))))
      pss_nil)
    (pss_cons (ps_expr (pe_call G_send.ok (hr.mono (by decide)) rfl G_send.g G_send.kp G_send.b .nil pass0 (pa_cons (pv 0) (pa_cons (pv 1) (pa_cons (pv 2) (pa_cons (pe_tup (pa_cons (pe_gi T.k_ASKED rfl) (pa_cons pe_int (pa_cons pe_int (pa_cons (pe_gi T.k_ADD rfl) (pa_cons (pv 3) (pa_cons pe_int pa_nil))))))) pa_nil))))))
    (pss_one (ps_ret (pe_lst (pa_cons pe_int pa_nil))))))), ?_⟩
    have ek : Ha04.step s (cTell [c, p, n]) = if Ha04.isCaller c = false ∨ Ha04.isServer p = false ∨ 1000 < n then (s, [-1]) else if Ha04.AIR ≤ s.air.length then (s, [-6]) else (Ha04.send s c p (.ask ⟨0, 0, 0, n, 0⟩), [0]) := rfl
    rw [isC_b, isS_b] at ek
    have eb : badA c p 0 n 0 ↔ (decide (isC c) = false ∨ decide (isS p) = false ∨ 1000 < n) := by
      rw [decide_eq_false_iff_not, decide_eq_false_iff_not]
      unfold badA isC isS
      omega
    have t1 := fun (b : Bool) (e : decide (badA c p 0 n 0) = b) => Ans.to (ans_call (sp := spBad Z) (E := E0) (tr := tCons (tVar 0) (tCons (tVar 1) (tCons (tVar 2) (tCons (tC (.int 0)) (tCons (tVar 3) (tCons (tC (.int 0)) tNil)))))) (σ := start ["world", "c", "p", "much"] [.ref G.w, .int c, .int p, .int n]) (H := H) (b := decide (badA c p 0 n 0))
      (va_cons (val_var rfl) (va_cons (val_var rfl) (va_cons (val_var rfl) (va_cons val_c (va_cons (val_var rfl) (va_cons val_c va_nil)))))) fun Q q => ⟨H0, Hs, G, L, s, c, p, 0, n, 0, rfl, W, q⟩) e
    by_cases hb : badA c p 0 n 0
    · refine st_seq (st_yes (t1 true (decide_eq_true hb)) (give_list (xs := [-1]) W (va_cons val_c va_nil) (by decide) ?_))
      rw [ek, if_pos (eb.mp hb)] at k
      exact k
    · rw [ek, if_neg fun h => hb (eb.mpr h)] at k
      refine st_seq (st_no (t1 false (decide_eq_false hb)) ?_)
      have t2 := a_geI (v_lenL (K := K) (v_air (σ := start ["world", "c", "p", "much"] [.ref G.w, .int c, .int p, .int n]) T W (val_var (i := 0) rfl)) (SqL.of W.air)) (val_c (v := .int 150))
      rw [refs_len, W.W.lenAir] at t2
      by_cases ha : Ha04.AIR ≤ s.air.length
      · refine st_seq (st_yes (Ans.to t2 (decide_eq_true (by unfold Ha04.AIR at ha; omega))) (give_list (xs := [-6]) W (va_cons val_c va_nil) (by decide) ?_))
        rw [if_pos ha] at k
        exact k
      · refine st_seq (st_no (Ans.to t2 (decide_eq_false (by unfold Ha04.AIR at ha; omega))) ?_)
        rw [if_neg ha] at k
        have hal := sz_air (s := s)
        refine st_seq (b_drop (b_call4 (val_var rfl) (val_var rfl) (val_var rfl) (va_tup (va_cons val_c (va_cons val_c (va_cons val_c (va_cons val_c (va_cons (val_var rfl) (va_cons val_c va_nil)))))) (by show 6 ≤ 1000; decide) fun t4 n4 => ?_)))
        have W2 := W.new (o := .tup [.int 0, .int 0, .int 0, .int 0, .int n, .int 0]) n4
        refine ⟨H0, Hs, G, _, s, c, p, t4, .ask ⟨0, 0, 0, n, 0⟩, rfl, W2, by omega, upd_same, fun H3 a3 W3 => ?_⟩
        exact give_list (σ := []) (xs := [0]) W3 (va_cons val_c va_nil) (by decide) k
end
end AO

set_option Elab.async false
set_option maxRecDepth 100000
set_option maxHeartbeats 4000000
set_option linter.unusedVariables false
namespace AO
open PySem L2
open Ha04 (Req Sig Came)
theorem map_erase {α β : Type} {f : α → β} : ∀ {l : List α} {i : Nat}, (l.map f).eraseIdx i = (l.eraseIdx i).map f
  | [], _ => rfl
  | _ :: _, 0 => rfl
  | _ :: r, i + 1 => congrArg _ (map_erase (l := r) (i := i))
theorem b_retL {σ : L2.St} {H : Hp} {te : TE} {D : Ends} {r : List V → Hp → VK → Prop} (h : te σ H fun x H1 => r [x] H1 D.rt) : tRet (tCB r (tCons te tNil)) D σ H := h
section
variable {P : Program} {w : World} {K : PySem.W.Frag} {mg : Str → Option Value} {base : Heap} {Z : Cs}
theorem sc_stop : FnScope ["world", "c", "wait"] ["world", "c"] (defScope s_stop) := ⟨rfl, rfl, rfl, by decide +kernel, rfl, by decide +kernel, by decide +kernel⟩
theorem ok_stop {f fC : Addr} {fd fdC : FuncData} (F : Fun K "stop" "stop" s_stop f fd) (T : Txt K mg Z) (G_comes_back : Cal P w K mg base 4 "comes_back" ["world", "c", "how", "answer"] (spComes Z) fC fdC) : FnOk P w K mg base CX0 5 f fd ["world", "c"] (spAct Z 1 cStop) := by
  refine F.ok sc_stop (fun vs H Q E h => ?_) (fun cdv A outer s0 H vs Q E hr h => ?_)
  · obtain ⟨H0, Hs, G, L, s, as, hl, rfl, _⟩ := h
    obtain ⟨c, rfl⟩ := len1 hl
    rfl
  · obtain ⟨H0, Hs, G, L, s, as, hl, rfl, W, g, hz, k⟩ := h
    obtain ⟨c, rfl⟩ := len1 hl
    refine ⟨_, (pss_cons (ps_if (pt_cmp (pc_dnotin (hu_of hr) (pv 1) (pe_fld (pv 0) rfl)))
      (pss_one (ps_ret (pe_lst (pa_cons (pe_gi T.k_NOT_THERE rfl) pa_nil))))
      pss_nil)
    (pss_cons (ps_set (i := 2) sc_stop.nd rfl (Or.inl rfl) (pe_fld (pe_dget (hu_of hr) (pe_fld (pv 0) rfl) (pv 1) (fun _ _ => rfl)) rfl))
    (pss_cons (ps_if (pt_cmpR op_isN (pv 2) pe_non (nomark _))
      (pss_one (ps_ret (pe_lst (pa_cons (pe_gi T.k_NOT_NOW rfl) pa_nil))))
      pss_nil)
    (pss_cons (ps_expr (pe_call G_comes_back.ok (hr.mono (by decide)) rfl G_comes_back.g G_comes_back.kp G_comes_back.b .nil pass0 (pa_cons (pv 0) (pa_cons (pv 1) (pa_cons (pe_gi T.k_CAME_STOPPED rfl) (pa_cons pe_int pa_nil))))))
    (pss_one (ps_ret (pe_lst (pa_cons (pe_fld (pv 2) rfl) pa_nil)))))))), ?_⟩
    have ek : Ha04.step s (cStop [c]) = if Ha04.isCaller c = false then (s, [-1]) else (match (Ha04.caller s c).waits with
      | none => (s, [-8])
      | some w => (Ha04.comes s c w.1 3 0, Ha04.ints [w.1])) := rfl
    rw [isC_b] at ek
    by_cases hc : isC c
    · have hC := inC_of hc
      rw [ek, if_neg (by rw [decide_eq_true hc]; exact Bool.noConfusion)] at k
      refine st_seq (st_no (Ans.to (a_notInCallers T W (val_var rfl) (val_var rfl)) (by rw [decide_eq_true hC]; rfl)) ?_)
      have hW := W.W.wait hc
      cases ew : (Ha04.caller s c).waits with
      | none =>
        rw [ew] at hW k
        refine st_seq (st_set (v_waitingIs T W hC hW (v_caller T W (val_var rfl) hC (val_var rfl))) ?_)
        refine st_seq (st_yes (ans_isN (val_var rfl) rfl) (give_list (xs := [-8]) W (va_cons val_c va_nil) (by decide) k))
      | some y =>
        obtain ⟨x1, ex, en, es⟩ := repW_some (w := y)
        rw [ew, ex] at hW
        rw [ew] at k
        obtain ⟨aw, dw, eW, hA⟩ := hW
        refine st_seq (st_set (v_waitingIs T W hC eW (v_caller T W (val_var rfl) hC (val_var rfl))) ?_)
        refine st_seq (st_no (ans_isN (val_var rfl) rfl) ?_)
        refine st_seq (b_drop (b_call4 (val_var rfl) (val_var rfl) val_c (val_c _ ?_)))
        refine ⟨H0, H, G, L, s, c, 3, 0, y, rfl, W.re, g, by omega, hc, ew, fun H2 L2 W2 => ?_⟩
        refine give_list (xs := [x1.number]) (W.back W2) (va_cons (v_number T (W2.k _ _ hA (.inr rfl)) (val_var rfl)) va_nil) (by show 1 ≤ 1000; decide) ?_
        rw [en]
        exact k
    · rw [ek, if_pos (decide_eq_false hc)] at k
      refine st_seq (st_yes (Ans.to (a_notInCallers T W (val_var rfl) (val_var rfl)) (by rw [inC_dec, decide_eq_false hc]; rfl)) (give_list (xs := [-1]) W (va_cons val_c va_nil) (by decide) k))
theorem sc_deliver : FnScope ["world", "p", "q", "place", "letter"] ["world", "p", "q"] (defScope s_deliver) := ⟨rfl, rfl, rfl, by decide +kernel, rfl, by decide +kernel, by decide +kernel⟩
theorem ok_deliver {f fF fA : Addr} {fd fdF fdA : FuncData} (F : Fun K "deliver" "deliver" s_deliver f fd) (T : Txt K mg Z) (G_first_on_its_way : Cal P w K mg base 1 "first_on_its_way" ["world", "sender", "receiver"] (spFirst Z) fF fdF) (G_arrives : Cal P w K mg base 6 "arrives" ["world", "letter"] (spArr Z fun _ _ => True) fA fdA) : FnOk P w K mg base CX0 7 f fd ["world", "p", "q"] (spAct Z 2 cDeliver) := by
  refine F.ok sc_deliver (fun vs H Q E h => ?_) (fun cdv A outer s0 H vs Q E hr h => ?_)
  · obtain ⟨H0, Hs, G, L, s, as, hl, rfl, _⟩ := h
    obtain ⟨p, q, rfl⟩ := len2 hl
    rfl
  · obtain ⟨H0, Hs, G, L, s, as, hl, rfl, W, g, hz, k⟩ := h
    obtain ⟨p, q, rfl⟩ := len2 hl
    refine ⟨_, (pss_cons (ps_set (i := 3) sc_deliver.nd rfl (Or.inl rfl) (pe_call G_first_on_its_way.ok (hr.mono (by decide)) rfl G_first_on_its_way.g G_first_on_its_way.kp G_first_on_its_way.b .nil pass0 (pa_cons (pv 0) (pa_cons (pv 1) (pa_cons (pv 2) pa_nil)))))
    (pss_cons (ps_if (pt_cmpR op_lt (pv 3) pe_int (nomark _))
      (pss_one (ps_ret (pe_lst (pa_cons (pe_gi T.k_NOTHING rfl) pa_nil))))
      pss_nil)
    (pss_cons (ps_set (i := 4) sc_deliver.nd rfl (Or.inl rfl) (pe_bm PySem.F.plainAttrs_list PySem.F.slot_list_pop PySem.F.type_list_pop mt_popAt (pe_fld (pv 0) rfl) (pa_cons (pv 3) pa_nil)))
    (pss_cons (ps_expr (pe_call G_arrives.ok (hr.mono (by decide)) rfl G_arrives.g G_arrives.kp G_arrives.b .nil pass0 (pa_cons (pv 0) (pa_cons (pv 4) pa_nil))))
    (pss_one (ps_ret (pe_callTy call_list_of (by rfl) T.list (by decide +kernel) (pa_cons (pe_fld (pv 4) rfl) pa_nil)))))))), ?_⟩
    have ek : Ha04.step s (cDeliver [p, q]) = (match Ha04.firstOf s p q with
      | none => (s, [-5])
      | some i => (Ha04.deliverAt s i, Ha04.ints (match s.air[i]? with
        | some y => Ha04.sigTold y.2.2
        | none => []))) := rfl
    refine st_seq (b_set (va_call (va_cons (val_var rfl) (va_cons (val_var rfl) (va_cons (val_var rfl) va_nil))) ⟨H0, Hs, G, L, s, p, q, rfl, W, fun H1 s1 => ?_⟩))
    have W1 := W.mono s1
    cases ef : Ha04.firstOf s p q with
    | none =>
      rw [ek, ef] at k
      refine st_seq (st_yes (Ans.to (a_ltI (val_var rfl) val_c) (by decide)) (give_list (xs := [-5]) W1 (va_cons val_c va_nil) (by decide) k))
    | some i =>
      rw [ek, ef] at k
      refine st_seq (st_no (Ans.to (a_ltI (val_var rfl) val_c) (decide_eq_false (by show ¬ ((i : Int) < 0); omega))) ?_)
      have hi : i < s.air.length := by
        unfold Ha04.firstOf at ef
        exact (List.findIdx?_eq_some_iff_getElem.mp ef).1
      obtain ⟨y, hy⟩ : ∃ y, s.air[i]? = some y := ⟨_, List.getElem?_eq_getElem hi⟩
      obtain ⟨a, ha, hla⟩ := W1.W.held.air.get (i := i) (b := repL y) (by show (s.air.map repL)[i]? = _; rw [List.getElem?_map, hy]; rfl)
      have hal := sz_air (s := s)
      refine st_seq (b_set (b_pop (i := i) (v_air T W1 (val_var rfl)) W1.air (val_var rfl) (refs_get ha) (by rw [refs_len, W1.W.lenAir]; omega) ?_))
      obtain ⟨L2, W2⟩ := W1.re.airPop i
      have hla2 := hla.mono W2.k
      have W2 := W2.cast (show _ = rep { s with air := s.air.eraseIdx i } by
        show M.mk _ _ _ _ ((s.air.map repL).eraseIdx i) = M.mk _ _ _ _ ((s.air.eraseIdx i).map repL)
        rw [map_erase]
        rfl)
      have okx : okX y.1 y.2.1 y.2.2 := g.air y (List.mem_of_getElem? hy)
      have g2 : Good { s with air := s.air.eraseIdx i } := g.air_of fun z hz => g.air z (List.mem_of_mem_eraseIdx hz)
      have hz2 := sz_air_of (s := s) (s.air.eraseIdx i) (List.length_eraseIdx_le ..)
      have k : Gives Z H0 Hs G (Ha04.deliverAt s i, Ha04.ints (match s.air[i]? with
        | some y => Ha04.sigTold y.2.2
        | none => [])) Q := k
      rw [hy] at k
      have k : Gives Z H0 Hs G (Ha04.deliverAt s i, Ha04.ints (Ha04.sigTold y.2.2)) Q := k
      have ed : Ha04.deliverAt s i = Ha04.arrives { s with air := s.air.eraseIdx i } y.1 y.2.1 y.2.2 := by
        unfold Ha04.deliverAt
        rw [hy]
      refine st_seq (b_drop (va_call (va_cons (val_var rfl) (va_cons (val_var rfl) va_nil)) ⟨H0, H1, G, L2, _, a, y.1, y.2.1, y.2.2, rfl, W2, g2, by omega, hla2, okx, trivial, fun H3 L3 W3 => ?_⟩))
      obtain ⟨dx, t, hl3, ht3⟩ := hla.mono W3.k
      refine b_ret (b_listT (v_told T hl3 (val_var rfl)) (SqT.of ht3) fun l nl => ?_)
      rw [ed] at k
      exact k _ L3 l ((W1.back W3).new nl) (W3.W.same.free nl) upd_same
theorem sc_work : FnScope ["world", "p"] ["world", "p"] (defScope s_work) := ⟨rfl, rfl, rfl, by decide +kernel, rfl, by decide +kernel, by decide +kernel⟩
theorem ok_work {f fD : Addr} {fd fdD : FuncData} (F : Fun K "work" "work" s_work f fd) (T : Txt K mg Z) (G_does_first : Cal P w K mg base 6 "does_first" ["world", "p"] (spDoes Z) fD fdD) : FnOk P w K mg base CX0 7 f fd ["world", "p"] (spAct Z 1 cWork) := by
  refine F.ok sc_work (fun vs H Q E h => ?_) (fun cdv A outer s0 H vs Q E hr h => ?_)
  · obtain ⟨H0, Hs, G, L, s, as, hl, rfl, _⟩ := h
    obtain ⟨p, rfl⟩ := len1 hl
    rfl
  · obtain ⟨H0, Hs, G, L, s, as, hl, rfl, W, g, hz, k⟩ := h
    obtain ⟨p, rfl⟩ := len1 hl
    refine ⟨_, (pss_cons (ps_if (pt_cmp (pc_dnotin (hu_of hr) (pv 1) (pe_fld (pv 0) rfl)))
      (pss_one (ps_ret (pe_lst (pa_cons (pe_gi T.k_NOT_THERE rfl) pa_nil))))
      pss_nil)
    (pss_cons (ps_if (pt_not (pt_val (pe_fld (pe_dget (hu_of hr) (pe_fld (pv 0) rfl) (pv 1) (fun _ _ => rfl)) rfl)))
      (pss_one (ps_ret (pe_lst (pa_cons (pe_gi T.k_NOT_NOW rfl) pa_nil))))
      pss_nil)
    (pss_cons (ps_if (pt_cmpR op_eq (pe_callB call_len_seq (by rfl) T.len PySem.boot_len (pa_cons (pe_fld (pe_dget (hu_of hr) (pe_fld (pv 0) rfl) (pv 1) (fun _ _ => rfl)) rfl) pa_nil)) pe_int (nomark _))
      (pss_one (ps_ret (pe_lst (pa_cons (pe_gi T.k_NOTHING rfl) pa_nil))))
      pss_nil)
    (pss_one (ps_ret (pe_callTy call_list_of (by rfl) T.list (by decide +kernel) (pa_cons (pe_call G_does_first.ok (hr.mono (by decide)) rfl G_does_first.g G_does_first.kp G_does_first.b .nil pass0 (pa_cons (pv 0) (pa_cons (pv 1) pa_nil))) pa_nil))))))), ?_⟩
    have ek : Ha04.step s (cWork [p]) = if Ha04.isServer p = false then (s, [-1]) else if (Ha04.server s p).lives = false then (s, [-8]) else (match (Ha04.server s p).asked with
      | [] => (s, [-5])
      | r :: _ => (Ha04.works s p, Ha04.ints (Ha04.reqTold r))) := rfl
    rw [isS_b] at ek
    by_cases hp : isS p
    · have hS := inS_of hp
      have eal := congrArg ServerM.alive (rep_server s hp)
      rw [ek, if_neg (by rw [decide_eq_true hp]; exact Bool.noConfusion)] at k
      refine st_seq (st_no (Ans.to (a_notInServers T W (val_var rfl) (val_var rfl)) (by rw [decide_eq_true hS]; rfl)) ?_)
      have t2 := ans_not (ans_val (v_alive T W hS (v_server (σ := start ["world", "p"] [.ref G.w, .int p]) T W (val_var (i := 0) rfl) hS (val_var (i := 1) rfl))))
      rw [eal] at t2
      cases ea : (Ha04.server s p).lives with
      | false =>
        rw [if_pos ea] at k
        refine st_seq (st_yes (Ans.to t2 (by show (!(Ha04.server s p).lives) = true; rw [ea]; rfl)) (give_list (xs := [-8]) W (va_cons val_c va_nil) (by decide) k))
      | true =>
        rw [if_neg (by rw [ea]; exact Bool.noConfusion)] at k
        refine st_seq (st_no (Ans.to t2 (by show (!(Ha04.server s p).lives) = false; rw [ea]; rfl)) ?_)
        have t3 := a_eqI (v_lenL (K := K) (v_asked T W hS (v_server (σ := start ["world", "p"] [.ref G.w, .int p]) T W (val_var (i := 0) rfl) hS (val_var (i := 1) rfl))) (SqL.of (W.ask hS))) (val_c (v := .int 0))
        rw [refs_len, W.W.lenAsk hp] at t3
        cases eq : (Ha04.server s p).asked with
        | nil =>
          rw [eq] at k t3
          refine st_seq (st_yes (Ans.to t3 rfl) (give_list (xs := [-5]) W (va_cons val_c va_nil) (by decide) k))
        | cons r l =>
          rw [eq] at k t3
          refine st_seq (st_no (Ans.to t3 (decide_eq_false (by rw [List.length_cons]; omega))) ?_)
          refine st_next ?_
          dsimp only
          refine b_retL ?_
          refine va_call (va_cons (val_var rfl) (va_cons (val_var rfl) va_nil)) ⟨H0, Hs, G, L, s, p, r, l, rfl, W, g, by omega, hp, eq, fun H2 L2 a W2 ha => ?_⟩
          refine ⟨a, _, rfl, .inr (SqT.of ha), fun l nl => ?_⟩
          exact k _ L2 l (W2.new nl) (W2.W.same.free nl) upd_same
    · rw [ek, if_pos (decide_eq_false hp)] at k
      refine st_seq (st_yes (Ans.to (a_notInServers T W (val_var rfl) (val_var rfl)) (by rw [inS_dec, decide_eq_false hp]; rfl)) (give_list (xs := [-1]) W (va_cons val_c va_nil) (by decide) k))
theorem sc_die : FnScope ["world", "p", "watched"] ["world", "p"] (defScope s_die) := ⟨rfl, rfl, rfl, by decide +kernel, rfl, by decide +kernel, by decide +kernel⟩
theorem ok_die {f fD : Addr} {fd fdD : FuncData} (F : Fun K "die" "die" s_die f fd) (T : Txt K mg Z) (G_dies : Cal P w K mg base 4 "dies" ["world", "p"] (spDies Z) fD fdD) : FnOk P w K mg base CX0 5 f fd ["world", "p"] (spAct Z 1 cDie) := by
  refine F.ok sc_die (fun vs H Q E h => ?_) (fun cdv A outer s0 H vs Q E hr h => ?_)
  · obtain ⟨H0, Hs, G, L, s, as, hl, rfl, _⟩ := h
    obtain ⟨p, rfl⟩ := len1 hl
    rfl
  · obtain ⟨H0, Hs, G, L, s, as, hl, rfl, W, g, hz, k⟩ := h
    obtain ⟨p, rfl⟩ := len1 hl
    refine ⟨_, (pss_cons (ps_if (pt_cmp (pc_dnotin (hu_of hr) (pv 1) (pe_fld (pv 0) rfl)))
      (pss_one (ps_ret (pe_lst (pa_cons (pe_gi T.k_NOT_THERE rfl) pa_nil))))
      pss_nil)
    (pss_cons (ps_if (pt_not (pt_val (pe_fld (pe_dget (hu_of hr) (pe_fld (pv 0) rfl) (pv 1) (fun _ _ => rfl)) rfl)))
      (pss_one (ps_ret (pe_lst (pa_cons (pe_gi T.k_NOT_NOW rfl) pa_nil))))
      pss_nil)
    (pss_cons (ps_set (i := 2) sc_die.nd rfl (Or.inl rfl) (pe_callB call_len_seq (by rfl) T.len PySem.boot_len (pa_cons (pe_fld (pe_dget (hu_of hr) (pe_fld (pv 0) rfl) (pv 1) (fun _ _ => rfl)) rfl) pa_nil)))
    (pss_cons (ps_expr (pe_call G_dies.ok (hr.mono (by decide)) rfl G_dies.g G_dies.kp G_dies.b .nil pass0 (pa_cons (pv 0) (pa_cons (pv 1) pa_nil))))
    (pss_one (ps_ret (pe_lst (pa_cons (pv 2) pa_nil)))))))), ?_⟩
    have ek : Ha04.step s (cDie [p]) = if Ha04.isServer p = false then (s, [-1]) else if (Ha04.server s p).lives = false then (s, [-8]) else (Ha04.dies s p, Ha04.ints [(Ha04.server s p).watched.length]) := rfl
    rw [isS_b] at ek
    by_cases hp : isS p
    · have hS := inS_of hp
      have eal := congrArg ServerM.alive (rep_server s hp)
      rw [ek, if_neg (by rw [decide_eq_true hp]; exact Bool.noConfusion)] at k
      refine st_seq (st_no (Ans.to (a_notInServers T W (val_var rfl) (val_var rfl)) (by rw [decide_eq_true hS]; rfl)) ?_)
      have t2 := ans_not (ans_val (v_alive T W hS (v_server (σ := start ["world", "p", "watched"] [.ref G.w, .int p]) T W (val_var (i := 0) rfl) hS (val_var (i := 1) rfl))))
      rw [eal] at t2
      cases ea : (Ha04.server s p).lives with
      | false =>
        rw [if_pos ea] at k
        refine st_seq (st_yes (Ans.to t2 (by show (!(Ha04.server s p).lives) = true; rw [ea]; rfl)) (give_list (xs := [-8]) W (va_cons val_c va_nil) (by decide) k))
      | true =>
        rw [if_neg (by rw [ea]; exact Bool.noConfusion)] at k
        refine st_seq (st_no (Ans.to t2 (by show (!(Ha04.server s p).lives) = false; rw [ea]; rfl)) ?_)
        refine st_seq (st_set (v_lenL (v_watchers T W hS (v_server T W (val_var rfl) hS (val_var rfl))) (SqL.of (W.wat hS))) ?_)
        refine st_seq (b_drop (va_call (va_cons (val_var rfl) (va_cons (val_var rfl) va_nil)) ⟨H0, Hs, G, L, s, p, rfl, W, g, by omega, hp, fun H2 L2 W2 => ?_⟩))
        refine give_list (xs := [((refs (L.watR p)).length : Int)]) W2 (va_cons (val_var rfl) va_nil) (by show 1 ≤ 1000; decide) ?_
        rw [refs_len, W.W.lenWat hp]
        exact k
    · rw [ek, if_pos (decide_eq_false hp)] at k
      refine st_seq (st_yes (Ans.to (a_notInServers T W (val_var rfl) (val_var rfl)) (by rw [inS_dec, decide_eq_false hp]; rfl)) (give_list (xs := [-1]) W (va_cons val_c va_nil) (by decide) k))
end
end AO

set_option Elab.async false
set_option maxRecDepth 100000
set_option maxHeartbeats 4000000
set_option linter.unusedVariables false
namespace AO
open PySem L2
open Ha04 (Req Sig Came)
section
variable {P : Program} {w : World} {K : PySem.W.Frag} {mg : Str → Option Value} {base : Heap} {Z : Cs}
theorem sc_answer : FnScope ["world", "p", "k", "later", "owed"] ["world", "p", "k"] (defScope s_answer) := ⟨rfl, rfl, rfl, by decide +kernel, rfl, by decide +kernel, by decide +kernel⟩
theorem ok_answer {f fS : Addr} {fd fdS : FuncData} (F : Fun K "answer" "answer" s_answer f fd) (T : Txt K mg Z) (G_send : Cal P w K mg base 3 "send" ["world", "sender", "receiver", "told"] (spSend Z) fS fdS) : FnOk P w K mg base CX0 4 f fd ["world", "p", "k"] (spAct Z 2 cAnswer) := by
  refine F.ok sc_answer (fun vs H Q E h => ?_) (fun cdv A outer s0 H vs Q E hr h => ?_)
  · obtain ⟨H0, Hs, G, L, s, as, hl, rfl, _⟩ := h
    obtain ⟨p, n, rfl⟩ := len2 hl
    rfl
  · obtain ⟨H0, Hs, G, L, s, as, hl, rfl, W, g, hz, k⟩ := h
    obtain ⟨p, n, rfl⟩ := len2 hl
    refine ⟨_, (pss_cons (ps_if (pt_cmp (pc_dnotin (hu_of hr) (pv 1) (pe_fld (pv 0) rfl)))
      (pss_one (ps_ret (pe_lst (pa_cons (pe_gi T.k_NOT_THERE rfl) pa_nil))))
      pss_nil)
    (pss_cons (ps_set (i := 3) sc_answer.nd rfl (Or.inl rfl) (pe_fld (pe_dget (hu_of hr) (pe_fld (pv 0) rfl) (pv 1) (fun _ _ => rfl)) rfl))
    (pss_cons (ps_if (PW.pt (pw_or (pt_cmpR op_lt (pv 2) pe_int (nomark _)) (pw_or1 (pt_cmpR op_gt (pv 2) (pe_callB call_len_seq (by rfl) T.len PySem.boot_len (pa_cons (pv 3) pa_nil)) (nomark _)))))
      (pss_one (ps_ret (pe_lst (pa_cons (pe_gi T.k_NOTHING rfl) pa_nil))))
      pss_nil)
    (pss_cons (ps_set (i := 4) sc_answer.nd rfl (Or.inl rfl) (pe_bm PySem.F.plainAttrs_list PySem.F.slot_list_pop PySem.F.type_list_pop mt_popAt (pv 3) (pa_cons (pe_op op_sub (pv 2) pe_int) pa_nil)))
    (pss_cons (ps_expr (pe_call G_send.ok (hr.mono (by decide)) rfl G_send.g G_send.kp G_send.b .nil pass0 (pa_cons (pv 0) (pa_cons (pv 1) (pa_cons (pe_ix ix_tup (pv 4) pe_int (fun _ _ => rfl)) (pa_cons (pe_tup (pa_cons (pe_gi T.k_ANSWER rfl) (pa_cons (pe_ix ix_tup (pv 4) pe_int (fun _ _ => rfl)) (pa_cons (pe_ix ix_tup (pv 4) pe_int (fun _ _ => rfl)) pa_nil)))) pa_nil))))))
    (pss_one (ps_ret (pe_callTy call_list_of (by rfl) T.list (by decide +kernel) (pa_cons (pv 4) pa_nil))))))))), ?_⟩
    have ek : Ha04.step s (cAnswer [p, n]) = if Ha04.isServer p = false then (s, [-1]) else (match (Ha04.server s p).later[n - 1]? with
      | none => (s, [-5])
      | some y => if n = 0 then (s, [-5]) else (Ha04.answers (Ha04.setServer s p { Ha04.server s p with later := (Ha04.server s p).later.eraseIdx (n - 1) }) p y.1 y.2.1 y.2.2, Ha04.ints [y.1, y.2.1, y.2.2])) := rfl
    rw [isS_b] at ek
    by_cases hp : isS p
    · have hS := inS_of hp
      rw [ek, if_neg (by rw [decide_eq_true hp]; exact Bool.noConfusion)] at k
      refine st_seq (st_no (Ans.to (a_notInServers T W (val_var rfl) (val_var rfl)) (by rw [decide_eq_true hS]; rfl)) ?_)
      refine st_seq (st_set (v_later T W hS (v_server T W (val_var rfl) hS (val_var rfl))) ?_)
      have hlen := W.W.lenLat hp
      have hsz := sz_lat (s := s) hp
      have t2 := fun (σ : L2.St) (e2 : σ[2]? = some (some (.int (n : Int)))) (e3 : σ[3]? = some (some (.ref (L.lat p)))) => ans_or2 (a_ltI (val_var (σ := σ) (H := H) e2) (val_c (v := .int 1))) (a_gtI (val_var e2) (v_lenL (K := K) (val_var e3) (SqL.of (W.lat hS))))
      rw [refs_len, hlen] at t2
      by_cases hn : n = 0 ∨ (Ha04.server s p).later.length < n
      · refine st_seq (st_yes (Ans.to (t2 _ rfl rfl) ?_) (give_list (xs := [-5]) W (va_cons val_c va_nil) (by decide) ?_))
        · rcases hn with hn | hn
          · rw [decide_eq_true (show (n : Int) < 1 by omega)]
            rfl
          · rw [decide_eq_true (show (((Ha04.server s p).later.length : Nat) : Int) < (n : Int) by omega), Bool.or_true]
        · cases e : (Ha04.server s p).later[n - 1]? with
          | none =>
            rw [e] at k
            exact k
          | some y =>
            have h1 := (List.getElem?_eq_some_iff.mp e).1
            rw [e] at k
            have k : Gives Z H0 Hs G (if n = 0 then (s, [-5]) else (Ha04.answers (Ha04.setServer s p { Ha04.server s p with later := (Ha04.server s p).later.eraseIdx (n - 1) }) p y.1 y.2.1 y.2.2, Ha04.ints [y.1, y.2.1, y.2.2])) Q := k
            rw [if_pos (by omega)] at k
            exact k
      · refine st_seq (st_no (Ans.to (t2 _ rfl rfl) ?_) ?_)
        · rw [decide_eq_false (show ¬ (n : Int) < 1 by omega), decide_eq_false (show ¬ (((Ha04.server s p).later.length : Nat) : Int) < (n : Int) by omega)]
          rfl
        · obtain ⟨y, hy⟩ : ∃ y, (Ha04.server s p).later[n - 1]? = some y := ⟨_, List.getElem?_eq_getElem (by omega)⟩
          rw [hy] at k
          have k : Gives Z H0 Hs G (if n = 0 then (s, [-5]) else (Ha04.answers (Ha04.setServer s p { Ha04.server s p with later := (Ha04.server s p).later.eraseIdx (n - 1) }) p y.1 y.2.1 y.2.2, Ha04.ints [y.1, y.2.1, y.2.2])) Q := k
          rw [if_neg (by omega)] at k
          have hall : All2 (TupAt H) (L.latR p) ((Ha04.server s p).later.map repT) := by
            have h1 := W.W.held.lat p hS
            rw [rep_server s hp] at h1
            exact h1
          obtain ⟨a, ha, hta⟩ := hall.get (i := n - 1) (b := repT y) (by rw [List.getElem?_map, hy]; rfl)
          have e1 : (n : Int) - 1 = ((n - 1 : Nat) : Int) := by omega
          have hy1 : isC y.1 := g.lat p hp y (List.mem_of_getElem? hy)
          refine st_next ?_
          dsimp only
          refine st_seq (b_set (b_pop (i := n - 1) (val_var rfl) (W.lat hS) (by rw [← e1]; exact v_sub (val_var rfl) val_c) (refs_get ha) (by rw [refs_len]; omega) ?_))
          obtain ⟨L2, W2⟩ := W.re.setLat hS (r := (L.latR p).eraseIdx (n - 1)) (hall.erase (n - 1)) (refs_erase _ _)
          have W2 := W2.cast (show _ = rep (Ha04.setServer s p { Ha04.server s p with later := (Ha04.server s p).later.eraseIdx (n - 1) }) by
            rw [rep_setS g.ls hp, rep_server s hp, map_erase]
            rfl)
          have ha2 := hta.mono W2.k
          have hal := sz_air (s := s)
          refine st_seq (b_drop (b_call4 (val_var rfl) (val_var rfl) (v_ix (j := 0) (val_var rfl) ha2 rfl) (va_tup (va_cons val_c (va_cons (v_ix (j := 1) (val_var rfl) ha2 rfl) (va_cons (v_ix (j := 2) (val_var rfl) ha2 rfl) va_nil))) (by show 3 ≤ 1000; decide) fun t4 n4 => ?_)))
          have W3 := W2.new (o := .tup [.int 3, .int y.2.1, .int y.2.2]) n4
          refine ⟨H0, H, G, _, _, p, y.1, t4, .answer y.2.1 y.2.2, rfl, W3, ?_, upd_same, fun H4 a4 W4 => ?_⟩
          · show s.air.length ≤ _
            omega
          · rw [rep_answers (by unfold isC at hy1; omega)] at W4
            refine b_ret (b_listT (val_var rfl) (SqT.of (hta.mono W4.k)) fun l nl => ?_)
            exact k _ _ l ((W.back W4).new nl) (W4.W.same.free nl) upd_same
    · rw [ek, if_pos (decide_eq_false hp)] at k
      refine st_seq (st_yes (Ans.to (a_notInServers T W (val_var rfl) (val_var rfl)) (by rw [inS_dec, decide_eq_false hp]; rfl)) (give_list (xs := [-1]) W (va_cons val_c va_nil) (by decide) k))
end
end AO

set_option Elab.async false
set_option maxRecDepth 100000
set_option maxHeartbeats 4000000
set_option linter.unusedVariables false
namespace AO
open PySem L2
open Ha04 (Req Sig Came)
/-- the caller waits from now on -/
def waitsOn (s : Ha04.St) (c p : Nat) (o : Option Nat) : Ha04.St := Ha04.setCaller { s with last := s.last + 1 } c { Ha04.caller s c with waits := some (s.last + 1, p, o.map fun t => s.time + t) }
theorem asks_is (s : Ha04.St) (c p what n other : Nat) (o : Option Nat) : Ha04.asks s c p what n other o = Ha04.send (Ha04.send (waitsOn s c p o) c p (.watch (s.last + 1))) c p (.ask ⟨c, s.last + 1, what, n, other⟩) := rfl
theorem Good.last {s : Ha04.St} (g : Good s) (n : Nat) : Good { s with last := n } := ⟨g.lc, g.ls, g.air, g.wait, g.ask, g.lat, g.wat, g.dead⟩
theorem Good.waitsOn {s : Ha04.St} (g : Good s) {c p : Nat} (hc : isC c) (hp : isS p) (o : Option Nat) : Good (waitsOn s c p o) := (g.last _).setC hc fun w e => by
  cases e
  exact hp
theorem Good.asks {s : Ha04.St} (g : Good s) {c p what n other : Nat} (h : ¬ badA c p what n other) (o : Option Nat) : Good (Ha04.asks s c p what n other o) := by
  have hc : isC c := by unfold badA isC isS at *; omega
  have hp : isS p := by unfold badA isC isS at *; omega
  exact ((g.waitsOn hc hp o).send (p := c) (q := p) (x := .watch (s.last + 1)) ⟨hc, hp⟩).send (p := c) (q := p) (x := .ask ⟨c, s.last + 1, what, n, other⟩) ⟨hp, .inr hc, by show what ≤ 4; unfold badA isC isS at *; omega, fun e => by
    have e : what = 2 := e
    show isS other
    unfold badA isC isS at *
    omega⟩
theorem sz_waitsOn {s : Ha04.St} (g : Good s) {c p : Nat} (hc : isC c) (o : Option Nat) : sz (waitsOn s c p o) = sz s := by
  have e := sz_setC (g.last (s.last + 1)) hc { Ha04.caller s c with waits := some (s.last + 1, p, o.map fun t => s.time + t) }
  have e2 : sz ({ s with last := s.last + 1 } : Ha04.St) = sz s := rfl
  have e3 : szC { Ha04.caller s c with waits := some (s.last + 1, p, o.map fun t => s.time + t) } = szC (Ha04.caller s c) := rfl
  have e4 : Ha04.caller ({ s with last := s.last + 1 } : Ha04.St) c = Ha04.caller s c := rfl
  rw [e2, e3, e4] at e
  unfold waitsOn
  omega
theorem sz_asks {s : Ha04.St} (g : Good s) {c p what n other : Nat} (hc : isC c) (o : Option Nat) : sz (Ha04.asks s c p what n other o) = sz s + 2 := by
  rw [asks_is, sz_send, sz_send, sz_waitsOn g hc]
theorem rep_waitsOn {s : Ha04.St} (g : Good s) {c p : Nat} (hc : isC c) (o : Option Nat) : ({ rep s with made := ((s.last + 1 : Nat) : Int) } : M).setC c { ({ rep s with made := ((s.last + 1 : Nat) : Int) } : M).callers c with waiting := repW (some (s.last + 1, p, o.map fun t => s.time + t)) } = rep (waitsOn s c p o) := by
  unfold waitsOn
  rw [rep_setC (s := { s with last := s.last + 1 }) g.lc hc]
  show _ = (rep { s with last := s.last + 1 }).setC c _
  refine congrArg _ ?_
  show CallerM.mk _ ((rep s).callers c).came = CallerM.mk _ _
  rw [rep_caller s hc]
  rfl
theorem caller_asks {s : Ha04.St} (g : Good s) {c p what n other : Nat} (hc : isC c) (o : Option Nat) : (Ha04.caller (Ha04.asks s c p what n other o) c).waits = some (s.last + 1, p, o.map fun t => s.time + t) := by
  have e : Ha04.caller (Ha04.asks s c p what n other o) c = Ha04.caller (waitsOn s c p o) c := rfl
  rw [e]
  unfold waitsOn
  rw [caller_set (s := { s with last := s.last + 1 }) g.lc hc]
section
variable {K : PySem.W.Frag} {σ : L2.St} {H : Hp} {ta tb te : TE} {t u : TT} {D : Ends} {Q : VK}
theorem v_if {b : Bool} {v : V} (h : Ans t σ H b) (h1 : b = true → Val ta σ H v) (h2 : b = false → Val tb σ H v) : Val (tIf t ta tb) σ H v := fun Q q => h _ (by
  cases b with
  | true => exact h1 rfl Q q
  | false => exact h2 rfl Q q)
end
section
variable {P : Program} {w : World} {K : PySem.W.Frag} {mg : Str → Option Value} {base : Heap} {Z : Cs}
theorem sc_ask : FnScope ["world", "c", "p", "what", "much", "other", "ends", "ticks", "number", "over"] ["world", "c", "p", "what", "much", "other", "ends", "ticks"] (defScope s_ask) := ⟨rfl, rfl, rfl, by decide +kernel, rfl, by decide +kernel, by decide +kernel⟩
theorem ok_ask {f fS fB fC fT : Addr} {fd fdS fdB fdC fdT : FuncData} (F : Fun K "ask" "ask" s_ask f fd) (T : Txt K mg Z) (G_send : Cal P w K mg base 3 "send" ["world", "sender", "receiver", "told"] (spSend Z) fS fdS) (G_asked_badly : Cal P w K mg base 1 "asked_badly" ["world", "c", "p", "what", "much", "other"] (spBad Z) fB fdB)
    (G_comes_back : Cal P w K mg base 4 "comes_back" ["world", "c", "how", "answer"] (spComes Z) fC fdC) (C_Wait : Mak P w K mg base 1 "Wait" ["self", "number", "server", "ends", "over"] (spWait Z) Z.T fT fdT) : FnOk P w K mg base CX0 5 f fd ["world", "c", "p", "what", "much", "other", "ends", "ticks"] (spAct Z 7 cAsk) := by
  refine F.ok sc_ask (fun vs H Q E h => ?_) (fun cdv A outer s0 H vs Q E hr h => ?_)
  · obtain ⟨H0, Hs, G, L, s, as, hl, rfl, _⟩ := h
    obtain ⟨c, p, what, n, other, e, t, rfl⟩ := len7 hl
    rfl
  · obtain ⟨H0, Hs, G, L, s, as, hl, rfl, W, g, hz, k⟩ := h
    obtain ⟨c, p, what, n, other, e, t, rfl⟩ := len7 hl
    refine ⟨_, (pss_cons (ps_if (pt_val (pe_call G_asked_badly.ok (hr.mono (by decide)) rfl G_asked_badly.g G_asked_badly.kp G_asked_badly.b .nil pass0 (pa_cons (pv 0) (pa_cons (pv 1) (pa_cons (pv 2) (pa_cons (pv 3) (pa_cons (pv 4) (pa_cons (pv 5) pa_nil))))))))
      (pss_one (ps_ret (pe_lst (pa_cons (pe_gi T.k_NOT_THERE rfl) pa_nil))))
      pss_nil)
    (pss_cons (ps_if (PW.pt (pw_or (pt_cmpR op_gt (pv 6) pe_int (nomark _)) (pw_or1 (pt_cmpR op_gt (pv 7) (pe_gi T.k_MOST_TICKS rfl) (nomark _)))))
      (pss_one (ps_ret (pe_lst (pa_cons (pe_gi T.k_BAD_END rfl) pa_nil))))
      pss_nil)
    (pss_cons (ps_if (pt_cmpR op_notN (pe_fld (pe_dget (hu_of hr) (pe_fld (pv 0) rfl) (pv 1) (fun _ _ => rfl)) rfl) pe_non (nomark _))
      (pss_one (ps_ret (pe_lst (pa_cons (pe_gi T.k_NOT_NOW rfl) pa_nil))))
      pss_nil)
    (pss_cons (ps_if (pt_cmpR op_ge (pe_callB call_len_seq (by rfl) T.len PySem.boot_len (pa_cons (pe_fld (pv 0) rfl) pa_nil)) (pe_gi T.k_FULL_AIR rfl) (nomark _))
      (pss_one (ps_ret (pe_lst (pa_cons (pe_gi T.k_TOO_MANY rfl) pa_nil))))
      pss_nil)
    (pss_cons (ps_fldaug (pv 0) pe_int in_add)
    (pss_cons (ps_set (i := 8) sc_ask.nd rfl (Or.inl rfl) (pe_fld (pv 0) rfl))
    (pss_cons (ps_set (i := 9) sc_ask.nd rfl (Or.inl rfl) (pe_ifExp (pt_cmpR op_eq (pv 6) pe_int (nomark _)) (pe_op op_add (pe_fld (pv 0) rfl) (pv 7)) pe_int))
    (pss_cons (ps_fld (pe_dget (hu_of hr) (pe_fld (pv 0) rfl) (pv 1) (fun _ _ => rfl)) (pe_make C_Wait.M C_Wait.ok (hr.mono (by decide)) rfl C_Wait.g C_Wait.b .nil pass0 (pa_cons (pv 8) (pa_cons (pv 2) (pa_cons (pv 6) (pa_cons (pv 9) pa_nil))))) rfl)
    (pss_cons (ps_expr (pe_call G_send.ok (hr.mono (by decide)) rfl G_send.g G_send.kp G_send.b .nil pass0 (pa_cons (pv 0) (pa_cons (pv 1) (pa_cons (pv 2) (pa_cons (pe_tup (pa_cons (pe_gi T.k_WATCH rfl) (pa_cons (pv 8) pa_nil))) pa_nil))))))
    (pss_cons (ps_expr (pe_call G_send.ok (hr.mono (by decide)) rfl G_send.g G_send.kp G_send.b .nil pass0 (pa_cons (pv 0) (pa_cons (pv 1) (pa_cons (pv 2) (pa_cons (pe_tup (pa_cons (pe_gi T.k_ASKED rfl) (pa_cons (pv 1) (pa_cons (pv 8) (pa_cons (pv 3) (pa_cons (pv 4) (pa_cons (pv 5) pa_nil))))))) pa_nil))))))
    (pss_cons (ps_if (PW.pt (pw_and (pt_cmpR op_eq (pv 6) pe_int (nomark _)) (pw_and1 (pt_cmpR op_eq (pv 7) pe_int (nomark _)))))
      (pss_one (ps_expr (pe_call G_comes_back.ok (hr.mono (by decide)) rfl G_comes_back.g G_comes_back.kp G_comes_back.b .nil pass0 (pa_cons (pv 0) (pa_cons (pv 1) (pa_cons (pe_gi T.k_CAME_OVER rfl) (pa_cons pe_int pa_nil)))))))
      pss_nil)
    (pss_one (ps_ret (pe_lst (pa_cons (pv 8) pa_nil))))))))))))))), ?_⟩
    have ek : Ha04.step s (cAsk [c, p, what, n, other, e, t]) = if Ha04.isCaller c = false ∨ Ha04.isServer p = false ∨ 4 < what ∨ 1000 < n ∨ (what = 2 ∧ Ha04.isServer other = false) ∨ (what ≠ 2 ∧ other ≠ 0) then (s, [-1])
      else if 1 < e ∨ 10000 < t then (s, [-2])
      else if (Ha04.caller s c).waits.isSome = true then (s, [-8])
      else if Ha04.AIR ≤ s.air.length then (s, [-6])
      else if e = 1 ∧ t = 0 then (Ha04.comes (Ha04.asks s c p what n other (some 0)) c (s.last + 1) 2 0, Ha04.ints [s.last + 1])
      else (Ha04.asks s c p what n other (if e = 1 then some t else none), Ha04.ints [s.last + 1]) := rfl
    rw [isC_b, isS_b, isS_b] at ek
    have eb : badA c p what n other ↔ (decide (isC c) = false ∨ decide (isS p) = false ∨ 4 < what ∨ 1000 < n ∨ (what = 2 ∧ decide (isS other) = false) ∨ (what ≠ 2 ∧ other ≠ 0)) := by
      rw [decide_eq_false_iff_not, decide_eq_false_iff_not, decide_eq_false_iff_not]
      exact Iff.rfl
    have t1 := fun (b : Bool) (eq : decide (badA c p what n other) = b) => Ans.to (ans_call (sp := spBad Z) (E := E0) (tr := tCons (tVar 0) (tCons (tVar 1) (tCons (tVar 2) (tCons (tVar 3) (tCons (tVar 4) (tCons (tVar 5) tNil)))))) (σ := start ["world", "c", "p", "what", "much", "other", "ends", "ticks", "number", "over"] [.ref G.w, .int c, .int p, .int what, .int n, .int other, .int e, .int t]) (H := H) (b := decide (badA c p what n other))
      (va_cons (val_var rfl) (va_cons (val_var rfl) (va_cons (val_var rfl) (va_cons (val_var rfl) (va_cons (val_var rfl) (va_cons (val_var rfl) va_nil)))))) fun Q q => ⟨H0, Hs, G, L, s, c, p, what, n, other, rfl, W, q⟩) eq
    by_cases hb : badA c p what n other
    · refine st_seq (st_yes (t1 true (decide_eq_true hb)) (give_list (xs := [-1]) W (va_cons val_c va_nil) (by decide) ?_))
      rw [ek, if_pos (eb.mp hb)] at k
      exact k
    · rw [ek, if_neg fun h => hb (eb.mpr h)] at k
      refine st_seq (st_no (t1 false (decide_eq_false hb)) ?_)
      have hc : isC c := by unfold badA isC isS at *; omega
      have hp : isS p := by unfold badA isC isS at *; omega
      have hC := inC_of hc
      by_cases h2 : 1 < e ∨ 10000 < t
      · refine st_seq (st_yes (Ans.to (ans_or2 (a_gtI (val_var rfl) val_c) (a_gtI (val_var rfl) val_c)) (b' := true) ?_) (give_list (xs := [-2]) W (va_cons val_c va_nil) (by decide) ?_))
        · show (decide ((1 : Int) < (e : Int)) || decide ((10000 : Int) < (t : Int))) = true
          rcases h2 with h2 | h2
          · rw [decide_eq_true (show (1 : Int) < (e : Int) by omega)]
            rfl
          · rw [decide_eq_true (show (10000 : Int) < (t : Int) by omega), Bool.or_true]
        · rw [if_pos h2] at k
          exact k
      · rw [if_neg h2] at k
        refine st_seq (st_no (Ans.to (ans_or2 (a_gtI (val_var rfl) val_c) (a_gtI (val_var rfl) val_c)) (b' := false) ?_) ?_)
        · show (decide ((1 : Int) < (e : Int)) || decide ((10000 : Int) < (t : Int))) = false
          rw [decide_eq_false (show ¬ (1 : Int) < (e : Int) by omega), decide_eq_false (show ¬ (10000 : Int) < (t : Int) by omega)]
          rfl
        · have hW := W.W.wait hc
          cases ew : (Ha04.caller s c).waits with
          | some y =>
            rw [ew] at k
            obtain ⟨x1, ex, en, es⟩ := repW_some (w := y)
            rw [ew, ex] at hW
            obtain ⟨aw, dw, eW, hA⟩ := hW
            refine st_next (st_seq (st_yes (ans_notN (v_waitingIs T W hC eW (v_caller T W (val_var rfl) hC (val_var rfl))) rfl) (give_list (xs := [-8]) W (va_cons val_c va_nil) (by decide) ?_)))
            exact k
          | none =>
            rw [ew] at k hW
            refine st_next (st_seq (st_no (ans_notN (v_waitingIs T W hC hW (v_caller T W (val_var rfl) hC (val_var rfl))) rfl) ?_))
            have k : Gives Z H0 Hs G (if Ha04.AIR ≤ s.air.length then (s, [-6])
              else if e = 1 ∧ t = 0 then (Ha04.comes (Ha04.asks s c p what n other (some 0)) c (s.last + 1) 2 0, Ha04.ints [s.last + 1])
              else (Ha04.asks s c p what n other (if e = 1 then some t else none), Ha04.ints [s.last + 1])) Q := k
            have t2 := a_geI (v_lenL (K := K) (v_air (σ := start ["world", "c", "p", "what", "much", "other", "ends", "ticks", "number", "over"] [.ref G.w, .int c, .int p, .int what, .int n, .int other, .int e, .int t]) T W (val_var (i := 0) rfl)) (SqL.of W.air)) (val_c (v := .int 150))
            rw [refs_len, W.W.lenAir] at t2
            by_cases ha : Ha04.AIR ≤ s.air.length
            · refine st_seq (st_yes (Ans.to t2 (decide_eq_true (by unfold Ha04.AIR at ha; omega))) (give_list (xs := [-6]) W (va_cons val_c va_nil) (by decide) ?_))
              rw [if_pos ha] at k
              exact k
            · refine st_seq (st_no (Ans.to t2 (decide_eq_false (by unfold Ha04.AIR at ha; omega))) ?_)
              rw [if_neg ha] at k
              have hal := sz_air (s := s)
              refine st_next (st_seq (st_aug (val_var rfl) W.w T.cW T.nW_made (wF_made _ _ _ _) val_c (fun Q q => ⟨_, _, rfl, rfl, q⟩) (by show 5 < 1000; decide) ?_))
              have W1 := W.setMade ((rep s).made + 1)
              refine st_seq (st_set (v_made T W1 (val_var rfl)) ?_)
              obtain ⟨o, eo⟩ : ∃ o, o = if e = 1 then some t else none := ⟨_, rfl⟩
              obtain ⟨ov, eov⟩ : ∃ ov : Int, ov = if e = 1 then ((s.time : Int) + (t : Int)) else 0 := ⟨_, rfl⟩
              have ewm : repW (some (s.last + 1, p, o.map fun t => s.time + t)) = some ⟨(s.last : Int) + 1, p, e, ov⟩ := by
                by_cases h1 : e = 1
                · rw [eo, eov, if_pos h1, if_pos h1, h1]
                  rfl
                · rw [eo, eov, if_neg h1, if_neg h1, show e = 0 by omega]
                  rfl
              have vov : ∀ (σ : L2.St) (e6 : σ[6]? = some (some (.int (e : Int)))) (e7 : σ[7]? = some (some (.int (t : Int)))) (e0 : σ[0]? = some (some (.ref G.w))), Val (tIf (tTest (tOp rEq (tVar 6) (tC (.int 1)))) (tOp (rI0 fun i j => .int (i + j)) (tFld K (tVar 0) "now") (tVar 7)) (tC (.int 0))) σ _ (.int ov) := fun σ e6 e7 e0 => by
                refine v_if (a_eqI (val_var e6) val_c) (fun h => ?_) (fun h => ?_)
                · have h : (e : Int) = 1 := of_decide_eq_true h
                  rw [eov, if_pos (by omega)]
                  exact v_add (v_now T W1 (val_var e0)) (val_var e7)
                · have h : ¬ (e : Int) = 1 := of_decide_eq_false h
                  rw [eov, if_neg (by omega)]
                  exact val_c
              refine st_seq (st_set (vov _ rfl rfl rfl) ?_)
              refine st_seq (b_fldV (b_make (va_cons (val_var rfl) (va_cons (val_var rfl) (va_cons (val_var rfl) (va_cons (val_var rfl) va_nil)))) fun x dx nx ndx nex => ⟨x, dx, ⟨(s.last : Int) + 1, p, e, ov⟩, rfl, upd_same, rfl, ?_⟩))
              rw [upd_upd]
              have s2 := (Same.new (o := .own x) ndx).trans (Same.new (o := .ins Z.T dx (tF ⟨(s.last : Int) + 1, p, e, ov⟩)) (show upd _ dx (.own x) x = none by rw [upd_ne nex.symm]; exact nx))
              have W2 := W1.mono s2
              refine b_val (v_caller T W2 (val_var rfl) hC (val_var rfl)) ⟨_, _, _, _, rfl, W2.cal hC, T.cC, T.nC_waiting, (by show 2 < 1000; decide), ?_⟩
              obtain ⟨L3, W3⟩ := W2.setWait hC (v := .ref x) (x := some ⟨(s.last : Int) + 1, p, e, ov⟩) ⟨x, dx, rfl, upd_same⟩
              have W3 := W3.cast (show _ = rep (waitsOn s c p o) by
                rw [← rep_waitsOn g hc o, ewm]
                rfl)
              have hz3 := sz_waitsOn (p := p) g hc o
              have ha3 := sz_air (s := waitsOn s c p o)
              refine st_seq (b_drop (b_call4 (val_var rfl) (val_var rfl) (val_var rfl) (va_tup (va_cons val_c (va_cons (val_var rfl) va_nil)) (by show 2 ≤ 1000; decide) fun t4 n4 => ?_)))
              have W4 := W3.new (o := .tup [.int 1, .int ((s.last : Int) + 1)]) n4
              refine ⟨H0, Hs, G, _, _, c, p, t4, .watch (s.last + 1), rfl, W4, by omega, upd_same, fun H5 a5 W5 => ?_⟩
              refine st_seq (b_drop (b_call4 (val_var rfl) (val_var rfl) (val_var rfl) (va_tup (va_cons val_c (va_cons (val_var rfl) (va_cons (val_var rfl) (va_cons (val_var rfl) (va_cons (val_var rfl) (va_cons (val_var rfl) va_nil)))))) (by show 6 ≤ 1000; decide) fun t6 n6 => ?_)))
              have W6 := W5.new (o := .tup [.int 0, .int c, .int ((s.last : Int) + 1), .int what, .int n, .int other]) n6
              refine ⟨H0, Hs, G, _, _, c, p, t6, .ask ⟨c, s.last + 1, what, n, other⟩, rfl, W6, ?_, upd_same, fun H7 a7 W7 => ?_⟩
              · have h5 := sz_air (s := Ha04.send (waitsOn s c p o) c p (.watch (s.last + 1)))
                rw [sz_send] at h5
                omega
              · have W7 : Go Z H0 Hs G H7 _ (rep (Ha04.asks s c p what n other o)) := W7
                have t3 : ∀ (σ : L2.St) (e6 : σ[6]? = some (some (.int (e : Int)))) (e7 : σ[7]? = some (some (.int (t : Int)))), Ans (tAnd (tTest (tOp rEq (tVar 6) (tC (.int 1)))) (tTest (tOp rEq (tVar 7) (tC (.int 0))))) σ H7 (decide ((e : Int) = 1) && decide ((t : Int) = 0)) := fun σ e6 e7 => ans_and2 (a_eqI (val_var e6) val_c) (a_eqI (val_var e7) val_c)
                have fin : ∀ {H8 : Hp} {L8 : Lay} {s8 : Ha04.St} {σ : L2.St} {D : Ends} (e8 : σ[8]? = some (some (.int ((s.last : Int) + 1)))), Go Z H0 Hs G H8 L8 (rep s8) → Gives Z H0 Hs G (s8, Ha04.ints [s.last + 1]) D.rt → tRet (tLst (tCons (tVar 8) tNil)) D σ H8 := fun e8 W8 k8 => give_list (xs := [((s.last + 1 : Nat) : Int)]) W8 (va_cons (val_var e8) va_nil) (by show 1 ≤ 1000; decide) k8
                by_cases h3 : e = 1 ∧ t = 0
                · rw [if_pos h3] at k
                  have eo0 : o = some 0 := by rw [eo, if_pos h3.1, h3.2]
                  rw [eo0] at W7
                  refine st_seq (st_yes (Ans.to (t3 _ rfl rfl) (by rw [decide_eq_true (show (e : Int) = 1 by omega), decide_eq_true (show (t : Int) = 0 by omega)]; rfl)) ?_)
                  refine b_drop (b_call4 (val_var rfl) (val_var rfl) val_c (val_c _ ?_))
                  refine ⟨H0, Hs, G, _, _, c, 2, 0, _, rfl, W7, g.asks hb (some 0), ?_, hc, caller_asks g hc (some 0), fun H8 L8 W8 => fin rfl W8 k⟩
                  rw [sz_asks g hc]
                  omega
                · rw [if_neg h3, ← eo] at k
                  refine st_seq (st_no (Ans.to (t3 _ rfl rfl) ?_) (st_next (fin rfl W7 k)))
                  by_cases h4 : e = 1
                  · rw [decide_eq_false (show ¬ (t : Int) = 0 by omega), Bool.and_false]
                  · rw [decide_eq_false (show ¬ (e : Int) = 1 by omega)]
                    rfl
end
end AO

set_option Elab.async false
set_option maxRecDepth 100000
set_option maxHeartbeats 4000000
set_option linter.unusedVariables false
namespace AO
open PySem L2
open Ha04 (Req Sig Came)
/-! ### 15. A new world -/
theorem upd_comm {H : Hp} {a b : Addr} {o u : HO} (h : a ≠ b) : upd (upd H a o) b u = upd (upd H b u) a o := by
  funext c
  unfold upd
  by_cases e1 : c = a
  · rw [if_pos e1]
    by_cases e2 : c = b
    · exact absurd (e1.symm.trans e2) h
    · rw [if_neg e2, if_pos e1]
  · rw [if_neg e1, if_neg e1]
/-- what was made so far, each at a place of its own that was free; outs: places that still change -/
structure Log (H0 H : Hp) (outs : List Addr) (cells : List (Addr × HO)) : Prop where
  same : Same H0 H
  o0 : ∀ q ∈ outs, H0 q = none ∧ H q ≠ none
  at_ : ∀ y ∈ cells, H y.1 = some y.2
  c0 : ∀ y ∈ cells, H0 y.1 = none
  ne : ∀ y ∈ cells, ∀ q ∈ outs, y.1 ≠ q
  nd : (cells.map (·.1)).Nodup
section
variable {H0 H H' : Hp} {outs : List Addr} {cells : List (Addr × HO)}
theorem Log.mono (g : Log H0 H outs cells) (s : Same H H') : Log H0 H' outs cells :=
  ⟨g.same.trans s, fun q hq => ⟨(g.o0 q hq).1, fun e => by
    cases h : H q with
    | none => exact (g.o0 q hq).2 h
    | some o => rw [s q o h] at e; cases e⟩, fun y hy => s _ _ (g.at_ y hy), g.c0, g.ne, g.nd⟩
theorem Log.put (g : Log H0 H outs cells) {q : Addr} {o : HO} (hq : q ∈ outs) : Log H0 (upd H q o) outs cells := by
  refine ⟨fun b u e => ?_, fun r hr => ⟨(g.o0 r hr).1, fun e => ?_⟩, fun y hy => ?_, g.c0, g.ne, g.nd⟩
  · rw [upd_ne (ne_of_none e (g.o0 q hq).1)]
    exact g.same b u e
  · by_cases er : r = q
    · subst er
      rw [upd_same] at e
      cases e
    · rw [upd_ne er] at e
      exact (g.o0 r hr).2 e
  · rw [upd_ne (g.ne y hy q hq)]
    exact g.at_ y hy
theorem Log.add (g : Log H0 H outs cells) (s : Same H H') {p : Addr} {o : HO} (np : H p = none) (hp : H' p = some o) : Log H0 H' outs (cells ++ [(p, o)]) := by
  have g' := g.mono s
  refine ⟨g'.same, g'.o0, fun y hy => ?_, fun y hy => ?_, fun y hy q hq => ?_, ?_⟩
  · rcases List.mem_append.mp hy with hy | hy
    · exact g'.at_ y hy
    · rw [List.mem_singleton.mp hy]
      exact hp
  · rcases List.mem_append.mp hy with hy | hy
    · exact g'.c0 y hy
    · rw [List.mem_singleton.mp hy]
      exact g.same.free np
  · rcases List.mem_append.mp hy with hy | hy
    · exact g'.ne y hy q hq
    · rw [List.mem_singleton.mp hy]
      intro e
      exact (g.o0 q hq).2 (e ▸ np)
  · rw [List.map_append]
    refine List.nodup_append.mpr ⟨g.nd, (by simp), fun a ha b hb => ?_⟩
    obtain ⟨y, hy, rfl⟩ := List.mem_map.mp ha
    have hb : b = p := List.mem_singleton.mp hb
    rw [hb]
    exact ne_of_none (g.at_ y hy) np
theorem Log.out (g : Log H0 H outs cells) {p : Addr} {o : HO} (np : H p = none) : Log H0 (upd H p o) (p :: outs) cells := by
  have g' := g.mono (Same.new (o := o) np)
  refine ⟨g'.same, fun q hq => ?_, g'.at_, g'.c0, fun y hy q hq => ?_, g'.nd⟩
  · rcases List.mem_cons.mp hq with rfl | hq
    · exact ⟨g.same.free np, fun e => by rw [upd_same] at e; cases e⟩
    · exact g'.o0 q hq
  · rcases List.mem_cons.mp hq with rfl | hq
    · exact ne_of_none (g.at_ y hy) np
    · exact g'.ne y hy q hq
theorem Log.seal {q : Addr} {o : HO} (g : Log H0 H (q :: outs) cells) (hq : H q = some o) (hn : ∀ r ∈ outs, q ≠ r) : Log H0 H outs (cells ++ [(q, o)]) := by
  refine ⟨g.same, fun r hr => g.o0 r (List.mem_cons_of_mem _ hr), fun y hy => ?_, fun y hy => ?_, fun y hy r hr => ?_, ?_⟩
  · rcases List.mem_append.mp hy with hy | hy
    · exact g.at_ y hy
    · rw [List.mem_singleton.mp hy]
      exact hq
  · rcases List.mem_append.mp hy with hy | hy
    · exact g.c0 y hy
    · rw [List.mem_singleton.mp hy]
      exact (g.o0 q (List.mem_cons_self ..)).1
  · rcases List.mem_append.mp hy with hy | hy
    · exact g.ne y hy r (List.mem_cons_of_mem _ hr)
    · rw [List.mem_singleton.mp hy]
      exact hn r hr
  · rw [List.map_append]
    refine List.nodup_append.mpr ⟨g.nd, (by simp), fun a ha b hb => ?_⟩
    obtain ⟨y, hy, rfl⟩ := List.mem_map.mp ha
    have hb : b = q := List.mem_singleton.mp hb
    rw [hb]
    exact g.ne y hy q (List.mem_cons_self ..)
end
def srv0 : ServerM := ⟨true, 1, 0, [], [], []⟩
def spCaller (Z : Cs) : Sp := fun vs H Q _ => ∃ (x dx : Addr), vs = [.ref x] ∧ H x = some (.ins Z.C dx []) ∧ ∀ l, H l = none → Q .non (upd (upd H l (.lst [])) x (.ins Z.C dx (cF .non l)))
def spServer (Z : Cs) : Sp := fun vs H Q _ => ∃ (x dx : Addr), vs = [.ref x] ∧ H x = some (.ins Z.S dx []) ∧ ∀ a l t, H a = none → H l = none → H t = none → a ≠ l → a ≠ t → l ≠ t →
  Q .non (upd (upd (upd (upd H a (.lst [])) l (.lst [])) t (.lst [])) x (.ins Z.S dx (sF srv0 a l t)))
theorem cF_new (a : Addr) : putF "came" (.ref a) (putF "waiting" .non []) = cF .non a := put_past (by decide +kernel)
theorem sF_new (a l t : Addr) : putF "watchers" (.ref t) (putF "later" (.ref l) (putF "asked" (.ref a) (putF "total" (.int 0) (putF "lives" (.int 1) (putF "alive" (.bl true) []))))) = sF srv0 a l t := by
  have e1 : putF "lives" (.int 1) (putF "alive" (.bl true) []) = [(("alive" : Str), (.bl true : V)), (("lives" : Str), (.int 1 : V))] := put_past (by decide +kernel)
  have e2 : putF "total" (.int 0) [(("alive" : Str), (.bl true : V)), (("lives" : Str), (.int 1 : V))] = [(("alive" : Str), (.bl true : V)), (("lives" : Str), (.int 1 : V)), (("total" : Str), (.int 0 : V))] := ((put_past (by decide +kernel)).trans (congrArg _ (put_past (by decide +kernel))))
  have e3 : putF "asked" (.ref a) [(("alive" : Str), (.bl true : V)), (("lives" : Str), (.int 1 : V)), (("total" : Str), (.int 0 : V))] = [(("alive" : Str), (.bl true : V)), (("lives" : Str), (.int 1 : V)), (("total" : Str), (.int 0 : V)), (("asked" : Str), (.ref a : V))] := ((put_past (by decide +kernel)).trans (congrArg _ ((put_past (by decide +kernel)).trans (congrArg _ (put_past (by decide +kernel))))))
  have e4 : putF "later" (.ref l) [(("alive" : Str), (.bl true : V)), (("lives" : Str), (.int 1 : V)), (("total" : Str), (.int 0 : V)), (("asked" : Str), (.ref a : V))] = [(("alive" : Str), (.bl true : V)), (("lives" : Str), (.int 1 : V)), (("total" : Str), (.int 0 : V)), (("asked" : Str), (.ref a : V)), (("later" : Str), (.ref l : V))] := ((put_past (by decide +kernel)).trans (congrArg _ ((put_past (by decide +kernel)).trans (congrArg _ ((put_past (by decide +kernel)).trans (congrArg _ (put_past (by decide +kernel))))))))
  rw [e1, e2, e3, e4]
  exact ((put_past (by decide +kernel)).trans (congrArg _ ((put_past (by decide +kernel)).trans (congrArg _ ((put_past (by decide +kernel)).trans (congrArg _ ((put_past (by decide +kernel)).trans (congrArg _ (put_past (by decide +kernel))))))))))
section
variable {P : Program} {w : World} {K : PySem.W.Frag} {mg : Str → Option Value} {base : Heap} {Z : Cs}
theorem sc_Caller : FnScope ["self"] ["self"] (defScope s_Caller) := ⟨rfl, rfl, rfl, by decide +kernel, rfl, by decide +kernel, by decide +kernel⟩
theorem ok_Caller {f : Addr} {fd : FuncData} (F : Fun K "__init__" "Caller.__init__" s_Caller f fd) (T : Txt K mg Z) : FnOk P w K mg base CX0 1 f fd ["self"] (spCaller Z) := by
  refine F.ok sc_Caller (fun vs H Q E h => ?_) (fun cdv A outer s H vs Q E hr h => ?_)
  · obtain ⟨x, dx, rfl, _⟩ := h
    rfl
  · obtain ⟨x, dx, rfl, hx, k⟩ := h
    refine ⟨_, (pss_cons (ps_fld (pv 0) pe_non rfl)
    (pss_one (ps_fld (pv 0) (pe_lst pa_nil) rfl))), ?_⟩
    refine st_seq (st_fld val_c (val_var rfl) hx T.cC T.nC_waiting (by decide) ?_)
    refine b_fldL fun l nl => ?_
    have nx : l ≠ x := fun e => by rw [e, upd_same] at nl; cases nl
    have nl' : H l = none := by rw [upd_ne nx] at nl; exact nl
    refine ⟨x, _, _, _, val_var rfl, by rw [upd_ne nx.symm]; exact upd_same, T.cC, T.nC_came, putF_lt (by decide), ?_⟩
    show Q _ _
    rw [upd_comm nx.symm, upd_upd, cF_new]
    exact k l nl'
theorem sc_Server : FnScope ["self"] ["self"] (defScope s_Server) := ⟨rfl, rfl, rfl, by decide +kernel, rfl, by decide +kernel, by decide +kernel⟩
theorem ok_Server {f : Addr} {fd : FuncData} (F : Fun K "__init__" "Server.__init__" s_Server f fd) (T : Txt K mg Z) : FnOk P w K mg base CX0 1 f fd ["self"] (spServer Z) := by
  refine F.ok sc_Server (fun vs H Q E h => ?_) (fun cdv A outer s H vs Q E hr h => ?_)
  · obtain ⟨x, dx, rfl, _⟩ := h
    rfl
  · obtain ⟨x, dx, rfl, hx, k⟩ := h
    refine ⟨_, (pss_cons (ps_fld (pv 0) pe_bl rfl)
    (pss_cons (ps_fld (pv 0) pe_int rfl)
    (pss_cons (ps_fld (pv 0) pe_int rfl)
    (pss_cons (ps_fld (pv 0) (pe_lst pa_nil) rfl)
    (pss_cons (ps_fld (pv 0) (pe_lst pa_nil) rfl)
    (pss_one (ps_fld (pv 0) (pe_lst pa_nil) rfl))))))), ?_⟩
    refine st_seq (st_fld val_c (val_var rfl) hx T.cS T.nS_alive (by decide) ?_)
    dsimp only
    refine st_seq (st_fld val_c (val_var rfl) upd_same T.cS T.nS_lives (putF_lt (by decide)) ?_)
    dsimp only
    refine st_seq (st_fld val_c (val_var rfl) upd_same T.cS T.nS_total (putF_lt (putF_lt (by decide))) ?_)
    dsimp only
    refine st_seq (b_fldL fun a na => ?_)
    have nax : a ≠ x := fun e => by rw [e, upd_same] at na; cases na
    have na' : H a = none := by rw [upd_ne nax, upd_ne nax, upd_ne nax] at na; exact na
    refine ⟨x, _, _, _, val_var rfl, (upd_ne nax.symm).trans upd_same, T.cS, T.nS_asked, putF_lt (putF_lt (putF_lt (by decide))), ?_⟩
    dsimp only
    refine st_seq (b_fldL fun l nl => ?_)
    have nlx : l ≠ x := fun e => by rw [e, upd_same] at nl; cases nl
    have nla : l ≠ a := fun e => by rw [upd_ne nlx, e, upd_same] at nl; cases nl
    have nl' : H l = none := by rw [upd_ne nlx, upd_ne nla, upd_ne nlx, upd_ne nlx, upd_ne nlx] at nl; exact nl
    refine ⟨x, _, _, _, val_var rfl, (upd_ne nlx.symm).trans upd_same, T.cS, T.nS_later, putF_lt (putF_lt (putF_lt (putF_lt (by decide)))), ?_⟩
    dsimp only
    refine b_fldL fun t nt => ?_
    have ntx : t ≠ x := fun e => by rw [e, upd_same] at nt; cases nt
    have ntl : t ≠ l := fun e => by rw [upd_ne ntx, e, upd_same] at nt; cases nt
    have nta : t ≠ a := fun e => by rw [upd_ne ntx, upd_ne ntl, upd_ne ntx, e, upd_same] at nt; cases nt
    have nt' : H t = none := by rw [upd_ne ntx, upd_ne ntl, upd_ne ntx, upd_ne nta, upd_ne ntx, upd_ne ntx, upd_ne ntx] at nt; exact nt
    refine ⟨x, _, _, _, val_var rfl, (upd_ne ntx.symm).trans upd_same, T.cS, T.nS_watchers, putF_lt (putF_lt (putF_lt (putF_lt (putF_lt (by decide))))), ?_⟩
    show Q _ _
    rw [upd_upd, upd_upd, upd_comm nax.symm, upd_upd, upd_comm nlx.symm, upd_upd, upd_comm ntx.symm, upd_upd, sF_new]
    exact k a l t na' nl' nt' nla.symm nta.symm ntl.symm
/-- Caller() -/
theorem b_newCaller {σ : L2.St} {H : Hp} {Q : VK} (k : ∀ x dx l H', Same H H' → H x = none → H l = none → x ≠ l → H' x = some (.ins Z.C dx (cF .non l)) → H' l = some (.lst []) → Q (.ref x) H') : tMake Z.C (spCaller Z) [] E0 tNil σ H Q := by
  refine b_make va_nil fun x dx nx ndx nex => ⟨x, dx, rfl, upd_same, fun l nl => ⟨rfl, ?_⟩⟩
  have nlx : l ≠ x := fun e => by rw [e, upd_same] at nl; cases nl
  have nld : l ≠ dx := fun e => by rw [upd_ne nlx, e, upd_same] at nl; cases nl
  have nl' : H l = none := by rw [upd_ne nlx, upd_ne nld] at nl; exact nl
  refine k x dx l _ (fun b o e => ?_) nx nl' nlx.symm upd_same (by rw [upd_ne nlx, upd_same])
  rw [upd_ne (ne_of_none e nx), upd_ne (ne_of_none e nl'), upd_ne (ne_of_none e nx), upd_ne (ne_of_none e ndx)]
  exact e
/-- Server() -/
theorem b_newServer {σ : L2.St} {H : Hp} {Q : VK} (k : ∀ x dx a l t H', Same H H' → H x = none → H a = none → H l = none → H t = none → x ≠ a → x ≠ l → x ≠ t → a ≠ l → a ≠ t → l ≠ t → H' x = some (.ins Z.S dx (sF srv0 a l t)) → H' a = some (.lst []) → H' l = some (.lst []) → H' t = some (.lst []) → Q (.ref x) H') : tMake Z.S (spServer Z) [] E0 tNil σ H Q := by
  refine b_make va_nil fun x dx nx ndx nex => ⟨x, dx, rfl, upd_same, fun a l t na nl nt hal hat hlt => ⟨rfl, ?_⟩⟩
  have hx : ∀ {b : Addr}, upd (upd H dx (.own x)) x (.ins Z.S dx []) b = none → b ≠ x ∧ H b = none := fun {b} e => by
    have n1 : b ≠ x := fun z => by rw [z, upd_same] at e; cases e
    have n2 : b ≠ dx := fun z => by rw [upd_ne n1, z, upd_same] at e; cases e
    exact ⟨n1, by rw [upd_ne n1, upd_ne n2] at e; exact e⟩
  obtain ⟨nax, na'⟩ := hx na
  obtain ⟨nlx, nl'⟩ := hx nl
  obtain ⟨ntx, nt'⟩ := hx nt
  refine k x dx a l t _ (fun b o e => ?_) nx na' nl' nt' nax.symm nlx.symm ntx.symm hal hat hlt upd_same (by rw [upd_ne nax, upd_ne hat, upd_ne hal, upd_same]) (by rw [upd_ne nlx, upd_ne hlt, upd_same]) (by rw [upd_ne ntx, upd_same])
  rw [upd_ne (ne_of_none e nx), upd_ne (ne_of_none e nt'), upd_ne (ne_of_none e nl'), upd_ne (ne_of_none e na'), upd_ne (ne_of_none e nx), upd_ne (ne_of_none e ndx)]
  exact e
theorem Log.caller {H0 H H' : Hp} {outs : List Addr} {cells : List (Addr × HO)} (g : Log H0 H outs cells) {x l : Addr} {o u : HO} (s : Same H H') (nx : H x = none) (nl : H l = none) (n : x ≠ l) (hx : H' x = some o) (hl : H' l = some u) : Log H0 H' outs (cells ++ [(l, u), (x, o)]) := by
  have g1 := g.add (H' := upd H l u) (Same.new nl) nl upd_same
  have s2 : Same (upd H l u) H' := fun b v e => by
    by_cases eb : b = l
    · rw [eb, upd_same] at e
      rw [eb, hl]
      exact e
    · rw [upd_ne eb] at e
      exact s b v e
  have g2 := g1.add s2 (p := x) (by rw [upd_ne n]; exact nx) hx
  rw [List.append_assoc] at g2
  exact g2
theorem Log.server {H0 H H' : Hp} {outs : List Addr} {cells : List (Addr × HO)} (g : Log H0 H outs cells) {x a l t : Addr} {o u v y : HO} (s : Same H H') (nx : H x = none) (na : H a = none) (nl : H l = none) (nt : H t = none) (n1 : x ≠ a) (n2 : x ≠ l) (n3 : x ≠ t) (n4 : a ≠ l) (n5 : a ≠ t) (n6 : l ≠ t)
    (hx : H' x = some o) (ha : H' a = some u) (hl : H' l = some v) (ht : H' t = some y) : Log H0 H' outs (cells ++ [(a, u), (l, v), (t, y), (x, o)]) := by
  have s1 : Same (upd (upd H a u) l v) H' := fun b w e => by
    by_cases el : b = l
    · rw [el, upd_same] at e
      rw [el, hl]
      exact e
    · rw [upd_ne el] at e
      by_cases ea : b = a
      · rw [ea, upd_same] at e
        rw [ea, ha]
        exact e
      · rw [upd_ne ea] at e
        exact s b w e
  have g1 := g.add (H' := upd H a u) (Same.new na) na upd_same
  have g2 := g1.add (H' := upd (upd H a u) l v) (Same.new (by rw [upd_ne n4.symm]; exact nl)) (by rw [upd_ne n4.symm]; exact nl) upd_same
  have g3 := g2.caller s1 (x := x) (l := t) (by rw [upd_ne n2, upd_ne n1]; exact nx) (by rw [upd_ne n6.symm, upd_ne n5.symm]; exact nt) n3 hx ht
  rw [List.append_assoc, List.append_assoc] at g3
  exact g3
def spWorld (Z : Cs) : Sp := fun vs H Q _ => ∃ (H0 : Hp) (x dx : Addr), vs = [.ref x] ∧ H x = some (.ins Z.W dx []) ∧ Same H0 H ∧ H0 x = none ∧ ∀ H' L, Wd Z H0 H' L (rep Ha04.init) → L.w = x → Q .non H'
def pk (b : Int) {α : Type} (x1 x2 x3 x4 : α) (j : Int) : α := if j = b then x1 else if j = b + 1 then x2 else if j = b + 2 then x3 else x4
def idx : Cell → Int
  | .came c => 2 * (c - 1)
  | .cal c => 2 * (c - 1) + 1
  | .ask p => 9 + 4 * (p - 11)
  | .lat p => 9 + 4 * (p - 11) + 1
  | .wat p => 9 + 4 * (p - 11) + 2
  | .srv p => 9 + 4 * (p - 11) + 3
  | .air => 26
  | .w => 27
theorem idx_inj : ∀ j k : Cell, j.ok → k.ok → idx j = idx k → j = k := by
  intro j k hj hk e
  cases j <;> cases k <;> simp only [idx, Cell.ok] at hj hk e <;> first | rfl | (exfalso; omega) | (congr 1; omega)
theorem four {c : Int} (h : 1 ≤ c ∧ c ≤ 4) : c = 1 ∨ c = 2 ∨ c = 3 ∨ c = 4 := by omega
theorem fourS {p : Int} (h : 11 ≤ p ∧ p ≤ 14) : p = 11 ∨ p = 12 ∨ p = 13 ∨ p = 14 := by omega
theorem wd_of_log {H0 H : Hp} {x dxw dc ds air c1 c2 c3 c4 d1 d2 d3 d4 m1 m2 m3 m4 s1 s2 s3 s4 e1 e2 e3 e4 a1 a2 a3 a4 l1 l2 l3 l4 t1 t2 t3 t4 : Addr} (g : Log H0 H [x] [(m1, .lst []), (c1, .ins Z.C d1 (cF .non m1)), (m2, .lst []), (c2, .ins Z.C d2 (cF .non m2)), (m3, .lst []), (c3, .ins Z.C d3 (cF .non m3)), (m4, .lst []), (c4, .ins Z.C d4 (cF .non m4)), (dc, .dK [(.inl 1, .ref c1), (.inl 2, .ref c2), (.inl 3, .ref c3), (.inl 4, .ref c4)]), (a1, .lst []), (l1, .lst []), (t1, .lst []), (s1, .ins Z.S e1 (sF srv0 a1 l1 t1)), (a2, .lst []), (l2, .lst []), (t2, .lst []), (s2, .ins Z.S e2 (sF srv0 a2 l2 t2)), (a3, .lst []), (l3, .lst []), (t3, .lst []), (s3, .ins Z.S e3 (sF srv0 a3 l3 t3)), (a4, .lst []), (l4, .lst []), (t4, .lst []), (s4, .ins Z.S e4 (sF srv0 a4 l4 t4)), (ds, .dK [(.inl 11, .ref s1), (.inl 12, .ref s2), (.inl 13, .ref s3), (.inl 14, .ref s4)]), (air, .lst [])])
    (hx : H x = some (.ins Z.W dxw (wF (rep Ha04.init) dc ds air))) : ∃ L, Wd Z H0 H L (rep Ha04.init) ∧ L.w = x := by
  have h0 := (g.o0 x (List.mem_singleton.mpr rfl)).1
  have gt : ∀ (n : Nat) (y : Addr × HO), ([(m1, .lst []), (c1, .ins Z.C d1 (cF .non m1)), (m2, .lst []), (c2, .ins Z.C d2 (cF .non m2)), (m3, .lst []), (c3, .ins Z.C d3 (cF .non m3)), (m4, .lst []), (c4, .ins Z.C d4 (cF .non m4)), (dc, .dK [(.inl 1, .ref c1), (.inl 2, .ref c2), (.inl 3, .ref c3), (.inl 4, .ref c4)]), (a1, .lst []), (l1, .lst []), (t1, .lst []), (s1, .ins Z.S e1 (sF srv0 a1 l1 t1)), (a2, .lst []), (l2, .lst []), (t2, .lst []), (s2, .ins Z.S e2 (sF srv0 a2 l2 t2)), (a3, .lst []), (l3, .lst []), (t3, .lst []), (s3, .ins Z.S e3 (sF srv0 a3 l3 t3)), (a4, .lst []), (l4, .lst []), (t4, .lst []), (s4, .ins Z.S e4 (sF srv0 a4 l4 t4)), (ds, .dK [(.inl 11, .ref s1), (.inl 12, .ref s2), (.inl 13, .ref s3), (.inl 14, .ref s4)]), (air, .lst [])] : List (Addr × HO))[n]? = some y → H y.1 = some y.2 ∧ H0 y.1 = none := fun n y e => ⟨g.at_ y (List.mem_of_getElem? e), g.c0 y (List.mem_of_getElem? e)⟩
  have nd : (([(m1, .lst []), (c1, .ins Z.C d1 (cF .non m1)), (m2, .lst []), (c2, .ins Z.C d2 (cF .non m2)), (m3, .lst []), (c3, .ins Z.C d3 (cF .non m3)), (m4, .lst []), (c4, .ins Z.C d4 (cF .non m4)), (dc, .dK [(.inl 1, .ref c1), (.inl 2, .ref c2), (.inl 3, .ref c3), (.inl 4, .ref c4)]), (a1, .lst []), (l1, .lst []), (t1, .lst []), (s1, .ins Z.S e1 (sF srv0 a1 l1 t1)), (a2, .lst []), (l2, .lst []), (t2, .lst []), (s2, .ins Z.S e2 (sF srv0 a2 l2 t2)), (a3, .lst []), (l3, .lst []), (t3, .lst []), (s3, .ins Z.S e3 (sF srv0 a3 l3 t3)), (a4, .lst []), (l4, .lst []), (t4, .lst []), (s4, .ins Z.S e4 (sF srv0 a4 l4 t4)), (ds, .dK [(.inl 11, .ref s1), (.inl 12, .ref s2), (.inl 13, .ref s3), (.inl 14, .ref s4)]), (air, .lst [])] : List (Addr × HO)).map (·.1) ++ [x]).Nodup := by
    refine List.nodup_append.mpr ⟨g.nd, by simp, fun a ha b hb => ?_⟩
    obtain ⟨y, hy, rfl⟩ := List.mem_map.mp ha
    rw [List.mem_singleton.mp hb]
    exact g.ne y hy x (List.mem_singleton.mpr rfl)
  obtain ⟨L, eL⟩ : ∃ L : Lay, L = { w := x, dxw := dxw, dc := dc, ds := ds, air := air, airR := [], cal := pk 1 c1 c2 c3 c4, calD := pk 1 d1 d2 d3 d4, calW := fun _ => .non, came := pk 1 m1 m2 m3 m4, cameR := fun _ => [], srv := pk 11 s1 s2 s3 s4, srvD := pk 11 e1 e2 e3 e4, ask := pk 11 a1 a2 a3 a4, lat := pk 11 l1 l2 l3 l4, wat := pk 11 t1 t2 t3 t4, askR := fun _ => [], latR := fun _ => [], watR := fun _ => [] } := ⟨_, rfl⟩
  have at_ : ∀ k : Cell, k.ok → (([(m1, .lst []), (c1, .ins Z.C d1 (cF .non m1)), (m2, .lst []), (c2, .ins Z.C d2 (cF .non m2)), (m3, .lst []), (c3, .ins Z.C d3 (cF .non m3)), (m4, .lst []), (c4, .ins Z.C d4 (cF .non m4)), (dc, .dK [(.inl 1, .ref c1), (.inl 2, .ref c2), (.inl 3, .ref c3), (.inl 4, .ref c4)]), (a1, .lst []), (l1, .lst []), (t1, .lst []), (s1, .ins Z.S e1 (sF srv0 a1 l1 t1)), (a2, .lst []), (l2, .lst []), (t2, .lst []), (s2, .ins Z.S e2 (sF srv0 a2 l2 t2)), (a3, .lst []), (l3, .lst []), (t3, .lst []), (s3, .ins Z.S e3 (sF srv0 a3 l3 t3)), (a4, .lst []), (l4, .lst []), (t4, .lst []), (s4, .ins Z.S e4 (sF srv0 a4 l4 t4)), (ds, .dK [(.inl 11, .ref s1), (.inl 12, .ref s2), (.inl 13, .ref s3), (.inl 14, .ref s4)]), (air, .lst [])] : List (Addr × HO)).map (·.1) ++ [x])[(idx k).toNat]? = some (L.pl k) := by
    intro k hk
    rw [eL]
    cases k with
    | w => rfl
    | air => rfl
    | cal c => rcases four hk with rfl | rfl | rfl | rfl <;> rfl
    | came c => rcases four hk with rfl | rfl | rfl | rfl <;> rfl
    | srv c => rcases fourS hk with rfl | rfl | rfl | rfl <;> rfl
    | ask c => rcases fourS hk with rfl | rfl | rfl | rfl <;> rfl
    | lat c => rcases fourS hk with rfl | rfl | rfl | rfl <;> rfl
    | wat c => rcases fourS hk with rfl | rfl | rfl | rfl <;> rfl
  have both : ∀ k : Cell, k.ok → H (L.pl k) = some (val Z L (rep Ha04.init) k) ∧ H0 (L.pl k) = none := by
    intro k hk
    rw [eL]
    cases k with
    | w => exact ⟨hx, h0⟩
    | air => exact gt 26 _ rfl
    | cal c =>
      rcases four hk with rfl | rfl | rfl | rfl
      · exact gt 1 _ rfl
      · exact gt 3 _ rfl
      · exact gt 5 _ rfl
      · exact gt 7 _ rfl
    | came c =>
      rcases four hk with rfl | rfl | rfl | rfl
      · exact gt 0 _ rfl
      · exact gt 2 _ rfl
      · exact gt 4 _ rfl
      · exact gt 6 _ rfl
    | srv c =>
      rcases fourS hk with rfl | rfl | rfl | rfl
      · exact gt 12 _ rfl
      · exact gt 16 _ rfl
      · exact gt 20 _ rfl
      · exact gt 24 _ rfl
    | ask c =>
      rcases fourS hk with rfl | rfl | rfl | rfl
      · exact gt 9 _ rfl
      · exact gt 13 _ rfl
      · exact gt 17 _ rfl
      · exact gt 21 _ rfl
    | lat c =>
      rcases fourS hk with rfl | rfl | rfl | rfl
      · exact gt 10 _ rfl
      · exact gt 14 _ rfl
      · exact gt 18 _ rfl
      · exact gt 22 _ rfl
    | wat c =>
      rcases fourS hk with rfl | rfl | rfl | rfl
      · exact gt 11 _ rfl
      · exact gt 15 _ rfl
      · exact gt 19 _ rfl
      · exact gt 23 _ rfl
  refine ⟨L, ⟨g.same, fun k hk => (both k hk).1, fun k hk => (both k hk).2, fun j k hj hk e => ?_, ?_⟩, by rw [eL]⟩
  · refine idx_inj j k hj hk ?_
    have e1 := at_ j hj
    have e2 := at_ k hk
    rw [← e] at e2
    have e3 := nd_ix nd e1 e2
    have p1 : 0 ≤ idx j := by cases j <;> simp only [idx, Cell.ok] at * <;> omega
    have p2 : 0 ≤ idx k := by cases k <;> simp only [idx, Cell.ok] at * <;> omega
    omega
  · rw [eL]
    refine ⟨(gt 8 _ rfl).1, (gt 25 _ rfl).1, trivial, fun c hc => ?_, fun c hc => ?_, fun p hp => ?_, fun p hp => ?_, fun p hp => ?_⟩
    · rcases four hc with rfl | rfl | rfl | rfl <;> trivial
    · rcases four hc with rfl | rfl | rfl | rfl <;> rfl
    · rcases fourS hp with rfl | rfl | rfl | rfl <;> trivial
    · rcases fourS hp with rfl | rfl | rfl | rfl <;> trivial
    · rcases fourS hp with rfl | rfl | rfl | rfl <;> trivial
theorem b_disp {trs : List (TE × TE)} {σ : L2.St} {H : Hp} {Q : VK} (h : ∀ p, H p = none → tPairs trs σ (upd H p (.dK [])) fun ps H2 => H2 p = some (.dK []) ∧ ∃ kvs : List (Key × V), ps = kvs.map (fun kv => (kV kv.1, kv.2)) ∧ kvs.length ≤ 15 ∧ Q (.ref p) (upd H2 p (.dK (mergeK [] kvs)))) : tDisp trs σ H Q := h
theorem b_pair {tk tv : TE} {k : V} {r : List (TE × TE)} {σ : L2.St} {H : Hp} {Q : List (V × V) → Hp → Prop} (h : Val tk σ H k) (h2 : tv σ H fun y H2 => tPairs r σ H2 fun ps H3 => Q ((k, y) :: ps) H3) : tPairs ((tk, tv) :: r) σ H Q := h _ h2
theorem b_pairN {σ : L2.St} {H : Hp} {Q : List (V × V) → Hp → Prop} (h : Q [] H) : tPairs [] σ H Q := h
theorem wF_new (m : M) (dc ds air : Addr) : putF "air" (.ref air) (putF "servers" (.ref ds) (putF "callers" (.ref dc) (putF "made" (.int m.made) (putF "now" (.int m.now) [])))) = wF m dc ds air := by
  have e1 : putF "made" (.int m.made) (putF "now" (.int m.now) []) = [(("now" : Str), V.int m.now), (("made" : Str), V.int m.made)] := put_past (by decide +kernel)
  have e2 : putF "callers" (.ref dc) [(("now" : Str), V.int m.now), (("made" : Str), V.int m.made)] = [(("now" : Str), V.int m.now), (("made" : Str), V.int m.made), (("callers" : Str), V.ref dc)] := (put_past (by decide +kernel)).trans (congrArg _ (put_past (by decide +kernel)))
  have e3 : putF "servers" (.ref ds) [(("now" : Str), V.int m.now), (("made" : Str), V.int m.made), (("callers" : Str), V.ref dc)] = [(("now" : Str), V.int m.now), (("made" : Str), V.int m.made), (("callers" : Str), V.ref dc), (("servers" : Str), V.ref ds)] := (put_past (by decide +kernel)).trans (congrArg _ ((put_past (by decide +kernel)).trans (congrArg _ (put_past (by decide +kernel)))))
  rw [e1, e2, e3]
  exact (put_past (by decide +kernel)).trans (congrArg _ ((put_past (by decide +kernel)).trans (congrArg _ ((put_past (by decide +kernel)).trans (congrArg _ (put_past (by decide +kernel)))))))
theorem sc_World : FnScope ["self"] ["self"] (defScope s_World) := ⟨rfl, rfl, rfl, by decide +kernel, rfl, by decide +kernel, by decide +kernel⟩
theorem ok_World {f fC fS : Addr} {fd fdC fdS : FuncData} (F : Fun K "__init__" "World.__init__" s_World f fd) (T : Txt K mg Z) (C_Caller : Mak P w K mg base 1 "Caller" ["self"] (spCaller Z) Z.C fC fdC) (C_Server : Mak P w K mg base 1 "Server" ["self"] (spServer Z) Z.S fS fdS) : FnOk P w K mg base CX0 3 f fd ["self"] (spWorld Z) := by
  refine F.ok sc_World (fun vs H Q E h => ?_) (fun cdv A outer s H vs Q E hr h => ?_)
  · obtain ⟨H0, x, dx, rfl, _⟩ := h
    rfl
  · obtain ⟨H0, x, dx, rfl, hx, s0, n0, k⟩ := h
    refine ⟨_, (pss_cons (ps_fld (pv 0) pe_int rfl)
    (pss_cons (ps_fld (pv 0) pe_int rfl)
    (pss_cons (ps_fld (pv 0) (pe_disp (pps_cons pe_int (pe_make0 C_Caller.M C_Caller.ok (hr.mono (by decide)) rfl C_Caller.g C_Caller.b .nil pass0) (pps_cons pe_int (pe_make0 C_Caller.M C_Caller.ok (hr.mono (by decide)) rfl C_Caller.g C_Caller.b .nil pass0) (pps_cons pe_int (pe_make0 C_Caller.M C_Caller.ok (hr.mono (by decide)) rfl C_Caller.g C_Caller.b .nil pass0) (pps_cons pe_int (pe_make0 C_Caller.M C_Caller.ok (hr.mono (by decide)) rfl C_Caller.g C_Caller.b .nil pass0) pps_nil)))) (by rfl) (by rfl) (fun z => by cases z) (by decide)) rfl)
    (pss_cons (ps_fld (pv 0) (pe_disp (pps_cons pe_int (pe_make0 C_Server.M C_Server.ok (hr.mono (by decide)) rfl C_Server.g C_Server.b .nil pass0) (pps_cons pe_int (pe_make0 C_Server.M C_Server.ok (hr.mono (by decide)) rfl C_Server.g C_Server.b .nil pass0) (pps_cons pe_int (pe_make0 C_Server.M C_Server.ok (hr.mono (by decide)) rfl C_Server.g C_Server.b .nil pass0) (pps_cons pe_int (pe_make0 C_Server.M C_Server.ok (hr.mono (by decide)) rfl C_Server.g C_Server.b .nil pass0) pps_nil)))) (by rfl) (by rfl) (fun z => by cases z) (by decide)) rfl)
    (pss_one (ps_fld (pv 0) (pe_lst pa_nil) rfl)))))), ?_⟩
    have mx : ∀ {l : List Addr}, x ∈ x :: l := List.mem_cons_self ..
    have G0 : Log H0 H [x] [] := ⟨s0, fun q hq => by rw [List.mem_singleton.mp hq]; exact ⟨n0, fun e => by rw [hx] at e; cases e⟩, fun _ h => (by cases h), fun _ h => (by cases h), fun _ h => (by cases h), List.nodup_nil⟩
    refine st_seq (st_fld val_c (val_var rfl) hx T.cW T.nW_now (by decide) ?_)
    dsimp only
    refine st_seq (st_fld val_c (val_var rfl) upd_same T.cW T.nW_made (putF_lt (by decide)) ?_)
    dsimp only
    refine st_seq (b_fldV (b_disp fun dc ndc => ?_))
    have G1 := ((G0.put (o := .ins Z.W dx (putF "now" (.int 0) [])) mx).put (o := .ins Z.W dx (putF "made" (.int 0) (putF "now" (.int 0) []))) mx).out (o := .dK []) ndc
    have ndx : dc ≠ x := fun e => by rw [e, upd_same] at ndc; cases ndc
    have hx1 : upd (upd (upd H x (.ins Z.W dx (putF "now" (.int 0) []))) x (.ins Z.W dx (putF "made" (.int 0) (putF "now" (.int 0) [])))) dc (.dK []) x = some (.ins Z.W dx (putF "made" (.int 0) (putF "now" (.int 0) []))) := (upd_ne ndx.symm).trans upd_same
    refine b_pair val_c (b_newCaller fun c1 d1 m1 HC1 sC1 nC1 nM1 nE1 hC1 hM1 => ?_)
    have GC1 := G1.caller sC1 nC1 nM1 nE1 hC1 hM1
    have pC1 := sC1 _ _ upd_same
    refine b_pair val_c (b_newCaller fun c2 d2 m2 HC2 sC2 nC2 nM2 nE2 hC2 hM2 => ?_)
    have GC2 := GC1.caller sC2 nC2 nM2 nE2 hC2 hM2
    have pC2 := sC2 _ _ pC1
    refine b_pair val_c (b_newCaller fun c3 d3 m3 HC3 sC3 nC3 nM3 nE3 hC3 hM3 => ?_)
    have GC3 := GC2.caller sC3 nC3 nM3 nE3 hC3 hM3
    have pC3 := sC3 _ _ pC2
    refine b_pair val_c (b_newCaller fun c4 d4 m4 HC4 sC4 nC4 nM4 nE4 hC4 hM4 => ?_)
    have GC4 := GC3.caller sC4 nC4 nM4 nE4 hC4 hM4
    have pC4 := sC4 _ _ pC3
    refine b_pairN ⟨pC4, [(.inl 1, .ref c1), (.inl 2, .ref c2), (.inl 3, .ref c3), (.inl 4, .ref c4)], rfl, by show 4 ≤ 15; decide, ?_⟩
    have hx2 := sC4 _ _ (sC3 _ _ (sC2 _ _ (sC1 _ _ hx1)))
    have G2 := (GC4.put (q := dc) (o := .dK (mergeK [] [(.inl 1, .ref c1), (.inl 2, .ref c2), (.inl 3, .ref c3), (.inl 4, .ref c4)])) (List.mem_cons_self ..)).seal upd_same (fun r hr => by rw [List.mem_singleton.mp hr]; exact ndx)
    refine b_val (val_var rfl) ⟨x, Z.W, dx, _, rfl, (upd_ne ndx.symm).trans hx2, T.cW, T.nW_callers, putF_lt (putF_lt (by decide)), ?_⟩
    have G2x := G2.put (q := x) (o := .ins Z.W dx (putF "callers" (.ref dc) (putF "made" (.int 0) (putF "now" (.int 0) [])))) mx
    dsimp only
    refine st_seq (b_fldV (b_disp fun ds nds => ?_))
    have G3 := G2x.out (o := .dK []) nds
    have nsx : ds ≠ x := fun e => by rw [e, upd_same] at nds; cases nds
    have hx3 : upd (upd (upd HC4 dc (.dK (mergeK [] [(.inl 1, .ref c1), (.inl 2, .ref c2), (.inl 3, .ref c3), (.inl 4, .ref c4)]))) x (.ins Z.W dx (putF "callers" (.ref dc) (putF "made" (.int 0) (putF "now" (.int 0) []))))) ds (.dK []) x = some (.ins Z.W dx (putF "callers" (.ref dc) (putF "made" (.int 0) (putF "now" (.int 0) [])))) := (upd_ne nsx.symm).trans upd_same
    refine b_pair val_c (b_newServer fun s1 e1 a1 l1 t1 HS1 sS1 nS1 nA1 nL1 nT1 nE11 nE21 nE31 nE41 nE51 nE61 hS1 hA1 hL1 hT1 => ?_)
    have GS1 := G3.server sS1 nS1 nA1 nL1 nT1 nE11 nE21 nE31 nE41 nE51 nE61 hS1 hA1 hL1 hT1
    have pS1 := sS1 _ _ upd_same
    refine b_pair val_c (b_newServer fun s2 e2 a2 l2 t2 HS2 sS2 nS2 nA2 nL2 nT2 nE12 nE22 nE32 nE42 nE52 nE62 hS2 hA2 hL2 hT2 => ?_)
    have GS2 := GS1.server sS2 nS2 nA2 nL2 nT2 nE12 nE22 nE32 nE42 nE52 nE62 hS2 hA2 hL2 hT2
    have pS2 := sS2 _ _ pS1
    refine b_pair val_c (b_newServer fun s3 e3 a3 l3 t3 HS3 sS3 nS3 nA3 nL3 nT3 nE13 nE23 nE33 nE43 nE53 nE63 hS3 hA3 hL3 hT3 => ?_)
    have GS3 := GS2.server sS3 nS3 nA3 nL3 nT3 nE13 nE23 nE33 nE43 nE53 nE63 hS3 hA3 hL3 hT3
    have pS3 := sS3 _ _ pS2
    refine b_pair val_c (b_newServer fun s4 e4 a4 l4 t4 HS4 sS4 nS4 nA4 nL4 nT4 nE14 nE24 nE34 nE44 nE54 nE64 hS4 hA4 hL4 hT4 => ?_)
    have GS4 := GS3.server sS4 nS4 nA4 nL4 nT4 nE14 nE24 nE34 nE44 nE54 nE64 hS4 hA4 hL4 hT4
    have pS4 := sS4 _ _ pS3
    refine b_pairN ⟨pS4, [(.inl 11, .ref s1), (.inl 12, .ref s2), (.inl 13, .ref s3), (.inl 14, .ref s4)], rfl, by show 4 ≤ 15; decide, ?_⟩
    have hx4 := sS4 _ _ (sS3 _ _ (sS2 _ _ (sS1 _ _ hx3)))
    have G4 := (GS4.put (q := ds) (o := .dK (mergeK [] [(.inl 11, .ref s1), (.inl 12, .ref s2), (.inl 13, .ref s3), (.inl 14, .ref s4)])) (List.mem_cons_self ..)).seal upd_same (fun r hr => by rw [List.mem_singleton.mp hr]; exact nsx)
    refine b_val (val_var rfl) ⟨x, Z.W, dx, _, rfl, (upd_ne nsx.symm).trans hx4, T.cW, T.nW_servers, putF_lt (putF_lt (putF_lt (by decide))), ?_⟩
    have G5 := G4.put (q := x) (o := .ins Z.W dx (putF "servers" (.ref ds) (putF "callers" (.ref dc) (putF "made" (.int 0) (putF "now" (.int 0) []))))) mx
    dsimp only
    refine b_fldL fun air nair => ?_
    have nax : air ≠ x := fun e => by rw [e, upd_same] at nair; cases nair
    refine ⟨x, Z.W, dx, _, val_var rfl, (upd_ne nax.symm).trans upd_same, T.cW, T.nW_air, putF_lt (putF_lt (putF_lt (putF_lt (by decide)))), ?_⟩
    have G6 := (G5.add (Same.new (o := .lst []) nair) nair upd_same).put (q := x) (o := .ins Z.W dx (putF "air" (.ref air) (putF "servers" (.ref ds) (putF "callers" (.ref dc) (putF "made" (.int 0) (putF "now" (.int 0) [])))))) mx
    obtain ⟨L, W, eL⟩ := wd_of_log (Z := Z) (dxw := dx) G6 (by rw [← wF_new]; exact upd_same)
    exact k _ L W eL
end
end AO

set_option Elab.async false
set_option maxRecDepth 100000
set_option maxHeartbeats 4000000
set_option linter.unusedVariables false
namespace AO
open PySem L2
open Ha04 (Req Sig Came)
/-! ### 18. The whole line -/
def spTo (Z : Cs) (K : PySem.W.Frag) : Sp := fun vs H Q _ => ∃ (H0 Hs : Hp) (G L : Lay) (s : Ha04.St) (c : Nat) (as : List Nat) (a : Addr) (x : Ha04.Call), vs = [.ref G.w, .int c, .ref a] ∧ Ha04Neutral.callIn [c :: as] = some x ∧ SqL K H a (as.map fun (n : Nat) => V.int n) ∧
  Go Z H0 Hs G H L (rep s) ∧ Good s ∧ sz s ≤ 400000 ∧ Gives Z H0 Hs G (Ha04.step s x) Q
def spAns (K : PySem.W.Frag) : Sp := fun vs H Q _ => ∃ (a : Addr) (ns : List Int), vs = [.ref a] ∧ SqL K H a (ns.map V.int) ∧ ns.length ≤ 800 ∧ (∀ x ∈ ns, 0 ≤ x ∧ x ≤ 4294967295) ∧ PyHa04.answers_asked ns = true ∧
  ∀ (H' : Hp) (p : Addr), H' p = some (.lst ((PyHa04.answers ns).map V.int)) → Q (.ref p) H'
/-- what stands outside is stored by others -/
theorem Go.outer {Z : Cs} {H0 Hs H : Hp} {G L : Lay} {m : M} (g : Go Z H0 Hs G H L m) {p : Addr} {o u : HO} (hp : H0 p = some u) (hi : ¬ imm u) : Go Z (upd H0 p o) H G (upd H p o) L m :=
  ⟨g.W.outer hp hi, g.fx, fun b v hb iv => by
    have n : b ≠ p := fun e => by
      rw [e, g.W.same _ _ hp] at hb
      exact hi ((Option.some.inj hb) ▸ iv)
    rw [upd_ne n]
    exact hb⟩
section
variable {K : PySem.W.Frag} {σ : L2.St} {H : Hp} {te ti t1 t2 t3 : TE} {tc : TT} {tb : TS} {D : Ends} {Q : VK} {sp : Sp} {E : XK}
theorem b_while (W : Nat → L2.St → Hp → Prop) {m0 : Nat} (h0 : W m0 σ H) (hs : ∀ m σ' H', W m σ' H' → (Ans tc σ' H' true ∧ tb { D with nx := fun σ2 H2 => ∃ m', m' < m ∧ W m' σ2 H2, ct := fun σ2 H2 => ∃ m', m' < m ∧ W m' σ2 H2, bk := D.nx } σ' H') ∨ (Ans tc σ' H' false ∧ D.nx σ' H')) : tWhile tc tb D σ H :=
  ⟨W, ⟨m0, h0⟩, fun m σ' H' w => by
    rcases hs m σ' H' w with ⟨ha, hb⟩ | ⟨ha, hb⟩
    · refine ha _ ?_
      rw [if_pos rfl]
      exact ⟨_, fun _ _ h => h, hb⟩
    · refine ha _ ?_
      rw [if_neg Bool.false_ne_true]
      exact hb⟩
theorem b_call3 {v1 v2 : V} (h1 : Val t1 σ H v1) (h2 : Val t2 σ H v2) (h3 : t3 σ H fun v3 H1 => sp [v1, v2, v3] H1 Q E) : tCall sp [] E (tCons t1 (tCons t2 (tCons t3 tNil))) σ H Q := h1 _ (h2 _ h3)
theorem v_ixL {l : Addr} {xs : List V} (h : Val te σ H (.ref l)) (hl : SqL K H l xs) {j : Nat} (hi : Val ti σ H (.int (j : Int))) {x : V} (hx : xs[j]? = some x) : Val (tOp (rIxL K) te ti) σ H x := val_op h hi fun Q q => ⟨l, xs, _, _, rfl, rfl, hl, atI_nat hx, q⟩
theorem v_ixT {l : Addr} {xs : List V} (h : Val te σ H (.ref l)) (hl : SqT K H l xs) {j : Nat} (hi : Val ti σ H (.int (j : Int))) {x : V} (hx : xs[j]? = some x) : Val (tOp (rIxT K) te ti) σ H x := val_op h hi fun Q q => ⟨l, xs, _, _, rfl, rfl, hl, atI_nat hx, q⟩
theorem b_slL {l : Addr} {xs : List V} {i j : Nat} (h : Val te σ H (.ref l)) (hl : SqL K H l xs) (h1 : Val t1 σ H (.int (i : Int))) (h2 : Val t2 σ H (.int (j : Int))) (hij : i ≤ j) (hj : j ≤ xs.length) (k : ∀ p, H p = none → Q (.ref p) (upd H p (.lst ((xs.drop i).take (j - i))))) : tSl (rSlL K) te (tPart t1) (tPart t2) σ H Q := by
  refine h _ (h1 _ ⟨_, rfl, h2 _ ⟨_, rfl, l, xs, rfl, hl, fun p np => ?_⟩⟩)
  have e : cutV xs (some (i : Int)) (some (j : Int)) = (xs.drop i).take (j - i) := by
    unfold cutV
    rw [HT.sIx_nat, HT.sIx_nat, Nat.min_eq_left (show i ≤ xs.length by omega), Nat.min_eq_left hj]
  rw [e]
  exact k p np
end
theorem shape_given {p : Nat} {n : Nat} (h : PyHa04.shape (p : Int) = some (n, 0)) : p ≤ 13 := by
  by_cases e : p ≤ 13
  · exact e
  · exfalso
    unfold PyHa04.shape at h
    rw [if_neg (by omega), if_neg (by omega), if_neg (by omega), if_neg (by omega), if_neg (by omega), if_neg (by omega), if_neg (by omega), if_neg (by omega), if_neg (by omega), if_neg (by omega), if_neg (by omega), if_neg (by omega), if_neg (by omega), if_neg (by omega)] at h
    cases h
theorem nat1 (a : Nat) (h : a ≤ 4294967295) : Ha04Neutral.nat (a : Int) = true := by
  have e : (2 : Int) ^ 32 = 4294967296 := by decide
  unfold Ha04Neutral.nat
  rw [e, decide_eq_true (show (0 : Int) ≤ (a : Int) by omega), decide_eq_true (show (a : Int) < 4294967296 by omega)]
  rfl
theorem callIn_is {p : Nat} {as : List Nat} {n : Nat} (h : PyHa04.shape (p : Int) = some (n, 0)) (hl : as.length = n) : ∃ x, Ha04Neutral.callIn [p :: as] = some x := by
  have hp := shape_given h
  have e : p = 0 ∨ p = 1 ∨ p = 2 ∨ p = 3 ∨ p = 4 ∨ p = 5 ∨ p = 6 ∨ p = 7 ∨ p = 8 ∨ p = 9 ∨ p = 10 ∨ p = 11 ∨ p = 12 ∨ p = 13 := by omega
  rcases e with rfl | rfl | rfl | rfl | rfl | rfl | rfl | rfl | rfl | rfl | rfl | rfl | rfl | rfl
  · cases h
    obtain ⟨a, b, c, d, e, f, g, rfl⟩ := len7 hl
    exact ⟨_, rfl⟩
  · cases h
    obtain ⟨a, b, c, rfl⟩ := len3 hl
    exact ⟨_, rfl⟩
  · cases h
    obtain ⟨a, rfl⟩ := len1 hl
    exact ⟨_, rfl⟩
  · cases h
    obtain ⟨a, b, rfl⟩ := len2 hl
    exact ⟨_, rfl⟩
  · cases h
    obtain ⟨a, rfl⟩ := len1 hl
    exact ⟨_, rfl⟩
  · cases h
    obtain ⟨a, b, rfl⟩ := len2 hl
    exact ⟨_, rfl⟩
  · cases h
    obtain ⟨a, rfl⟩ := len1 hl
    exact ⟨_, rfl⟩
  · cases h
    obtain ⟨a, rfl⟩ := len1 hl
    exact ⟨_, rfl⟩
  · cases h
    obtain ⟨a, rfl⟩ := len1 hl
    exact ⟨_, rfl⟩
  · cases h
    obtain ⟨a, rfl⟩ := len1 hl
    exact ⟨_, rfl⟩
  · cases h
    obtain ⟨a, rfl⟩ := len1 hl
    exact ⟨_, rfl⟩
  · cases h
    obtain ⟨a, rfl⟩ := len1 hl
    exact ⟨_, rfl⟩
  · cases h
    obtain ⟨a, rfl⟩ := len1 hl
    exact ⟨_, rfl⟩
  · cases h
    cases as with
    | nil => exact ⟨_, rfl⟩
    | cons _ _ => cases hl
theorem nstep {s : Ha04.St} {c : Ha04Neutral.Call} {x : Ha04.Call} (h : Ha04Neutral.callOf c = some x) : Ha04Neutral.step s c = Ha04.step s x := by
  unfold Ha04Neutral.step
  rw [h]
def cStart (l : List Nat) : Ha04.Call := .start (l.getD 0 0)
def cTicks (l : List Nat) : Ha04.Call := .ticks (l.getD 0 0)
def cTurns (l : List Nat) : Ha04.Call := .turns (l.getD 0 0)
def cCame (l : List Nat) : Ha04.Call := .came (l.getD 0 0)
def cWaits (l : List Nat) : Ha04.Call := .waits (l.getD 0 0)
def cServer (l : List Nat) : Ha04.Call := .server (l.getD 0 0)
def cAir (_ : List Nat) : Ha04.Call := .air
theorem callIn_cases {c : Nat} {as : List Nat} {x : Ha04.Call} (h : Ha04Neutral.callIn [c :: as] = some x) :
    (c = 0 ∧ as.length = 7 ∧ x = cAsk as) ∨ (c = 1 ∧ as.length = 3 ∧ x = cTell as) ∨ (c = 2 ∧ as.length = 1 ∧ x = cStop as) ∨ (c = 3 ∧ as.length = 2 ∧ x = cDeliver as) ∨ (c = 4 ∧ as.length = 1 ∧ x = cWork as) ∨ (c = 5 ∧ as.length = 2 ∧ x = cAnswer as) ∨ (c = 6 ∧ as.length = 1 ∧ x = cDie as) ∨ (c = 7 ∧ as.length = 1 ∧ x = cStart as) ∨ (c = 8 ∧ as.length = 1 ∧ x = cTicks as) ∨ (c = 9 ∧ as.length = 1 ∧ x = cTurns as) ∨ (c = 10 ∧ as.length = 1 ∧ x = cCame as) ∨ (c = 11 ∧ as.length = 1 ∧ x = cWaits as) ∨ (c = 12 ∧ as.length = 1 ∧ x = cServer as) ∨ (c = 13 ∧ as.length = 0 ∧ x = cAir as) := by
  unfold Ha04Neutral.callIn at h
  split at h
  · rename_i e
    cases e
    cases h
    exact .inl ⟨rfl, rfl, rfl⟩
  · rename_i e
    cases e
    cases h
    exact .inr (.inl ⟨rfl, rfl, rfl⟩)
  · rename_i e
    cases e
    cases h
    exact .inr (.inr (.inl ⟨rfl, rfl, rfl⟩))
  · rename_i e
    cases e
    cases h
    exact .inr (.inr (.inr (.inl ⟨rfl, rfl, rfl⟩)))
  · rename_i e
    cases e
    cases h
    exact .inr (.inr (.inr (.inr (.inl ⟨rfl, rfl, rfl⟩))))
  · rename_i e
    cases e
    cases h
    exact .inr (.inr (.inr (.inr (.inr (.inl ⟨rfl, rfl, rfl⟩)))))
  · rename_i e
    cases e
    cases h
    exact .inr (.inr (.inr (.inr (.inr (.inr (.inl ⟨rfl, rfl, rfl⟩))))))
  · rename_i e
    cases e
    cases h
    exact .inr (.inr (.inr (.inr (.inr (.inr (.inr (.inl ⟨rfl, rfl, rfl⟩)))))))
  · rename_i e
    cases e
    cases h
    exact .inr (.inr (.inr (.inr (.inr (.inr (.inr (.inr (.inl ⟨rfl, rfl, rfl⟩))))))))
  · rename_i e
    cases e
    cases h
    exact .inr (.inr (.inr (.inr (.inr (.inr (.inr (.inr (.inr (.inl ⟨rfl, rfl, rfl⟩)))))))))
  · rename_i e
    cases e
    cases h
    exact .inr (.inr (.inr (.inr (.inr (.inr (.inr (.inr (.inr (.inr (.inl ⟨rfl, rfl, rfl⟩))))))))))
  · rename_i e
    cases e
    cases h
    exact .inr (.inr (.inr (.inr (.inr (.inr (.inr (.inr (.inr (.inr (.inr (.inl ⟨rfl, rfl, rfl⟩)))))))))))
  · rename_i e
    cases e
    cases h
    exact .inr (.inr (.inr (.inr (.inr (.inr (.inr (.inr (.inr (.inr (.inr (.inr (.inl ⟨rfl, rfl, rfl⟩))))))))))))
  · rename_i e
    cases e
    cases h
    exact .inr (.inr (.inr (.inr (.inr (.inr (.inr (.inr (.inr (.inr (.inr (.inr (.inr (⟨rfl, rfl, rfl⟩)))))))))))))
  · cases h
/-- a call of the list, as the specification reads it -/
theorem neutral_step {s : Ha04.St} {p : Nat} {as : List Nat} {n : Nat} (h : PyHa04.shape (p : Int) = some (n, 0)) (hl : as.length = n) (hb : p ≤ 4294967295 ∧ ∀ a ∈ as, a ≤ 4294967295) :
    ∃ x, Ha04Neutral.callIn [p :: as] = some x ∧ Ha04Neutral.step s [(p : Int) :: as.map fun (a : Nat) => (a : Int)] = Ha04.step s x := by
  obtain ⟨x, hx⟩ := callIn_is h hl
  refine ⟨x, hx, ?_⟩
  have ha : Ha04Neutral.callOf [(p : Int) :: as.map fun (a : Nat) => (a : Int)] = some x := by
    unfold Ha04Neutral.callOf
    have h1 : ([(p : Int) :: as.map fun (a : Nat) => (a : Int)] : List (List Int)).all (fun r => r.all Ha04Neutral.nat) = true := by
      rw [List.all_cons, List.all_nil, List.all_cons, nat1 p hb.1, Bool.and_true, Bool.true_and, List.all_eq_true]
      intro z hz
      obtain ⟨a, ha, rfl⟩ := List.mem_map.mp hz
      exact nat1 a (hb.2 a ha)
    rw [h1, if_neg (by decide)]
    have h2 : ([(p : Int) :: as.map fun (a : Nat) => (a : Int)] : List (List Int)).map (fun r => r.map Int.toNat) = [p :: as] := by
      rw [List.map_cons, List.map_nil, List.map_cons, List.map_map]
      have e1 : (Int.toNat ∘ fun (a : Nat) => (a : Int)) = id := by
        funext a
        exact Int.toNat_natCast a
      rw [e1, List.map_id, Int.toNat_natCast]
    rw [h2]
    exact hx
  exact nstep ha
theorem told_len : ∀ (cs : List (List (List Int))) (s : Ha04.St), (PyFlat.told (PyFlat.played Ha04Neutral.step s cs)).length = Ha04Neutral.many s cs + cs.length
  | [], _ => rfl
  | c :: r, s => by
    have ih := told_len r (Ha04Neutral.step s c).1
    show (((Ha04Neutral.step s c).2.length : Int) :: (Ha04Neutral.step s c).2 ++ PyFlat.told (PyFlat.played Ha04Neutral.step (Ha04Neutral.step s c).1 r)).length = (Ha04Neutral.step s c).2.length + Ha04Neutral.many (Ha04Neutral.step s c).1 r + (r.length + 1)
    rw [List.length_append, List.length_cons, ih]
    omega
theorem told_cons {c : List (List Int)} {r : List (List (List Int))} {s : Ha04.St} {y : Ha04.St × List Int} (h : Ha04Neutral.step s c = y) : PyFlat.told (PyFlat.played Ha04Neutral.step s (c :: r)) = ((y.2.length : Nat) : Int) :: y.2 ++ PyFlat.told (PyFlat.played Ha04Neutral.step y.1 r) := by
  subst h
  rfl
/-- what is asked of the list -/
theorem asked_of {ns : List Int} (h : PyHa04.answers_asked ns = true) : ∃ cs, PyFlat.calls PyHa04.shape ns.length ns = some cs ∧ cs.length ≤ 100 ∧ PyHa04.answers ns = PyFlat.told (PyFlat.played Ha04Neutral.step Ha04.init cs) ∧ (PyHa04.answers ns).length ≤ 1000100 := by
  unfold PyHa04.answers_asked at h
  cases e : PyFlat.calls PyHa04.shape ns.length ns with
  | none =>
    rw [e] at h
    cases h
  | some cs =>
    rw [e] at h
    have h : (!cs.isEmpty && PyFlat.atMost 100 cs && PyInside.calls PyHa04.bound cs && Ha04Neutral.asked (cs.map PyHa04.whole) && PyFlat.short 10000000 (PyHa04.answers ns)) = true := h
    rw [Bool.and_eq_true, Bool.and_eq_true, Bool.and_eq_true, Bool.and_eq_true] at h
    have h1 : cs.length ≤ 100 := of_decide_eq_true h.1.1.1.2
    have h2 := h.1.2
    rw [map_whole] at h2
    unfold Ha04Neutral.asked at h2
    rw [Bool.and_eq_true, Bool.and_eq_true, Bool.and_eq_true] at h2
    have h3 : Ha04Neutral.many Ha04.init cs ≤ 1000000 := of_decide_eq_true h2.2.2.2
    have ea : PyHa04.answers ns = PyFlat.told (PyFlat.played Ha04Neutral.step Ha04.init cs) := by
      unfold PyHa04.answers PyHa04.calls
      rw [e]
      show PyFlat.told (PyFlat.played Ha04Neutral.step Ha04Neutral.start (cs.map PyHa04.whole)) = _
      rw [map_whole]
      rfl
    refine ⟨cs, rfl, h1, ea, ?_⟩
    rw [ea, told_len]
    omega
theorem nats_of : ∀ (l : List Int), (∀ z ∈ l, 0 ≤ z) → (l.map Int.toNat).map (fun (a : Nat) => (a : Int)) = l
  | [], _ => rfl
  | z :: r, h => by
    have h0 := h z (List.mem_cons_self ..)
    rw [List.map_cons, List.map_cons, nats_of r fun y hy => h y (List.mem_cons_of_mem _ hy), Int.toNat_of_nonneg h0]
section
variable {P : Program} {w : World} {K : PySem.W.Frag} {mg : Str → Option Value} {base : Heap} {Z : Cs}
theorem b_extend {σ : L2.St} {H : Hp} {tk te : TE} {Q : VK} {l b : Addr} {xs zs : List V} (ho : Val tk σ H (.ref l)) (hl : H l = some (.lst xs)) (hv : Val te σ H (.ref b)) (hb : H b = some (.lst zs)) (hz : xs.length + zs.length ≤ 8000000) (k : Q .non (upd H l (.lst (xs ++ zs)))) : tBM K "list" rExtend tk (tCons te tNil) σ H Q :=
  ho _ ⟨.inl ⟨rfl, _, SqL.of hl⟩, hv _ ⟨l, b, xs, zs, rfl, rfl, hl, hb, Nat.le_of_lt (small hz), k⟩⟩
theorem sc_answers : FnScope ["calls", "world", "told", "at", "call", "behind", "numbers"] ["calls"] (defScope s_answers) := ⟨rfl, rfl, rfl, by decide +kernel, rfl, by decide +kernel, by decide +kernel⟩
theorem ok_answers {f fW fT : Addr} {fd fdW fdT : FuncData} (F : Fun K "answers" "answers" s_answers f fd) (T : Txt K mg Z) (hg : ∀ p n : Nat, PyHa04.shape (p : Int) = some (n, 0) → givens[p]? = some (n : Int)) (C_World : Mak P w K mg base 3 "World" ["self"] (spWorld Z) Z.W fW fdW) (G_answer_to : Cal P w K mg base 9 "answer_to" ["world", "call", "given"] (spTo Z K) fT fdT) : FnOk P w K mg base CX0 10 f fd ["calls"] (spAns K) := by
  refine F.ok sc_answers (fun vs H Q E h => ?_) (fun cdv A outer s0 H vs Q E hr h => ?_)
  · obtain ⟨a, ns, rfl, _⟩ := h
    rfl
  · obtain ⟨a, ns, rfl, hS, hlen, hbd, hask, k⟩ := h
    obtain ⟨raw, hraw, hraw1, hans, hsz⟩ := asked_of hask
    refine ⟨_, (pss_cons (ps_set (i := 1) sc_answers.nd rfl (Or.inl rfl) (pe_make0 C_World.M C_World.ok (hr.mono (by decide)) rfl C_World.g C_World.b .nil pass0))
    (pss_cons (ps_set (i := 2) sc_answers.nd rfl (Or.inl rfl) (pe_lst pa_nil))
    (pss_cons (ps_set (i := 3) sc_answers.nd rfl (Or.inl rfl) pe_int)
    (pss_cons (ps_while PassesOwn.never (pt_cmpR op_lt (pv 3) (pe_callB call_len_seq (by rfl) T.len PySem.boot_len (pa_cons (pv 0) pa_nil)) (nomark _))
      (pss_cons (ps_set (i := 4) sc_answers.nd rfl (Or.inl rfl) (pe_ix ix_list (pv 0) (pv 3) (fun _ _ => rfl)))
    (pss_cons (ps_set (i := 5) sc_answers.nd rfl (Or.inl rfl) (pe_op op_add (pe_op op_add (pv 3) pe_int) (pe_ix ix_tup (pe_glob (v := .ref Z.g) rfl T.k_GIVEN rfl) (pv 4) (fun _ _ => rfl))))
    (pss_cons (ps_set (i := 6) sc_answers.nd rfl (Or.inl rfl) (pe_call G_answer_to.ok (hr.mono (by decide)) rfl G_answer_to.g G_answer_to.kp G_answer_to.b .nil pass0 (pa_cons (pv 1) (pa_cons (pv 4) (pa_cons (pe_slice sl_list (pv 0) (po_some (pe_op op_add (pv 3) pe_int)) (po_some (pv 5))) pa_nil)))))
    (pss_cons (ps_expr (pe_bm PySem.F.plainAttrs_list PySem.F.slot_list_append PySem.F.type_list_append mt_append (pv 2) (pa_cons (pe_callB call_len_seq (by rfl) T.len PySem.boot_len (pa_cons (pv 6) pa_nil)) pa_nil)))
    (pss_cons (ps_expr (pe_bm PySem.F.plainAttrs_list PySem.F.slot_list_extend PySem.F.type_list_extend mt_extend (pv 2) (pa_cons (pv 6) pa_nil)))
    (pss_one (ps_set (i := 3) sc_answers.nd rfl (Or.inl rfl) (pv 5)))))))))
    (pss_one (ps_ret (pv 2))))))), ?_⟩
    refine st_seq (b_set (b_make va_nil fun x dx nx ndx nex => ⟨H, x, dx, rfl, upd_same, (Same.new ndx).trans (Same.new (by rw [upd_ne nex.symm]; exact nx)), nx, fun H1 G W1 eG => ⟨rfl, ?_⟩⟩))
    subst eG
    dsimp only
    refine st_seq (b_set (va_lst va_nil (by decide) fun t nt => ?_))
    have W2 := (W1.mono (Same.new (o := .lst []) nt)).give upd_same (fun j hj => W1.ne_new hj nt)
    have ntH : H t = none := W1.same.free nt
    dsimp only
    refine st_seq (st_set val_c ?_)
    dsimp only
    refine st_seq (b_while (fun m σ H' => ∃ (i : Nat) (L : Lay) (s : Ha04.St) (tt : List Int) (H0 Hs : Hp) (cs : List (List (List Int))) (g : Nat) (v4 v5 v6 : Option V), σ = [some (.ref a), some (.ref G.w), some (.ref t), some (.int (i : Int)), v4, v5, v6] ∧ m = ns.length - i ∧ i ≤ ns.length ∧ Same H H0 ∧ H0 t = some (.lst (tt.map V.int)) ∧ Go Z H0 Hs G H' L (rep s) ∧ Good s ∧
      PyFlat.calls PyHa04.shape g (ns.drop i) = some cs ∧ cs.length ≤ 100 ∧ sz s + 3100 * cs.length ≤ 310000 ∧ tt ++ PyFlat.told (PyFlat.played Ha04Neutral.step s cs) = PyHa04.answers ns)
      (m0 := ns.length) ⟨0, G, Ha04.init, [], _, _, raw, ns.length, none, none, none, rfl, rfl, Nat.zero_le _, Same.new ntH, upd_same, Go.of W2, good_init, hraw, hraw1, by rw [sz_init]; omega, hans.symm⟩ ?_)
    rintro m σ H' ⟨i, L, s, tt, H0, Hs, cs, g, v4, v5, v6, rfl, rfl, hi, sH, ht, W, gd, hcs, hcl, hz, eq⟩
    have hSq : SqL K H' a (ns.map V.int) := (sH.trans W.W.same).seq hS
    have t1 := a_ltI (val_var (σ := [some (.ref a), some (.ref G.w), some (.ref t), some (.int (i : Int)), v4, v5, v6]) (H := H') (i := 3) (v := .int (i : Int)) rfl) (v_lenL (K := K) (val_var (i := 0) rfl) hSq)
    rw [List.length_map] at t1
    by_cases hlt : i < ns.length
    · refine .inl ⟨Ans.to t1 (decide_eq_true (by omega)), ?_⟩
      have ed : ns.drop i = ns[i] :: ns.drop (i + 1) := List.drop_eq_getElem_cons hlt
      rw [ed] at hcs
      obtain ⟨g', n, cs', rfl, hsh, hn, hcs', rfl⟩ := calls_cons hcs
      have hb0 := hbd ns[i] (List.getElem_mem hlt)
      obtain ⟨c, hc⟩ : ∃ c : Nat, ns[i] = (c : Int) := ⟨ns[i].toNat, by omega⟩
      rw [List.length_drop] at hn
      rw [List.drop_drop] at hcs'
      obtain ⟨as, has, hasl, hasb⟩ : ∃ as : List Nat, (ns.drop (i + 1)).take n = as.map (fun (a : Nat) => (a : Int)) ∧ as.length = n ∧ ∀ a ∈ as, a ≤ 4294967295 := by
        refine ⟨((ns.drop (i + 1)).take n).map Int.toNat, ?_, ?_, ?_⟩
        · exact (nats_of _ fun z hz => (hbd z (List.mem_of_mem_drop (List.mem_of_mem_take hz))).1).symm
        · rw [List.length_map, List.length_take, List.length_drop]
          omega
        · intro a ha
          obtain ⟨z, hz, rfl⟩ := List.mem_map.mp ha
          have := hbd z (List.mem_of_mem_drop (List.mem_of_mem_take hz))
          omega
      rw [hc] at hsh
      obtain ⟨x, hx1, hx2⟩ := neutral_step (s := s) hsh hasl ⟨by omega, hasb⟩
      rw [hc, has] at eq
      rw [told_cons hx2] at eq
      have hgv := hg c n hsh
      have e1 : (i : Int) + 1 = ((i + 1 : Nat) : Int) := by omega
      have e2 : (i : Int) + 1 + (n : Int) = ((i + 1 + n : Nat) : Int) := by omega
      refine st_seq (st_set (v := .int (c : Int)) (v_ixL (val_var rfl) hSq (val_var rfl) (by rw [List.getElem?_map, List.getElem?_eq_getElem hlt, hc]; rfl)) ?_)
      dsimp only
      refine st_seq (st_set (v := .int ((i + 1 + n : Nat) : Int)) (by rw [← e2]; exact v_add (v_add (val_var rfl) val_c) (v_ixT val_c (T.given _) (val_var rfl) (by rw [List.getElem?_map, hgv]; rfl))) ?_)
      dsimp only
      refine st_seq (b_set (b_call3 (val_var rfl) (val_var rfl) (b_slL (i := i + 1) (j := i + 1 + n) (val_var rfl) hSq (by rw [← e1]; exact v_add (val_var rfl) val_c) (val_var rfl) (by omega) (by rw [List.length_map]; omega) fun q nq => ?_)))
      have W1 := W.new (o := .lst ((as.map fun (n : Nat) => V.int n))) nq
      have el : ((ns.map V.int).drop (i + 1)).take (i + 1 + n - (i + 1)) = as.map fun (n : Nat) => V.int n := by
        rw [show i + 1 + n - (i + 1) = n by omega, ← List.map_drop, ← List.map_take, has, List.map_map]
        rfl
      rw [el]
      refine ⟨H0, Hs, G, L, s, c, as, q, x, rfl, hx1, SqL.of upd_same, W1, gd, by omega, fun H2 L2 p W2 np hp => ?_⟩
      obtain ⟨gd2, hz2⟩ := step_keeps gd x
      obtain ⟨y, ey⟩ : ∃ y, y = Ha04.step s x := ⟨_, rfl⟩
      rw [← ey] at W2 hp eq gd2 hz2
      have hlenA : (tt ++ (((y.2.length : Nat) : Int) :: y.2 ++ PyFlat.told (PyFlat.played Ha04Neutral.step y.1 cs'))).length ≤ 1000100 := by
        rw [eq]
        exact hsz
      rw [List.length_append, List.length_append, List.length_cons] at hlenA
      have npt : p ≠ t := fun e => by rw [e, ht] at np; cases np
      dsimp only
      refine st_seq (b_drop (b_append (val_var rfl) (W2.W.same _ _ ht) (by rw [List.length_map]; omega) (v_lenL (val_var rfl) (SqL.of hp)) ?_))
      have W3 := W2.outer (o := .lst (tt.map V.int ++ [.int (((y.2.map V.int).length : Nat) : Int)])) ht (fun h => h)
      dsimp only
      refine st_seq (b_drop (b_extend (val_var rfl) upd_same (val_var rfl) (by rw [upd_ne npt]; exact hp) (by rw [List.length_append, List.length_map, List.length_map, List.length_singleton]; omega) ?_))
      have W4 := W3.outer (p := t) (o := .lst (tt.map V.int ++ [.int (((y.2.map V.int).length : Nat) : Int)] ++ y.2.map V.int)) upd_same (fun h => h)
      dsimp only
      refine st_set (val_var rfl) ?_
      dsimp only
      refine ⟨ns.length - (i + 1 + n), by omega, i + 1 + n, L2, y.1, tt ++ (((y.2.length : Nat) : Int) :: y.2), _, _, cs', g', _, _, _, rfl, rfl, by omega, ?_, ?_, W4, gd2, hcs', ?_, ?_, ?_⟩
      · rw [upd_upd]
        exact fun b o e => by
          rw [upd_ne (ne_of_none e ntH)]
          exact sH b o e
      · rw [upd_same, List.length_map, List.map_append, List.map_cons, List.append_assoc]
        rfl
      · rw [List.length_cons] at hcl
        omega
      · rw [List.length_cons] at hz
        omega
      · rw [List.append_assoc]
        exact eq
    · refine .inr ⟨Ans.to t1 (decide_eq_false (by omega)), ?_⟩
      have ei : i = ns.length := by omega
      rw [ei, List.drop_length, calls_nil] at hcs
      cases hcs
      have eq : tt ++ [] = PyHa04.answers ns := eq
      rw [List.append_nil] at eq
      refine st_ret (val_var rfl) (k _ t ?_)
      rw [← eq]
      exact W.W.same _ _ ht
end
end AO

set_option Elab.async false
set_option maxRecDepth 100000
set_option maxHeartbeats 4000000
set_option linter.unusedVariables false
namespace AO
open PySem L2
open Ha04 (Req Sig Came)
/-! ### 20. Second stage: start, ticks -/
section
variable {Z : Cs} {H0 Hs H : Hp} {G L : Lay} {m : M}
/-- what is made at q stands outside from now on -/
theorem Go.give (g : Go Z H0 Hs G H L m) {q : Addr} {o : HO} (nq : H q = none) : Go Z (upd H0 q o) Hs G (upd H q o) L m :=
  ⟨(g.W.mono (Same.new nq)).give upd_same (fun j hj => g.W.ne_new hj nq), g.fx, g.k.trans (.of (Same.new nq))⟩
/-- .. and is let go -/
theorem Go.letGo {q : Addr} {o : HO} (g : Go Z (upd H0 q o) Hs G H L m) (nq : H0 q = none) : Go Z H0 Hs G H L m :=
  ⟨⟨(Same.new nq).trans g.W.same, g.W.cell, fun k hk => (Same.new nq).free (g.W.out k hk), g.W.inj, g.W.held⟩, g.fx, g.k⟩
end
section
variable {K : PySem.W.Frag} {mg : Str → Option Value} {Z : Cs} {H0 Hs H : Hp} {G L : Lay} {m : M} {sg : L2.St} {ta tb te tw t1 t2 : TE} {tt : TT} {D : Ends} {Q : VK} {g : TG} {ts ts1 ts2 : TS} {sp : Sp} {E : XK}
theorem st_cut (P : Hp → Prop) (h1 : ∀ N : L2.St → Hp → Prop, (∀ H', P H' → N sg H') → ts1 { D with nx := N } sg H) (h2 : ∀ H', P H' → ts2 D sg H') : tSeq ts1 ts2 D sg H := h1 (ts2 D) h2
theorem v_andV {a b : Bool} (h1 : Val ta sg H (.bl a)) (h2 : a = true → Val tb sg H (.bl b)) : Val (tAndV ta tb) sg H (.bl (a && b)) := fun Q q => h1 _ ⟨a, rfl, by
  cases a with
  | true => exact if_pos_of rfl (h2 rfl Q q)
  | false => exact if_neg_of rfl q⟩
theorem v_notN {x : V} {b : Bool} (h : Val ta sg H x) (e : (!decide (x = .non)) = b) : Val (tOp rNotN ta (tC .non)) sg H (.bl b) := val_op h val_c fun Q q => ⟨rfl, by rw [e]; exact q⟩
theorem Val.bl {a b : Bool} (h : Val ta sg H (.bl a)) (e : a = b) : Val ta sg H (.bl b) := e ▸ h
theorem v_eqI {a b : Int} (ha : Val ta sg H (.int a)) (hb : Val tb sg H (.int b)) : Val (tOp rEq ta tb) sg H (.bl (decide (a = b))) := val_op ha hb fun Q q => ⟨rfl, by
  have e : decide (V.int a = V.int b) = decide (a = b) := by
    by_cases e : a = b
    · subst e; simp
    · simp [e]
  rw [e]
  exact q⟩
theorem v_leI {a b : Int} (ha : Val ta sg H (.int a)) (hb : Val tb sg H (.int b)) : Val (tOp (rI0 fun i j => .bl (decide (i ≤ j))) ta tb) sg H (.bl (decide (a ≤ b))) := val_op ha hb fun Q q => ⟨a, b, rfl, rfl, q⟩
theorem b_forE (h : te sg H fun x H1 => ∃ a, x = .ref a ∧ (∃ xs, SqL K H1 a xs) ∧ ∃ W : Nat → Nat → L2.St → Hp → Prop, (∃ m, W 0 m sg H1) ∧ ∀ i m s' H', W i m s' H' →
      ((Itl K a).stop i H' ∧ D.nx s' H') ∨ ((Itl K a).go i H' ∧ ∃ N : L2.St → Hp → Prop, (∀ s2 H2, N s2 H2 → ∃ m', m' < m ∧ W (i + 1) m' s2 H2) ∧ ∀ x H2, (Itl K a).yld i H' x H2 → g x s' H2 fun s3 H3 => ts { D with nx := N, ct := N, bk := D.nx } s3 H3)) : tFor (iList K te) g ts D sg H := h
/-- what sorted(a dict with ints as keys) asks -/
def rSortDI : List V → Hp → VK → Prop := fun xs H Q => ∃ (a : Addr) (kvs : List (Key × V)) (ks : List Int), xs = [.ref a] ∧ Rd H a (.dK kvs) ∧ kvs.map (·.1) = ks.map Sum.inl ∧ ks.length < 64 ∧
    ∀ (ys : List Int) (p : Addr), ys.Perm ks → ys.Pairwise (· ≤ ·) → H p = none → Q (.ref p) (upd H p (.lst (ys.map V.int)))
def allC : List Nat := [1, 2, 3, 4]
def allS : List Nat := [11, 12, 13, 14]
theorem isC_all {i c : Nat} (h : allC[i]? = some c) : isC c := by
  have h1 := List.mem_of_getElem? h
  simp [allC] at h1
  unfold isC
  omega
theorem isS_all {i c : Nat} (h : allS[i]? = some c) : isS c := by
  have h1 := List.mem_of_getElem? h
  simp [allS] at h1
  unfold isS
  omega
theorem b_sortC (T : Txt K mg Z) (W : Go Z H0 Hs G H L m) (h : Val tw sg H (.ref G.w)) (k : ∀ q, H q = none → Q (.ref q) (upd H q (.lst (allC.map fun (c : Nat) => V.int c)))) : tCB rSortDI (tCons (tFld K tw "callers") tNil) sg H Q := by
  refine v_callers T W h _ ⟨L.dc, cals L, [1, 2, 3, 4], rfl, .of W.W.held.dc, rfl, by decide, fun ys p hp hs np => ?_⟩
  have e : ys = [1, 2, 3, 4] := List.Perm.eq_of_pairwise (fun _ _ _ _ a b => Int.le_antisymm a b) hs (by decide) hp
  subst e
  exact k p np
theorem b_sortS (T : Txt K mg Z) (W : Go Z H0 Hs G H L m) (h : Val tw sg H (.ref G.w)) (k : ∀ q, H q = none → Q (.ref q) (upd H q (.lst (allS.map fun (c : Nat) => V.int c)))) : tCB rSortDI (tCons (tFld K tw "servers") tNil) sg H Q := by
  refine v_servers T W h _ ⟨L.ds, srvs L, [11, 12, 13, 14], rfl, .of W.W.held.ds, rfl, by decide, fun ys p hp hs np => ?_⟩
  have e : ys = [11, 12, 13, 14] := List.Perm.eq_of_pairwise (fun _ _ _ _ a b => Int.le_antisymm a b) hs (by decide) hp
  subst e
  exact k p np
end
def spLives (Z : Cs) : Sp := fun vs H Q _ => ∃ (H0 Hs : Hp) (G L : Lay) (s : Ha04.St) (p : Nat), vs = [.ref G.w, .int p] ∧ Go Z H0 Hs G H L (rep s) ∧ Good s ∧ isS p ∧ (Ha04.server s p).lives = false ∧
  Nx Z H0 Hs G (Ha04.setServer s p ⟨true, (Ha04.server s p).life + 1, 0, [], [], []⟩) (Q .non)
/-- the time of the call that c waits for is over -/
def overB (s : Ha04.St) (c : Nat) : Bool := match (Ha04.caller s c).waits with
  | some (_, _, some t) => decide (t ≤ s.time)
  | _ => false
def spOver (Z : Cs) : Sp := fun vs H Q _ => ∃ (H0 Hs : Hp) (G L : Lay) (s : Ha04.St) (c : Nat), vs = [.ref G.w, L.calW (c : Int)] ∧ Go Z H0 Hs G H L (rep s) ∧ isC c ∧ Q (.bl (overB s c)) H
def spPass (Z : Cs) : Sp := fun vs H Q _ => ∃ (H0 Hs : Hp) (G L : Lay) (s : Ha04.St) (n : Nat), vs = [.ref G.w, .int n] ∧ Go Z H0 Hs G H L (rep s) ∧ Good s ∧ sz s ≤ 2900000 ∧
  Nx Z H0 Hs G (Ha04.passes s n) (Q .non)
theorem over_yes {s : Ha04.St} {c : Nat} (h : overB s c = true) : ∃ x, (Ha04.caller s c).waits = some x ∧ Ha04.overdue s c = Ha04.comes s c x.1 2 0 := by
  unfold overB at h
  unfold Ha04.overdue
  cases e : (Ha04.caller s c).waits with
  | none =>
    rw [e] at h
    cases h
  | some x =>
    obtain ⟨n, p, o⟩ := x
    rw [e] at h
    cases o with
    | none => cases h
    | some t =>
      have h : t ≤ s.time := of_decide_eq_true h
      refine ⟨_, rfl, ?_⟩
      show (if t ≤ s.time then _ else _) = _
      rw [if_pos h]
theorem over_no {s : Ha04.St} {c : Nat} (h : overB s c = false) : Ha04.overdue s c = s := by
  unfold overB at h
  unfold Ha04.overdue
  cases e : (Ha04.caller s c).waits with
  | none => rfl
  | some x =>
    obtain ⟨n, p, o⟩ := x
    rw [e] at h
    cases o with
    | none => rfl
    | some t =>
      have h : ¬ t ≤ s.time := of_decide_eq_false h
      show (if t ≤ s.time then _ else _) = _
      rw [if_neg h]
theorem comes_time {s : Ha04.St} {c num how v : Nat} : (Ha04.comes s c num how v).time = s.time := by
  unfold Ha04.comes
  split
  · split
    · show (if how = 1 then _ else _ : Ha04.St).time = _
      split <;> rfl
    · rfl
  · rfl
theorem overdue_time {s : Ha04.St} {c : Nat} : (Ha04.overdue s c).time = s.time := by
  cases h : overB s c with
  | true =>
    obtain ⟨x, _, e⟩ := over_yes h
    rw [e, comes_time]
  | false => rw [over_no h]
theorem passes_time {s : Ha04.St} {n : Nat} : (Ha04.passes s n).time = s.time + n := by
  show (Ha04.overdue (Ha04.overdue (Ha04.overdue (Ha04.overdue { s with time := s.time + n } 1) 2) 3) 4).time = _
  rw [overdue_time, overdue_time, overdue_time, overdue_time]
section
variable {P : Program} {w : World} {K : PySem.W.Frag} {mg : Str → Option Value} {base : Heap} {Z : Cs}
theorem sc_lives_again : FnScope ["world", "p", "server"] ["world", "p"] (defScope s_lives_again) := ⟨rfl, rfl, rfl, by decide +kernel, rfl, by decide +kernel, by decide +kernel⟩
theorem ok_lives {f : Addr} {fd : FuncData} (F : Fun K "lives_again" "lives_again" s_lives_again f fd) (T : Txt K mg Z) : FnOk P w K mg base CX0 1 f fd ["world", "p"] (spLives Z) := by
  refine F.ok sc_lives_again (fun vs H Q E h => ?_) (fun cdv A outer s0 H vs Q E hr h => ?_)
  · obtain ⟨H0, Hs, G, L, s, p, rfl, _⟩ := h
    rfl
  · obtain ⟨H0, Hs, G, L, s, p, rfl, W, g, hp, hd, k⟩ := h
    have hS := inS_of hp
    refine ⟨_, (pss_cons (ps_set (i := 2) sc_lives_again.nd rfl (Or.inl rfl) (pe_dget (hu_of hr) (pe_fld (pv 0) rfl) (pv 1) (fun _ _ => rfl)))
    (pss_cons (ps_fld (pv 2) pe_bl rfl)
    (pss_cons (ps_fldaug (pv 2) pe_int in_add)
    (pss_one (ps_fld (pv 2) pe_int rfl))))), ?_⟩
    refine st_seq (st_set (v_server T W (val_var rfl) hS (val_var rfl)) ?_)
    refine st_seq (st_fld val_c (val_var rfl) (W.srv hS) T.cS T.nS_alive (by show 6 < 1000; decide) ?_)
    have W1 := W.setSrv hS (x := { (rep s).servers p with alive := true }) rfl rfl rfl (sF_putAlive _ _ _ _ _)
    obtain ⟨m1, em1⟩ : ∃ m1 : M, m1 = (rep s).setS p { (rep s).servers p with alive := true } := ⟨_, rfl⟩
    rw [← em1] at W1
    dsimp only
    refine st_seq (st_aug (val_var rfl) (W1.srv hS) T.cS T.nS_lives (sF_lives _ _ _ _) val_c (fun Q q => ⟨_, _, rfl, rfl, q⟩) (by show 6 < 1000; decide) ?_)
    have W2 := W1.setSrv hS (x := { m1.servers p with lives := (m1.servers p).lives + 1 }) rfl rfl rfl (sF_putLives _ _ _ _ _)
    obtain ⟨m2, em2⟩ : ∃ m2 : M, m2 = m1.setS p { m1.servers p with lives := (m1.servers p).lives + 1 } := ⟨_, rfl⟩
    rw [← em2] at W2
    dsimp only
    refine st_fld val_c (val_var rfl) (W2.srv hS) T.cS T.nS_total (by show 6 < 1000; decide) ?_
    have W3 := W2.setSrv hS (x := { m2.servers p with total := 0 }) rfl rfl rfl (sF_putTotal _ _ _ _ _)
    refine k _ L (W3.cast ?_)
    rw [em2, em1]
    simp only [setS_setS, M.setS_at]
    rw [rep_setS g.ls hp, rep_server s hp]
    obtain ⟨d1, d2, d3⟩ := g.dead p hp hd
    refine congrArg _ ?_
    show ServerM.mk true (((Ha04.server s p).life : Int) + 1) 0 ((Ha04.server s p).asked.map repR) ((Ha04.server s p).later.map repT) ((Ha04.server s p).watched.map repP) = _
    rw [d1, d2, d3]
    rfl
theorem sc_start : FnScope ["world", "p"] ["world", "p"] (defScope s_start) := ⟨rfl, rfl, rfl, by decide +kernel, rfl, by decide +kernel, by decide +kernel⟩
theorem ok_start {f fD : Addr} {fd fdD : FuncData} (F : Fun K "start" "start" s_start f fd) (T : Txt K mg Z) (G_lives_again : Cal P w K mg base 1 "lives_again" ["world", "p"] (spLives Z) fD fdD) : FnOk P w K mg base CX0 2 f fd ["world", "p"] (spAct Z 1 cStart) := by
  refine F.ok sc_start (fun vs H Q E h => ?_) (fun cdv A outer s0 H vs Q E hr h => ?_)
  · obtain ⟨H0, Hs, G, L, s, as, hl, rfl, _⟩ := h
    obtain ⟨p, rfl⟩ := len1 hl
    rfl
  · obtain ⟨H0, Hs, G, L, s, as, hl, rfl, W, g, hz, k⟩ := h
    obtain ⟨p, rfl⟩ := len1 hl
    refine ⟨_, (pss_cons (ps_if (pt_cmp (pc_dnotin (hu_of hr) (pv 1) (pe_fld (pv 0) rfl)))
      (pss_one (ps_ret (pe_lst (pa_cons (pe_gi T.k_NOT_THERE rfl) pa_nil))))
      pss_nil)
    (pss_cons (ps_if (pt_val (pe_fld (pe_dget (hu_of hr) (pe_fld (pv 0) rfl) (pv 1) (fun _ _ => rfl)) rfl))
      (pss_one (ps_ret (pe_lst (pa_cons (pe_gi T.k_NOT_NOW rfl) pa_nil))))
      pss_nil)
    (pss_cons (ps_expr (pe_call G_lives_again.ok (hr.mono (by decide)) rfl G_lives_again.g G_lives_again.kp G_lives_again.b .nil pass0 (pa_cons (pv 0) (pa_cons (pv 1) pa_nil))))
    (pss_one (ps_ret (pe_lst (pa_cons (pe_fld (pe_dget (hu_of hr) (pe_fld (pv 0) rfl) (pv 1) (fun _ _ => rfl)) rfl) pa_nil))))))), ?_⟩
    have ek : Ha04.step s (cStart [p]) = if Ha04.isServer p = false then (s, [-1]) else if (Ha04.server s p).lives = true then (s, [-8]) else (Ha04.setServer s p ⟨true, (Ha04.server s p).life + 1, 0, [], [], []⟩, Ha04.ints [(Ha04.server s p).life + 1]) := rfl
    rw [isS_b] at ek
    by_cases hp : isS p
    · have hS := inS_of hp
      have eal := congrArg ServerM.alive (rep_server s hp)
      rw [ek, if_neg (by rw [decide_eq_true hp]; exact Bool.noConfusion)] at k
      refine st_seq (st_no (Ans.to (a_notInServers T W (val_var rfl) (val_var rfl)) (by rw [decide_eq_true hS]; rfl)) ?_)
      have t2 := ans_val (v_alive T W hS (v_server (σ := start ["world", "p"] [.ref G.w, .int p]) T W (val_var (i := 0) rfl) hS (val_var (i := 1) rfl)))
      rw [eal] at t2
      cases ea : (Ha04.server s p).lives with
      | true =>
        rw [if_pos ea] at k
        refine st_seq (st_yes (Ans.to t2 (by show (Ha04.server s p).lives = true; exact ea)) (give_list (xs := [-8]) W (va_cons val_c va_nil) (by decide) k))
      | false =>
        rw [if_neg (by rw [ea]; exact Bool.noConfusion)] at k
        refine st_seq (st_no (Ans.to t2 (by show (Ha04.server s p).lives = false; exact ea)) ?_)
        refine st_seq (b_drop (va_call (va_cons (val_var rfl) (va_cons (val_var rfl) va_nil)) ⟨H0, Hs, G, L, s, p, rfl, W, g, hp, ea, fun H2 L2 W2 => ?_⟩))
        refine give_list (xs := [((rep (Ha04.setServer s p ⟨true, (Ha04.server s p).life + 1, 0, [], [], []⟩)).servers p).lives]) W2 (va_cons (v_lives T W2 hS (v_server T W2 (val_var rfl) hS (val_var rfl))) va_nil) (by show 1 ≤ 1000; decide) ?_
        rw [rep_server _ hp, server_set g.ls hp]
        exact k
    · rw [ek, if_pos (decide_eq_false hp)] at k
      refine st_seq (st_yes (Ans.to (a_notInServers T W (val_var rfl) (val_var rfl)) (by rw [inS_dec, decide_eq_false hp]; rfl)) (give_list (xs := [-1]) W (va_cons val_c va_nil) (by decide) k))
theorem sc_is_over : FnScope ["world", "wait"] ["world", "wait"] (defScope s_is_over) := ⟨rfl, rfl, rfl, by decide +kernel, rfl, by decide +kernel, by decide +kernel⟩
theorem ok_over {f : Addr} {fd : FuncData} (F : Fun K "is_over" "is_over" s_is_over f fd) (T : Txt K mg Z) : FnOk P w K mg base CX0 1 f fd ["world", "wait"] (spOver Z) := by
  refine F.ok sc_is_over (fun vs H Q E h => ?_) (fun cdv A outer s0 H vs Q E hr h => ?_)
  · obtain ⟨H0, Hs, G, L, s, c, rfl, _⟩ := h
    rfl
  · obtain ⟨H0, Hs, G, L, s, c, rfl, W, hc, k⟩ := h
    refine ⟨_, (pss_one (ps_ret (pe_and (pe_cmpR op_notN (pv 1) pe_non (nomark _)) (pe_and (pe_cmpR op_eq (pe_fld (pv 1) rfl) pe_int (nomark _)) (pe_one (pe_cmpR op_le (pe_fld (pv 1) rfl) (pe_fld (pv 0) rfl) (nomark _))))))), ?_⟩
    have hW := W.W.wait hc
    obtain ⟨v, ev⟩ : ∃ v, v = L.calW (c : Int) := ⟨_, rfl⟩
    rw [← ev] at hW ⊢
    unfold overB at k
    cases ew : (Ha04.caller s c).waits with
    | none =>
      rw [ew] at hW k
      have hW : v = .non := hW
      subst hW
      exact st_ret (v_andV (a := false) (b := false) (v_notN (val_var rfl) rfl) (fun e => by cases e)) k
    | some x =>
      obtain ⟨n, p, o⟩ := x
      rw [ew] at hW k
      cases o with
      | none =>
        obtain ⟨aw, dw, rfl, hA⟩ := hW
        exact st_ret (v_andV (a := true) (b := false) (v_notN (val_var rfl) rfl) (fun _ => v_andV (a := false) (b := false) (Val.bl (v_eqI (v_ends T hA (val_var rfl)) val_c) rfl) (fun e => by cases e))) k
      | some t =>
        obtain ⟨aw, dw, rfl, hA⟩ := hW
        refine st_ret (v_andV (a := true) (b := decide ((t : Int) ≤ (s.time : Int))) (v_notN (val_var rfl) rfl) (fun _ => v_andV (a := true) (b := decide ((t : Int) ≤ (s.time : Int))) (Val.bl (v_eqI (v_ends T hA (val_var rfl)) val_c) rfl) (fun _ => v_leI (v_over T hA (val_var rfl)) (v_now T W (val_var rfl))))) ?_
        have e : decide ((t : Int) ≤ (s.time : Int)) = decide (t ≤ s.time) := decide_eq_decide.mpr (by omega)
        rw [e]
        exact k
theorem sc_time_passes : FnScope ["world", "n", "c"] ["world", "n"] (defScope s_time_passes) := ⟨rfl, rfl, rfl, by decide +kernel, rfl, by decide +kernel, by decide +kernel⟩
theorem ok_pass {f fC fO : Addr} {fd fdC fdO : FuncData} (F : Fun K "time_passes" "time_passes" s_time_passes f fd) (T : Txt K mg Z) (G_comes_back : Cal P w K mg base 4 "comes_back" ["world", "c", "how", "answer"] (spComes Z) fC fdC) (G_is_over : Cal P w K mg base 1 "is_over" ["world", "wait"] (spOver Z) fO fdO) : FnOk P w K mg base CX0 5 f fd ["world", "n"] (spPass Z) := by
  refine F.ok sc_time_passes (fun vs H Q E h => ?_) (fun cdv A outer s0 H vs Q E hr h => ?_)
  · obtain ⟨H0, Hs, G, L, s, n, rfl, _⟩ := h
    rfl
  · obtain ⟨H0, Hs, G, L, s, n, rfl, W, g, hz, k⟩ := h
    refine ⟨_, (pss_cons (ps_fldaug (pv 0) (pv 1) in_add)
    (pss_one (ps_for PassesOwn.never rfl (pi_list (pe_callB (call_sortedDI rfl) (by rfl) T.sorted PyProof.Rows.boot_sorted (pa_cons (pe_fld (pv 0) rfl) pa_nil))) (pg_name (i := 2) sc_time_passes.nd rfl (Or.inl rfl))
      (pss_one (ps_if (pt_val (pe_call G_is_over.ok (hr.mono (by decide)) rfl G_is_over.g G_is_over.kp G_is_over.b .nil pass0 (pa_cons (pv 0) (pa_cons (pe_fld (pe_dget (hu_of hr) (pe_fld (pv 0) rfl) (pv 2) (fun _ _ => rfl)) rfl) pa_nil))))
      (pss_one (ps_expr (pe_call G_comes_back.ok (hr.mono (by decide)) rfl G_comes_back.g G_comes_back.kp G_comes_back.b .nil pass0 (pa_cons (pv 0) (pa_cons (pv 2) (pa_cons (pe_gi T.k_CAME_OVER rfl) (pa_cons pe_int pa_nil)))))))
      pss_nil))))), ?_⟩
    refine st_seq (st_aug (val_var rfl) W.w T.cW T.nW_now (wF_now _ _ _ _) (val_var rfl) (fun Q q => ⟨_, _, rfl, rfl, q⟩) (by show 5 < 1000; decide) ?_)
    obtain ⟨s1, es1⟩ : ∃ s1 : Ha04.St, s1 = { s with time := s.time + n } := ⟨_, rfl⟩
    have W1 := (W.setNow ((rep s).now + (n : Int))).cast (m' := rep s1) (by rw [es1]; rfl)
    have g1 : Good s1 := by rw [es1]; exact g.time _
    have hz1 : sz s1 ≤ 2900000 := by rw [es1]; exact hz
    have k1 : Nx Z H0 Hs G (allC.foldl Ha04.overdue s1) (Q .non) := by rw [es1]; exact k
    dsimp only
    refine b_forE (b_sortC T W1 (val_var rfl) fun q nq => ⟨q, rfl, ⟨_, SqL.of upd_same⟩, ?_⟩)
    have W2 := W1.give (o := .lst (allC.map fun (c : Nat) => V.int c)) nq
    have nq0 : H0 q = none := W1.W.same.free nq
    refine for_list (xs := allC.map fun (c : Nat) => V.int c) (fun i sg H' => ∃ v2 L', sg = [some (.ref G.w), some (.int n), v2] ∧ Go Z (upd H0 q (.lst (allC.map fun (c : Nat) => V.int c))) Hs G H' L' (rep ((allC.take i).foldl Ha04.overdue s1)) ∧ Good ((allC.take i).foldl Ha04.overdue s1) ∧ sz ((allC.take i).foldl Ha04.overdue s1) ≤ 2900000 + 2 * i)
      ⟨none, L, rfl, W2, g1, hz1⟩ (fun i sg H' _ ⟨_, _, _, W3, _⟩ => SqL.of (W3.W.same _ _ upd_same)) ?_ ?_
    · rintro i x sg H' hx ⟨v2, L', rfl, W3, g3, hz3⟩
      obtain ⟨c, hc0, rfl⟩ := map_get hx
      have hc := isC_all hc0
      have hC := inC_of hc
      have hi : i < 4 := (List.getElem?_eq_some_iff.mp hc0).1
      have et : (allC.take (i + 1)).foldl Ha04.overdue s1 = Ha04.overdue ((allC.take i).foldl Ha04.overdue s1) c := by
        rw [take_more hc0, List.foldl_append]
        rfl
      rw [et]
      obtain ⟨s3, es3⟩ : ∃ s3, s3 = (allC.take i).foldl Ha04.overdue s1 := ⟨_, rfl⟩
      rw [← es3] at W3 g3 hz3 ⊢
      have g4 := g3.overdue hc
      have hz4 := sz_overdue g3 hc
      have t1 := ans_call (sp := spOver Z) (E := E0) (b := overB s3 c) (va_cons (val_var (σ := [some (.ref G.w), some (.int n), some (.int c)]) (H := H') (i := 0) rfl) (va_cons (v_waiting T W3 hC (v_caller T W3 (val_var (i := 0) rfl) hC (val_var (i := 2) rfl))) va_nil)) fun Q q => ⟨_, _, _, _, s3, c, rfl, W3, hc, q⟩
      cases eo : overB s3 c with
      | true =>
        obtain ⟨y, hy, ey⟩ := over_yes eo
        refine st_yes (Ans.to t1 eo) ?_
        refine b_drop (b_call4 (val_var rfl) (val_var rfl) val_c (val_c _ ?_))
        refine ⟨_, Hs, G, L', s3, c, 2, 0, y, rfl, W3, g3, by omega, hc, hy, fun H4 L4 W4 => ?_⟩
        rw [← ey] at W4
        exact ⟨_, L4, rfl, W4, g4, by omega⟩
      | false =>
        refine st_no (Ans.to t1 eo) ?_
        rw [over_no eo]
        exact ⟨_, L', rfl, W3, g3, by omega⟩
    · rintro sg H' ⟨v2, L', rfl, W3, _, _⟩
      exact k1 _ L' (W3.letGo nq0)
theorem sc_ticks : FnScope ["world", "n"] ["world", "n"] (defScope s_ticks) := ⟨rfl, rfl, rfl, by decide +kernel, rfl, by decide +kernel, by decide +kernel⟩
theorem ok_ticks {f fD : Addr} {fd fdD : FuncData} (F : Fun K "ticks" "ticks" s_ticks f fd) (T : Txt K mg Z) (G_time_passes : Cal P w K mg base 5 "time_passes" ["world", "n"] (spPass Z) fD fdD) : FnOk P w K mg base CX0 6 f fd ["world", "n"] (spAct Z 1 cTicks) := by
  refine F.ok sc_ticks (fun vs H Q E h => ?_) (fun cdv A outer s0 H vs Q E hr h => ?_)
  · obtain ⟨H0, Hs, G, L, s, as, hl, rfl, _⟩ := h
    obtain ⟨n, rfl⟩ := len1 hl
    rfl
  · obtain ⟨H0, Hs, G, L, s, as, hl, rfl, W, g, hz, k⟩ := h
    obtain ⟨n, rfl⟩ := len1 hl
    refine ⟨_, (pss_cons (ps_if (PW.pt (pw_or (pt_cmpR op_lt (pv 1) pe_int (nomark _)) (pw_or1 (pt_cmpR op_gt (pv 1) (pe_gi T.k_MOST_TICKS rfl) (nomark _)))))
      (pss_one (ps_ret (pe_lst (pa_cons (pe_gi T.k_NOT_THERE rfl) pa_nil))))
      pss_nil)
    (pss_cons (ps_expr (pe_call G_time_passes.ok (hr.mono (by decide)) rfl G_time_passes.g G_time_passes.kp G_time_passes.b .nil pass0 (pa_cons (pv 0) (pa_cons (pv 1) pa_nil))))
    (pss_one (ps_ret (pe_lst (pa_cons (pe_fld (pv 0) rfl) pa_nil)))))), ?_⟩
    have ek : Ha04.step s (cTicks [n]) = if n = 0 ∨ 10000 < n then (s, [-1]) else (Ha04.passes s n, Ha04.ints [s.time + n]) := rfl
    by_cases h2 : n = 0 ∨ 10000 < n
    · rw [ek, if_pos h2] at k
      refine st_seq (st_yes (Ans.to (ans_or2 (a_ltI (val_var rfl) val_c) (a_gtI (val_var rfl) val_c)) (b' := true) ?_) (give_list (xs := [-1]) W (va_cons val_c va_nil) (by decide) k))
      show (decide ((n : Int) < 1) || decide ((10000 : Int) < (n : Int))) = true
      rcases h2 with h2 | h2
      · rw [decide_eq_true (show (n : Int) < 1 by omega)]
        rfl
      · rw [decide_eq_true (show (10000 : Int) < (n : Int) by omega), Bool.or_true]
    · rw [ek, if_neg h2] at k
      refine st_seq (st_no (Ans.to (ans_or2 (a_ltI (val_var rfl) val_c) (a_gtI (val_var rfl) val_c)) (b' := false) ?_) ?_)
      · show (decide ((n : Int) < 1) || decide ((10000 : Int) < (n : Int))) = false
        rw [decide_eq_false (show ¬ (n : Int) < 1 by omega), decide_eq_false (show ¬ (10000 : Int) < (n : Int) by omega)]
        rfl
      · refine st_next ?_
        dsimp only
        refine st_seq (b_drop (va_call (va_cons (val_var rfl) (va_cons (val_var rfl) va_nil)) ⟨H0, Hs, G, L, s, n, rfl, W, g, by omega, fun H2 L2 W2 => ?_⟩))
        refine give_list (xs := [(rep (Ha04.passes s n)).now]) W2 (va_cons (v_now T W2 (val_var rfl)) va_nil) (by show 1 ≤ 1000; decide) ?_
        have e : (rep (Ha04.passes s n)).now = ((s.time + n : Nat) : Int) := by
          show ((Ha04.passes s n).time : Int) = _
          rw [passes_time]
        rw [e]
        exact k
end
end AO

set_option Elab.async false
set_option maxRecDepth 100000
set_option maxHeartbeats 4000000
set_option linter.unusedVariables false
namespace AO
open PySem L2
open Ha04 (Req Sig Came)
/-! ### 21. Rounds -/
def spTurn (Z : Cs) : Sp := fun vs H Q _ => ∃ (H0 Hs : Hp) (G L : Lay) (s : Ha04.St), vs = [.ref G.w] ∧ Go Z H0 Hs G H L (rep s) ∧ Good s ∧ sz s ≤ 2800000 ∧
  Nx Z H0 Hs G (Ha04.round s) (Q .non)
theorem works_nil {s : Ha04.St} {p : Nat} (h : (Ha04.server s p).asked = []) : Ha04.works s p = s := by
  unfold Ha04.works
  rw [h]
theorem rounds_more : ∀ (i : Nat) (s : Ha04.St), Ha04.rounds (i + 1) s = Ha04.round (Ha04.rounds i s)
  | 0, _ => rfl
  | i + 1, s => by
    show Ha04.rounds (i + 1) (Ha04.round s) = _
    rw [rounds_more i (Ha04.round s)]
    rfl
section
variable {K : PySem.W.Frag} {sg : L2.St} {H : Hp} {t1 t2 : TE} {ta : TA} {D : Ends} {Q : VK} {g : TG} {ts : TS} {sp : Sp} {E : XK}
theorem b_call1 (h1 : t1 sg H fun v1 H1 => sp [v1] H1 Q E) : tCall sp [] E (tCons t1 tNil) sg H Q := h1
theorem b_call2 {v1 : V} (h1 : Val t1 sg H v1) (h2 : t2 sg H fun v2 H1 => sp [v1, v2] H1 Q E) : tCall sp [] E (tCons t1 (tCons t2 tNil)) sg H Q := h1 _ h2
theorem b_forR {n : Nat} (h : Val t1 sg H (.int (n : Int))) (hn : n ≤ 1000000) (Pv : Nat → L2.St → Hp → Prop) (h0 : Pv 0 sg H)
    (hs : ∀ i s' H', i < n → Pv i s' H' → g (.int (0 + (i : Int))) s' H' fun s2 H2 => ts { D with nx := Pv (i + 1), ct := Pv (i + 1), bk := D.nx } s2 H2) (hd : ∀ s' H', Pv n s' H' → D.nx s' H') : tFor (iRng1 (tCons t1 tNil)) g ts D sg H := by
  refine h _ ⟨(n : Int), rfl, by omega, by omega, ?_⟩
  have e : ((n : Int)).toNat = n := Int.toNat_natCast n
  rw [e]
  exact for_range Pv h0 hs hd
end
section
variable {P : Program} {w : World} {K : PySem.W.Frag} {mg : Str → Option Value} {base : Heap} {Z : Cs}
theorem sc_one_turn : FnScope ["world", "p"] ["world"] (defScope s_one_turn) := ⟨rfl, rfl, rfl, by decide +kernel, rfl, by decide +kernel, by decide +kernel⟩
theorem ok_turn {f fA fD : Addr} {fd fdA fdD : FuncData} (F : Fun K "one_turn" "one_turn" s_one_turn f fd) (T : Txt K mg Z) (G_arrives : Cal P w K mg base 6 "arrives" ["world", "letter"] (spArr Z fun _ _ => True) fA fdA) (G_does_first : Cal P w K mg base 6 "does_first" ["world", "p"] (spDoes Z) fD fdD) : FnOk P w K mg base CX0 7 f fd ["world"] (spTurn Z) := by
  refine F.ok sc_one_turn (fun vs H Q E h => ?_) (fun cdv A outer s0 H vs Q E hr h => ?_)
  · obtain ⟨H0, Hs, G, L, s, rfl, _⟩ := h
    rfl
  · obtain ⟨H0, Hs, G, L, s, rfl, W, g, hz, k⟩ := h
    refine ⟨_, (pss_cons (ps_if (pt_cmpR op_gt (pe_callB call_len_seq (by rfl) T.len PySem.boot_len (pa_cons (pe_fld (pv 0) rfl) pa_nil)) pe_int (nomark _))
      (pss_one (ps_expr (pe_call G_arrives.ok (hr.mono (by decide)) rfl G_arrives.g G_arrives.kp G_arrives.b .nil pass0 (pa_cons (pv 0) (pa_cons (pe_bm PySem.F.plainAttrs_list PySem.F.slot_list_pop PySem.F.type_list_pop mt_popAt (pe_fld (pv 0) rfl) (pa_cons pe_int pa_nil)) pa_nil)))))
      pss_nil)
    (pss_one (ps_for PassesOwn.never rfl (pi_list (pe_callB (call_sortedDI rfl) (by rfl) T.sorted PyProof.Rows.boot_sorted (pa_cons (pe_fld (pv 0) rfl) pa_nil))) (pg_name (i := 1) sc_one_turn.nd rfl (Or.inl rfl))
      (pss_one (ps_if (pt_cmpR op_gt (pe_callB call_len_seq (by rfl) T.len PySem.boot_len (pa_cons (pe_fld (pe_dget (hu_of hr) (pe_fld (pv 0) rfl) (pv 1) (fun _ _ => rfl)) rfl) pa_nil)) pe_int (nomark _))
      (pss_one (ps_expr (pe_call G_does_first.ok (hr.mono (by decide)) rfl G_does_first.g G_does_first.kp G_does_first.b .nil pass0 (pa_cons (pv 0) (pa_cons (pv 1) pa_nil)))))
      pss_nil))))), ?_⟩
    have g1 : Good (Ha04.deliverAt s 0) := g.deliverAt 0
    have hz1 := sz_deliverAt g 0
    refine st_cut (fun H1 => ∃ L1, Go Z H0 Hs G H1 L1 (rep (Ha04.deliverAt s 0))) (fun N hN => ?_) (fun H1 h1 => ?_)
    · have t1 := a_gtI (v_lenL (K := K) (v_air (σ := start ["world", "p"] [.ref G.w]) T W (val_var (i := 0) rfl)) (SqL.of W.air)) (val_c (v := .int 0))
      rw [refs_len, W.W.lenAir] at t1
      cases ea : s.air with
      | nil =>
        rw [ea] at t1
        refine st_no (Ans.to t1 rfl) ?_
        refine hN _ ⟨L, W.cast (congrArg rep ?_)⟩
        unfold Ha04.deliverAt
        rw [ea]
        rfl
      | cons y r =>
        rw [ea] at t1
        have hy : s.air[0]? = some y := by rw [ea]; rfl
        refine st_yes (Ans.to t1 (decide_eq_true (by rw [List.length_cons]; omega))) ?_
        obtain ⟨a, ha, hla⟩ := W.W.held.air.get (i := 0) (b := repL y) (by show (s.air.map repL)[0]? = _; rw [List.getElem?_map, hy]; rfl)
        have hal := sz_air (s := s)
        refine b_drop (b_call2 (val_var rfl) (b_pop (i := 0) (v_air T W (val_var rfl)) W.air val_c (refs_get ha) (by rw [refs_len, W.W.lenAir]; omega) ?_))
        obtain ⟨L2, W2⟩ := W.airPop 0
        have hla2 := hla.mono (W.re.airPop 0).choose_spec.k
        have W2 := W2.cast (show _ = rep { s with air := s.air.eraseIdx 0 } by
          show M.mk _ _ _ _ ((s.air.map repL).eraseIdx 0) = M.mk _ _ _ _ ((s.air.eraseIdx 0).map repL)
          rw [map_erase]
          rfl)
        have okx : okX y.1 y.2.1 y.2.2 := g.air y (List.mem_of_getElem? hy)
        have g2 : Good { s with air := s.air.eraseIdx 0 } := g.air_of fun z hz => g.air z (List.mem_of_mem_eraseIdx hz)
        have hz2 := sz_air_of (s := s) (s.air.eraseIdx 0) (List.length_eraseIdx_le ..)
        have ed : Ha04.deliverAt s 0 = Ha04.arrives { s with air := s.air.eraseIdx 0 } y.1 y.2.1 y.2.2 := by
          unfold Ha04.deliverAt
          rw [hy]
        refine ⟨H0, Hs, G, L2, _, a, y.1, y.2.1, y.2.2, rfl, W2, g2, by omega, hla2, okx, trivial, fun H3 L3 W3 => ?_⟩
        rw [← ed] at W3
        exact hN _ ⟨L3, W3⟩
    · obtain ⟨L1, W1⟩ := h1
      obtain ⟨s1, es1⟩ : ∃ s1 : Ha04.St, s1 = Ha04.deliverAt s 0 := ⟨_, rfl⟩
      have k1 : Nx Z H0 Hs G (allS.foldl Ha04.works s1) (Q .non) := by rw [es1]; exact k
      rw [← es1] at W1 g1 hz1
      refine b_forE (b_sortS T W1 (val_var rfl) fun q nq => ⟨q, rfl, ⟨_, SqL.of upd_same⟩, ?_⟩)
      have W2 := W1.give (o := .lst (allS.map fun (c : Nat) => V.int c)) nq
      have nq0 : H0 q = none := W1.W.same.free nq
      refine for_list (xs := allS.map fun (c : Nat) => V.int c) (fun i sg H' => ∃ v1 L', sg = [some (.ref G.w), v1] ∧ Go Z (upd H0 q (.lst (allS.map fun (c : Nat) => V.int c))) Hs G H' L' (rep ((allS.take i).foldl Ha04.works s1)) ∧ Good ((allS.take i).foldl Ha04.works s1) ∧ sz ((allS.take i).foldl Ha04.works s1) ≤ 2800002 + i)
        ⟨none, L1, rfl, W2, g1, by show sz s1 ≤ _; omega⟩ (fun i sg H' _ ⟨_, _, _, W3, _⟩ => SqL.of (W3.W.same _ _ upd_same)) ?_ ?_
      · rintro i x sg H' hx ⟨v1, L', rfl, W3, g3, hz3⟩
        obtain ⟨p, hp0, rfl⟩ := map_get hx
        have hp := isS_all hp0
        have hS := inS_of hp
        have hi : i < 4 := (List.getElem?_eq_some_iff.mp hp0).1
        have et : (allS.take (i + 1)).foldl Ha04.works s1 = Ha04.works ((allS.take i).foldl Ha04.works s1) p := by
          rw [take_more hp0, List.foldl_append]
          rfl
        rw [et]
        obtain ⟨s3, es3⟩ : ∃ s3, s3 = (allS.take i).foldl Ha04.works s1 := ⟨_, rfl⟩
        rw [← es3] at W3 g3 hz3 ⊢
        have g4 := g3.works hp
        have hz4 := sz_works g3 hp
        have t2 := a_gtI (v_lenL (K := K) (v_asked T W3 hS (v_server (σ := [some (.ref G.w), some (.int p)]) T W3 (val_var (i := 0) rfl) hS (val_var (i := 1) rfl))) (SqL.of (W3.ask hS))) (val_c (v := .int 0))
        rw [refs_len, W3.W.lenAsk hp] at t2
        cases eq : (Ha04.server s3 p).asked with
        | nil =>
          rw [eq] at t2
          refine st_no (Ans.to t2 rfl) ?_
          rw [works_nil eq]
          exact ⟨_, L', rfl, W3, g3, by omega⟩
        | cons r l =>
          rw [eq] at t2
          refine st_yes (Ans.to t2 (decide_eq_true (by rw [List.length_cons]; omega))) ?_
          refine b_drop (va_call (va_cons (val_var rfl) (va_cons (val_var rfl) va_nil)) ⟨_, Hs, G, L', s3, p, r, l, rfl, W3, g3, by omega, hp, eq, fun H4 L4 a W4 ha => ?_⟩)
          exact ⟨_, L4, rfl, W4, g4, by omega⟩
      · rintro sg H' ⟨v1, L', rfl, W3, _, _⟩
        exact k1 _ L' (W3.letGo nq0)
theorem sc_turns : FnScope ["world", "n", "turn"] ["world", "n"] (defScope s_turns) := ⟨rfl, rfl, rfl, by decide +kernel, rfl, by decide +kernel, by decide +kernel⟩
theorem ok_turns {f fD : Addr} {fd fdD : FuncData} (F : Fun K "turns" "turns" s_turns f fd) (T : Txt K mg Z) (G_one_turn : Cal P w K mg base 7 "one_turn" ["world"] (spTurn Z) fD fdD) : FnOk P w K mg base CX0 8 f fd ["world", "n"] (spAct Z 1 cTurns) := by
  refine F.ok sc_turns (fun vs H Q E h => ?_) (fun cdv A outer s0 H vs Q E hr h => ?_)
  · obtain ⟨H0, Hs, G, L, s, as, hl, rfl, _⟩ := h
    obtain ⟨n, rfl⟩ := len1 hl
    rfl
  · obtain ⟨H0, Hs, G, L, s, as, hl, rfl, W, g, hz, k⟩ := h
    obtain ⟨n, rfl⟩ := len1 hl
    refine ⟨_, (pss_cons (ps_if (pt_cmpR op_gt (pv 1) (pe_gi T.k_MOST_TURNS rfl) (nomark _))
      (pss_one (ps_ret (pe_lst (pa_cons (pe_gi T.k_NOT_THERE rfl) pa_nil))))
      pss_nil)
    (pss_cons (ps_for PassesOwn.never rfl (pi_range1 rfl T.range (pa_cons (pv 1) pa_nil)) (pg_name (i := 2) sc_turns.nd rfl (Or.inl rfl))
      (pss_one (ps_expr (pe_call G_one_turn.ok (hr.mono (by decide)) rfl G_one_turn.g G_one_turn.kp G_one_turn.b .nil pass0 (pa_cons (pv 0) pa_nil)))))
    (pss_one (ps_ret (pe_lst (pa_cons (pe_callB call_len_seq (by rfl) T.len PySem.boot_len (pa_cons (pe_fld (pv 0) rfl) pa_nil)) pa_nil)))))), ?_⟩
    have ek : Ha04.step s (cTurns [n]) = if 500 < n then (s, [-1]) else (Ha04.rounds n s, Ha04.ints [(Ha04.rounds n s).air.length]) := rfl
    by_cases h2 : 500 < n
    · rw [ek, if_pos h2] at k
      exact st_seq (st_yes (Ans.to (a_gtI (val_var rfl) val_c) (decide_eq_true (show (500 : Int) < (n : Int) by omega))) (give_list (xs := [-1]) W (va_cons val_c va_nil) (by decide) k))
    · rw [ek, if_neg h2] at k
      refine st_seq (st_no (Ans.to (a_gtI (val_var rfl) val_c) (decide_eq_false (show ¬ (500 : Int) < (n : Int) by omega))) ?_)
      refine st_next ?_
      dsimp only
      refine st_seq (b_forR (n := n) (val_var rfl) (by omega) (fun i sg H' => ∃ v2 L', sg = [some (.ref G.w), some (.int n), v2] ∧ Go Z H0 Hs G H' L' (rep (Ha04.rounds i s)))
        ⟨none, L, rfl, W⟩ ?_ ?_)
      · rintro i sg H' hi ⟨v2, L', rfl, W3⟩
        have g3 := Good.rounds i g
        have hz3 := sz_rounds i g
        refine b_drop (va_call (va_cons (val_var rfl) va_nil) ⟨H0, Hs, G, L', Ha04.rounds i s, rfl, W3, g3, by omega, fun H4 L4 W4 => ?_⟩)
        exact ⟨_, L4, rfl, W4.cast (by rw [rounds_more])⟩
      · rintro sg H' ⟨v2, L', rfl, W3⟩
        have e : (refs L'.airR).length = (Ha04.rounds n s).air.length := by rw [refs_len, W3.W.lenAir]
        refine give_list (σ := [some (.ref G.w), some (.int n), v2]) (xs := [((refs L'.airR).length : Int)]) W3 (va_cons (v_lenL (v_air T W3 (val_var rfl)) (SqL.of W3.air)) va_nil) (by show 1 ≤ 1000; decide) ?_
        rw [e]
        exact k
end
end AO

set_option Elab.async false
set_option maxRecDepth 100000
set_option maxHeartbeats 4000000
set_option linter.unusedVariables false
namespace AO
open PySem L2
open Ha04 (Req Sig Came)
/-! ### 22. What is told -/
/-- how many, then each -/
def flatI (ys : List (List Int)) : List Int := (ys.length : Int) :: ys.flatten
def spCount (K : PySem.W.Frag) : Sp := fun vs H Q _ => ∃ (a : Addr) (rs : List Addr) (ys : List (List Int)), vs = [.ref a] ∧ SqL K H a (refs rs) ∧ All2 (TupAt H) rs ys ∧ ys.flatten.length ≤ 6000000 ∧
  ∀ p, H p = none → Q (.ref p) (upd H p (.lst ((flatI ys).map V.int)))
theorem flat_ints {α : Type} (f : α → List Nat) : ∀ l : List α, Ha04.ints (l.flatMap f) = (l.map fun y => Ha04.ints (f y)).flatten
  | [] => rfl
  | y :: r => by
    have ih := flat_ints f r
    unfold Ha04.ints at ih ⊢
    rw [List.flatMap_cons, List.map_append, List.map_cons, List.flatten_cons, ih]
theorem flatI_is {α : Type} (f : α → List Nat) (l : List α) : Ha04.ints (l.length :: l.flatMap f) = flatI (l.map fun y => Ha04.ints (f y)) := by
  unfold flatI
  rw [← flat_ints, List.length_map]
  rfl
theorem ints_app (a b : List Nat) : Ha04.ints (a ++ b) = Ha04.ints a ++ Ha04.ints b := List.map_append
theorem flat_len {k : Nat} : ∀ {ys : List (List Int)}, (∀ y ∈ ys, y.length ≤ k) → ys.flatten.length ≤ k * ys.length
  | [], _ => Nat.zero_le _
  | y :: r, h => by
    have ih := flat_len (ys := r) fun z hz => h z (List.mem_cons_of_mem _ hz)
    have h0 := h y (List.mem_cons_self ..)
    rw [List.flatten_cons, List.length_append, List.length_cons, Nat.mul_add, Nat.mul_one]
    omega
theorem flat_take {ys : List (List Int)} {i : Nat} {y : List Int} (h : ys[i]? = some y) : (ys.take (i + 1)).flatten = (ys.take i).flatten ++ y := by
  rw [take_more h, List.flatten_append]
  simp
theorem flat_take_len : ∀ {ys : List (List Int)} {i : Nat}, (ys.take i).flatten.length ≤ ys.flatten.length
  | [], i => by simp
  | y :: r, 0 => by simp
  | y :: r, i + 1 => by
    have ih := flat_take_len (ys := r) (i := i)
    rw [List.take_succ_cons, List.flatten_cons, List.flatten_cons, List.length_append, List.length_append]
    omega
section
variable {K : PySem.W.Frag} {sg : L2.St} {H : Hp} {ta tb tk te : TE} {tr : TA} {tt : TT} {D : Ends} {Q : VK} {r : R2}
theorem b_extT {l b : Addr} {xs zs : List V} (ho : Val tk sg H (.ref l)) (hl : H l = some (.lst xs)) (hv : Val te sg H (.ref b)) (hb : SqT K H b zs) (hz : xs.length + zs.length ≤ 8000000) (k : Q .non (upd H l (.lst (xs ++ zs)))) : tBM K "list" (rExtT K) tk (tCons te tNil) sg H Q :=
  ho _ ⟨.inl ⟨rfl, _, SqL.of hl⟩, hv _ ⟨l, b, xs, zs, rfl, rfl, hl, hb, Nat.le_of_lt (small hz), k⟩⟩
theorem b_yes {A B : Hp → Prop} (h : A H) : tYes sg H (fun b H3 => if b = true then A H3 else B H3) := by
  show (if true = true then A H else B H)
  rw [if_pos rfl]
  exact h
theorem b_op (h : ta sg H fun x H1 => tb sg H1 fun y H2 => r x y H2 Q) : tOp r ta tb sg H Q := h
theorem b_ifT (h : Ans tt sg H true) (q : ta sg H Q) : tIf tt ta tb sg H Q := h _ (by rw [if_pos rfl]; exact q)
theorem b_ifF (h : Ans tt sg H false) (q : tb sg H Q) : tIf tt ta tb sg H Q := h _ (by rw [if_neg Bool.false_ne_true]; exact q)
theorem r_cat {l b : Addr} {xs zs : List V} (hl : H l = some (.lst xs)) (hb : H b = some (.lst zs)) (hz : xs.length + zs.length ≤ 8000000) (k : ∀ p, H p = none → Q (.ref p) (upd H p (.lst (xs ++ zs)))) : rCat (.ref l) (.ref b) H Q :=
  ⟨l, b, xs, zs, rfl, rfl, hl, hb, Nat.le_of_lt (small hz), k⟩
end
section
variable {P : Program} {w : World} {K : PySem.W.Frag} {mg : Str → Option Value} {base : Heap} {Z : Cs}
theorem sc_counted : FnScope ["rows", "numbers", "row"] ["rows"] (defScope s_counted) := ⟨rfl, rfl, rfl, by decide +kernel, rfl, by decide +kernel, by decide +kernel⟩
theorem ok_counted {f : Addr} {fd : FuncData} (F : Fun K "counted" "counted" s_counted f fd) (T : Txt K mg Z) : FnOk P w K mg base CX0 1 f fd ["rows"] (spCount K) := by
  refine F.ok sc_counted (fun vs H Q E h => ?_) (fun cdv A outer s0 H vs Q E hr h => ?_)
  · obtain ⟨a, rs, ys, rfl, _⟩ := h
    rfl
  · obtain ⟨a, rs, ys, rfl, hS, hall, hz, k⟩ := h
    refine ⟨_, (pss_cons (ps_set (i := 1) sc_counted.nd rfl (Or.inl rfl) (pe_lst (pa_cons (pe_callB call_len_seq (by rfl) T.len PySem.boot_len (pa_cons (pv 0) pa_nil)) pa_nil)))
    (pss_cons (ps_for PassesOwn.never rfl (pi_list (pv 0)) (pg_name (i := 2) sc_counted.nd rfl (Or.inl rfl))
      (pss_one (ps_expr (pe_bm PySem.F.plainAttrs_list PySem.F.slot_list_extend PySem.F.type_list_extend mt_extT (pv 1) (pa_cons (pv 2) pa_nil)))))
    (pss_one (ps_ret (pv 1))))), ?_⟩
    have hlen : (refs rs).length = ys.length := by rw [refs_len, hall.len]
    refine st_seq (b_set (va_lst (va_cons (v_lenL (val_var rfl) hS) va_nil) (by show 1 ≤ 1000; decide) fun q nq => ?_))
    dsimp only
    refine st_seq (b_forList (val_var rfl) ((Same.new nq).seq hS) (fun i sg H' => ∃ v2, sg = [some (.ref a), some (.ref q), v2] ∧ H' = upd H q (.lst (((ys.length : Int) :: (ys.take i).flatten).map V.int)))
      ⟨none, rfl, by rw [hlen]; rfl⟩ ?_ ?_ ?_)
    · rintro i sg H' _ ⟨_, _, rfl⟩
      exact (Same.new nq).seq hS
    · rintro i x sg H' hx ⟨v2, rfl, rfl⟩
      obtain ⟨b, hb, rfl⟩ := map_get hx
      obtain ⟨y, hy, hty⟩ := hall.get1 hb
      have hl1 := flat_take_len (ys := ys) (i := i + 1)
      have et := flat_take hy
      rw [et, List.length_append] at hl1
      refine b_drop (b_extT (val_var rfl) upd_same (val_var rfl) (SqT.of ((Same.new nq) _ _ hty)) ?_ ?_)
      · rw [List.length_map, List.length_map, List.length_cons]
        omega
      · refine ⟨_, rfl, ?_⟩
        rw [upd_upd, ← List.map_append, et]
        rfl
    · rintro sg H' ⟨v2, rfl, rfl⟩
      have k1 := k q nq
      unfold flatI at k1
      rw [hlen, List.take_length]
      exact st_ret (σ := [some (.ref a), some (.ref q), v2]) (val_var rfl) k1
theorem sc_came : FnScope ["world", "c"] ["world", "c"] (defScope s_came) := ⟨rfl, rfl, rfl, by decide +kernel, rfl, by decide +kernel, by decide +kernel⟩
theorem ok_came {f fD : Addr} {fd fdD : FuncData} (F : Fun K "came" "came" s_came f fd) (T : Txt K mg Z) (G_counted : Cal P w K mg base 1 "counted" ["rows"] (spCount K) fD fdD) : FnOk P w K mg base CX0 2 f fd ["world", "c"] (spAct Z 1 cCame) := by
  refine F.ok sc_came (fun vs H Q E h => ?_) (fun cdv A outer s0 H vs Q E hr h => ?_)
  · obtain ⟨H0, Hs, G, L, s, as, hl, rfl, _⟩ := h
    obtain ⟨c, rfl⟩ := len1 hl
    rfl
  · obtain ⟨H0, Hs, G, L, s, as, hl, rfl, W, g, hz, k⟩ := h
    obtain ⟨c, rfl⟩ := len1 hl
    refine ⟨_, (pss_cons (ps_if (pt_cmp (pc_dnotin (hu_of hr) (pv 1) (pe_fld (pv 0) rfl)))
      (pss_one (ps_ret (pe_lst (pa_cons (pe_gi T.k_NOT_THERE rfl) pa_nil))))
      pss_nil)
    (pss_one (ps_ret (pe_call G_counted.ok (hr.mono (by decide)) rfl G_counted.g G_counted.kp G_counted.b .nil pass0 (pa_cons (pe_fld (pe_dget (hu_of hr) (pe_fld (pv 0) rfl) (pv 1) (fun _ _ => rfl)) rfl) pa_nil))))), ?_⟩
    have ek : Ha04.step s (cCame [c]) = (s, if Ha04.isCaller c = false then [-1] else Ha04.ints ((Ha04.caller s c).came.length :: (Ha04.caller s c).came.flatMap fun x => [x.num, x.how, x.v])) := rfl
    rw [isC_b] at ek
    by_cases hc : isC c
    · have hC := inC_of hc
      rw [ek, if_neg (by rw [decide_eq_true hc]; exact Bool.noConfusion), flatI_is] at k
      refine st_seq (st_no (Ans.to (a_notInCallers T W (val_var rfl) (val_var rfl)) (by rw [decide_eq_true hC]; rfl)) ?_)
      have hall : All2 (TupAt H) (L.cameR c) ((Ha04.caller s c).came.map repA) := by
        have h1 := W.W.held.came c hC
        rw [rep_caller s hc] at h1
        exact h1
      have hsz := sz_came (s := s) hc
      refine st_next ?_
      dsimp only
      refine b_ret (b_call1 (v_came T W hC (v_caller T W (val_var rfl) hC (val_var rfl)) _ ⟨_, _, _, rfl, SqL.of (W.came hC), hall, ?_, fun p np => ?_⟩))
      · have h3 := flat_len (k := 3) (ys := (Ha04.caller s c).came.map repA) (fun y hy => by
          obtain ⟨z, _, rfl⟩ := List.mem_map.mp hy
          exact Nat.le_refl 3)
        rw [List.length_map] at h3
        omega
      · exact k _ L p (W.new np) (W.W.same.free np) upd_same
    · rw [ek, if_pos (decide_eq_false hc)] at k
      exact st_seq (st_yes (Ans.to (a_notInCallers T W (val_var rfl) (val_var rfl)) (by rw [inC_dec, decide_eq_false hc]; rfl)) (give_list (xs := [-1]) W (va_cons val_c va_nil) (by decide) k))
theorem sc_waits : FnScope ["world", "c", "wait", "end"] ["world", "c"] (defScope s_waits) := ⟨rfl, rfl, rfl, by decide +kernel, rfl, by decide +kernel, by decide +kernel⟩
theorem ok_waits {f : Addr} {fd : FuncData} (F : Fun K "waits" "waits" s_waits f fd) (T : Txt K mg Z) : FnOk P w K mg base CX0 1 f fd ["world", "c"] (spAct Z 1 cWaits) := by
  refine F.ok sc_waits (fun vs H Q E h => ?_) (fun cdv A outer s0 H vs Q E hr h => ?_)
  · obtain ⟨H0, Hs, G, L, s, as, hl, rfl, _⟩ := h
    obtain ⟨c, rfl⟩ := len1 hl
    rfl
  · obtain ⟨H0, Hs, G, L, s, as, hl, rfl, W, g, hz, k⟩ := h
    obtain ⟨c, rfl⟩ := len1 hl
    refine ⟨_, (pss_cons (ps_if (pt_cmp (pc_dnotin (hu_of hr) (pv 1) (pe_fld (pv 0) rfl)))
      (pss_one (ps_ret (pe_lst (pa_cons (pe_gi T.k_NOT_THERE rfl) pa_nil))))
      pss_nil)
    (pss_cons (ps_set (i := 2) sc_waits.nd rfl (Or.inl rfl) (pe_fld (pe_dget (hu_of hr) (pe_fld (pv 0) rfl) (pv 1) (fun _ _ => rfl)) rfl))
    (pss_cons (ps_if (pt_cmpR op_isN (pv 2) pe_non (nomark _))
      (pss_one (ps_ret (pe_lst (pa_cons pe_int pa_nil))))
      pss_nil)
    (pss_cons (ps_set (i := 3) sc_waits.nd rfl (Or.inl rfl) (pe_ifExp (pt_cmpR op_eq (pe_fld (pv 2) rfl) pe_int (nomark _)) (pe_lst (pa_cons pe_int (pa_cons (pe_fld (pv 2) rfl) pa_nil))) (pe_lst (pa_cons pe_int pa_nil))))
    (pss_one (ps_ret (pe_op op_cat (pe_lst (pa_cons pe_int (pa_cons (pe_fld (pv 2) rfl) (pa_cons (pe_fld (pv 2) rfl) pa_nil)))) (pv 3)))))))), ?_⟩
    have ek : Ha04.step s (cWaits [c]) = (s, if Ha04.isCaller c = false then [-1] else match (Ha04.caller s c).waits with
      | none => [0]
      | some w => Ha04.ints ([1, w.1, w.2.1] ++ match w.2.2 with
        | some t => [1, t]
        | none => [0])) := rfl
    rw [isC_b] at ek
    by_cases hc : isC c
    · have hC := inC_of hc
      rw [ek, if_neg (by rw [decide_eq_true hc]; exact Bool.noConfusion)] at k
      refine st_seq (st_no (Ans.to (a_notInCallers T W (val_var rfl) (val_var rfl)) (by rw [decide_eq_true hC]; rfl)) ?_)
      have hW := W.W.wait hc
      cases ew : (Ha04.caller s c).waits with
      | none =>
        rw [ew] at hW k
        refine st_seq (st_set (v_waitingIs T W hC hW (v_caller T W (val_var rfl) hC (val_var rfl))) ?_)
        exact st_seq (st_yes (ans_isN (val_var rfl) rfl) (give_list (xs := [0]) W (va_cons val_c va_nil) (by decide) k))
      | some y =>
        obtain ⟨n, p, o⟩ := y
        rw [ew] at hW k
        cases o with
        | none =>
          obtain ⟨aw, dw, eW, hA⟩ := hW
          refine st_seq (st_set (v_waitingIs T W hC eW (v_caller T W (val_var rfl) hC (val_var rfl))) ?_)
          refine st_seq (st_no (ans_isN (val_var rfl) rfl) ?_)
          refine st_next ?_
          dsimp only
          refine st_seq (b_set (b_ifF (Ans.to (a_eqI (v_ends T hA (val_var rfl)) val_c) rfl) (va_lst (va_cons val_c va_nil) (by show 1 ≤ 1000; decide) fun q1 n1 => ?_)))
          have hA1 := Same.new (o := .lst [.int 0]) n1 _ _ hA
          dsimp only
          refine b_ret (b_op (va_lst (va_cons val_c (va_cons (v_number T hA1 (val_var rfl)) (va_cons (v_wserver T hA1 (val_var rfl)) va_nil))) (by show 3 ≤ 1000; decide) fun q2 n2 => ?_))
          refine b_val (val_var rfl) (r_cat upd_same (Same.new n2 _ _ upd_same) (by show 3 + 1 ≤ _; decide) fun q3 n3 => ?_)
          exact k _ L q3 (((W.new n1).new n2).new n3) (((W.new n1).new n2).W.same.free n3) upd_same
        | some t =>
          obtain ⟨aw, dw, eW, hA⟩ := hW
          refine st_seq (st_set (v_waitingIs T W hC eW (v_caller T W (val_var rfl) hC (val_var rfl))) ?_)
          refine st_seq (st_no (ans_isN (val_var rfl) rfl) ?_)
          refine st_next ?_
          dsimp only
          refine st_seq (b_set (b_ifT (Ans.to (a_eqI (v_ends T hA (val_var rfl)) val_c) rfl) (va_lst (va_cons val_c (va_cons (v_over T hA (val_var rfl)) va_nil)) (by show 2 ≤ 1000; decide) fun q1 n1 => ?_)))
          have hA1 := Same.new (o := .lst [.int 1, .int (t : Int)]) n1 _ _ hA
          dsimp only
          refine b_ret (b_op (va_lst (va_cons val_c (va_cons (v_number T hA1 (val_var rfl)) (va_cons (v_wserver T hA1 (val_var rfl)) va_nil))) (by show 3 ≤ 1000; decide) fun q2 n2 => ?_))
          refine b_val (val_var rfl) (r_cat upd_same (Same.new n2 _ _ upd_same) (by show 3 + 2 ≤ _; decide) fun q3 n3 => ?_)
          exact k _ L q3 (((W.new n1).new n2).new n3) (((W.new n1).new n2).W.same.free n3) upd_same
    · rw [ek, if_pos (decide_eq_false hc)] at k
      exact st_seq (st_yes (Ans.to (a_notInCallers T W (val_var rfl) (val_var rfl)) (by rw [inC_dec, decide_eq_false hc]; rfl)) (give_list (xs := [-1]) W (va_cons val_c va_nil) (by decide) k))
theorem sc_server : FnScope ["world", "p", "shown", "alive"] ["world", "p"] (defScope s_server) := ⟨rfl, rfl, rfl, by decide +kernel, rfl, by decide +kernel, by decide +kernel⟩
theorem ok_server {f fD : Addr} {fd fdD : FuncData} (F : Fun K "server" "server" s_server f fd) (T : Txt K mg Z) (G_counted : Cal P w K mg base 1 "counted" ["rows"] (spCount K) fD fdD) : FnOk P w K mg base CX0 2 f fd ["world", "p"] (spAct Z 1 cServer) := by
  refine F.ok sc_server (fun vs H Q E h => ?_) (fun cdv A outer s0 H vs Q E hr h => ?_)
  · obtain ⟨H0, Hs, G, L, s, as, hl, rfl, _⟩ := h
    obtain ⟨p, rfl⟩ := len1 hl
    rfl
  · obtain ⟨H0, Hs, G, L, s, as, hl, rfl, W, g, hz, k⟩ := h
    obtain ⟨p, rfl⟩ := len1 hl
    refine ⟨_, (pss_cons (ps_if (pt_cmp (pc_dnotin (hu_of hr) (pv 1) (pe_fld (pv 0) rfl)))
      (pss_one (ps_ret (pe_lst (pa_cons (pe_gi T.k_NOT_THERE rfl) pa_nil))))
      pss_nil)
    (pss_cons (ps_set (i := 2) sc_server.nd rfl (Or.inl rfl) (pe_dget (hu_of hr) (pe_fld (pv 0) rfl) (pv 1) (fun _ _ => rfl)))
    (pss_cons (ps_set (i := 3) sc_server.nd rfl (Or.inl rfl) (pe_ifExp (pt_val (pe_fld (pv 2) rfl)) pe_int pe_int))
    (pss_one (ps_ret (pe_op op_cat (pe_op op_cat (pe_op op_cat (pe_lst (pa_cons (pv 3) (pa_cons (pe_fld (pv 2) rfl) (pa_cons (pe_fld (pv 2) rfl) pa_nil)))) (pe_call G_counted.ok (hr.mono (by decide)) rfl G_counted.g G_counted.kp G_counted.b .nil pass0 (pa_cons (pe_fld (pv 2) rfl) pa_nil))) (pe_call G_counted.ok (hr.mono (by decide)) rfl G_counted.g G_counted.kp G_counted.b .nil pass0 (pa_cons (pe_fld (pv 2) rfl) pa_nil))) (pe_call G_counted.ok (hr.mono (by decide)) rfl G_counted.g G_counted.kp G_counted.b .nil pass0 (pa_cons (pe_fld (pv 2) rfl) pa_nil)))))))), ?_⟩
    have ek : Ha04.step s (cServer [p]) = (s, if Ha04.isServer p = false then [-1] else
      Ha04.ints ([Ha04.flag (Ha04.server s p).lives, (Ha04.server s p).life, (Ha04.server s p).sum, (Ha04.server s p).asked.length] ++ (Ha04.server s p).asked.flatMap Ha04.reqTold ++ [(Ha04.server s p).later.length] ++ ((Ha04.server s p).later.flatMap fun y => [y.1, y.2.1, y.2.2]) ++ [(Ha04.server s p).watched.length] ++ (Ha04.server s p).watched.flatMap fun y => [y.1, y.2])) := rfl
    rw [isS_b] at ek
    by_cases hp : isS p
    · have hS := inS_of hp
      rw [ek, if_neg (by rw [decide_eq_true hp]; exact Bool.noConfusion)] at k
      refine st_seq (st_no (Ans.to (a_notInServers T W (val_var rfl) (val_var rfl)) (by rw [decide_eq_true hS]; rfl)) ?_)
      refine st_next ?_
      dsimp only
      refine st_seq (st_set (v_server T W (val_var rfl) hS (val_var rfl)) ?_)
      obtain ⟨x, ex⟩ : ∃ x, x = Ha04.server s p := ⟨_, rfl⟩
      have em : (rep s).servers (p : Int) = repS x := by rw [ex]; exact rep_server s hp
      have h1 : All2 (TupAt H) (L.askR p) (x.asked.map repR) := by
        have h := W.W.held.ask p hS
        rw [em] at h
        exact h
      have h2 : All2 (TupAt H) (L.latR p) (x.later.map repT) := by
        have h := W.W.held.lat p hS
        rw [em] at h
        exact h
      have h3 : All2 (TupAt H) (L.watR p) (x.watched.map repP) := by
        have h := W.W.held.wat p hS
        rw [em] at h
        exact h
      have z1 := sz_ask (s := s) hp
      have z2 := sz_lat (s := s) hp
      have z3 := sz_wat (s := s) hp
      rw [← ex] at k z1 z2 z3
      have f1 := flat_len (k := 5) (ys := x.asked.map repR) (fun y hy => by
          obtain ⟨z, _, rfl⟩ := List.mem_map.mp hy
          exact Nat.le_refl 5)
      have f2 := flat_len (k := 3) (ys := x.later.map repT) (fun y hy => by
          obtain ⟨z, _, rfl⟩ := List.mem_map.mp hy
          exact Nat.le_refl 3)
      have f3 := flat_len (k := 2) (ys := x.watched.map repP) (fun y hy => by
          obtain ⟨z, _, rfl⟩ := List.mem_map.mp hy
          exact Nat.le_refl 2)
      rw [List.length_map] at f1 f2 f3
      have hal : Val (tIf (tB (tFld K (tVar 2) "alive")) (tC (.int 1)) (tC (.int 0))) [some (.ref G.w), some (.int p), some (.ref (G.srv p)), none] H (.int (Ha04.flag x.lives : Nat)) := by
        have t1 := ans_val (v_alive T W hS (te := tVar 2) (σ := [some (.ref G.w), some (.int p), some (.ref (G.srv p)), none]) (val_var rfl))
        rw [em] at t1
        refine v_if t1 (fun e => ?_) (fun e => ?_)
        · have e : x.lives = true := e
          rw [e]
          exact val_c
        · have e : x.lives = false := e
          rw [e]
          exact val_c
      dsimp only
      refine st_seq (st_set hal ?_)
      dsimp only
      refine b_ret (b_op (b_op (b_op ?_)))
      refine va_lst (va_cons (val_var rfl) (va_cons (v_lives T W hS (val_var rfl)) (va_cons (v_total T W hS (val_var rfl)) va_nil))) (by show 3 ≤ 1000; decide) fun q1 n1 => ?_
      have W1 := W.new (o := .lst [.int (Ha04.flag x.lives : Nat), .int ((rep s).servers p).lives, .int ((rep s).servers p).total]) n1
      have u1 := Same.new (H := H) (o := .lst [.int (Ha04.flag x.lives : Nat), .int ((rep s).servers p).lives, .int ((rep s).servers p).total]) n1
      refine b_call1 (v_asked T W1 hS (val_var rfl) _ ⟨_, _, _, rfl, SqL.of (W1.ask hS), h1.mono fun _ _ q => u1 _ _ q, by omega, fun p2 n2 => ?_⟩)
      have W2 := W1.new (o := .lst ((flatI (x.asked.map repR)).map V.int)) n2
      have u2 := u1.trans (Same.new (o := .lst ((flatI (x.asked.map repR)).map V.int)) n2)
      have c1 : (flatI (x.asked.map repR)).length ≤ 2000001 := by
        unfold flatI
        rw [List.length_cons]
        omega
      have c2 : (flatI (x.later.map repT)).length ≤ 1200001 := by
        unfold flatI
        rw [List.length_cons]
        omega
      have c3 : (flatI (x.watched.map repP)).length ≤ 800001 := by
        unfold flatI
        rw [List.length_cons]
        omega
      refine r_cat (Same.new n2 _ _ upd_same) upd_same (by rw [List.length_map]; show 3 + _ ≤ _; omega) fun q3 n3 => ?_
      have W3 := W2.new (o := .lst ([.int (Ha04.flag x.lives : Nat), .int ((rep s).servers p).lives, .int ((rep s).servers p).total] ++ (flatI (x.asked.map repR)).map V.int)) n3
      have u3 := u2.trans (Same.new (o := .lst ([.int (Ha04.flag x.lives : Nat), .int ((rep s).servers p).lives, .int ((rep s).servers p).total] ++ (flatI (x.asked.map repR)).map V.int)) n3)
      refine b_call1 (v_later T W3 hS (val_var rfl) _ ⟨_, _, _, rfl, SqL.of (W3.lat hS), h2.mono fun _ _ q => u3 _ _ q, by omega, fun p4 n4 => ?_⟩)
      have W4 := W3.new (o := .lst ((flatI (x.later.map repT)).map V.int)) n4
      have u4 := u3.trans (Same.new (o := .lst ((flatI (x.later.map repT)).map V.int)) n4)
      refine r_cat (Same.new n4 _ _ upd_same) upd_same (by rw [List.length_append, List.length_map, List.length_map]; show 3 + _ + _ ≤ _; omega) fun q5 n5 => ?_
      have W5 := W4.new (o := .lst ([.int (Ha04.flag x.lives : Nat), .int ((rep s).servers p).lives, .int ((rep s).servers p).total] ++ (flatI (x.asked.map repR)).map V.int ++ (flatI (x.later.map repT)).map V.int)) n5
      have u5 := u4.trans (Same.new (o := .lst ([.int (Ha04.flag x.lives : Nat), .int ((rep s).servers p).lives, .int ((rep s).servers p).total] ++ (flatI (x.asked.map repR)).map V.int ++ (flatI (x.later.map repT)).map V.int)) n5)
      refine b_call1 (v_watchers T W5 hS (val_var rfl) _ ⟨_, _, _, rfl, SqL.of (W5.wat hS), h3.mono fun _ _ q => u5 _ _ q, by omega, fun p6 n6 => ?_⟩)
      have W6 := W5.new (o := .lst ((flatI (x.watched.map repP)).map V.int)) n6
      refine r_cat (Same.new n6 _ _ upd_same) upd_same (by rw [List.length_append, List.length_append, List.length_map, List.length_map, List.length_map]; show 3 + _ + _ + _ ≤ _; omega) fun q7 n7 => ?_
      refine k _ L q7 (W6.new n7) (W6.W.same.free n7) ?_
      rw [upd_same, em]
      refine congrArg (fun z => some (HO.lst z)) ?_
      have e1 : flatI (x.asked.map repR) = Ha04.ints (x.asked.length :: x.asked.flatMap Ha04.reqTold) := (flatI_is _ _).symm
      have e2 : flatI (x.later.map repT) = Ha04.ints (x.later.length :: x.later.flatMap fun y => [y.1, y.2.1, y.2.2]) := (flatI_is (fun y : Nat × Nat × Nat => [y.1, y.2.1, y.2.2]) _).symm
      have e3 : flatI (x.watched.map repP) = Ha04.ints (x.watched.length :: x.watched.flatMap fun y => [y.1, y.2]) := (flatI_is (fun y : Nat × Nat => [y.1, y.2]) _).symm
      rw [e1, e2, e3]
      have e4 : ([.int (Ha04.flag x.lives : Nat), .int (repS x).lives, .int (repS x).total] : List V) = (Ha04.ints [Ha04.flag x.lives, x.life, x.sum]).map V.int := rfl
      rw [e4, ← List.map_append, ← List.map_append, ← List.map_append, ← ints_app, ← ints_app, ← ints_app]
      refine congrArg (fun z => (Ha04.ints z).map V.int) ?_
      simp
    · rw [ek, if_pos (decide_eq_false hp)] at k
      exact st_seq (st_yes (Ans.to (a_notInServers T W (val_var rfl) (val_var rfl)) (by rw [inS_dec, decide_eq_false hp]; rfl)) (give_list (xs := [-1]) W (va_cons val_c va_nil) (by decide) k))
/-- a letter as it is told -/
def lineOf (y : Nat × Nat × Sig) : List Int := Ha04.ints ([y.1, y.2.1] ++ Ha04.sigTold y.2.2)
theorem sig_len (x : Sig) : (Ha04.sigTold x).length ≤ 6 := by
  cases x with
  | ask r => exact Nat.le_refl 6
  | watch n => exact Nat.le_trans (show 2 ≤ 6 by decide) (Nat.le_refl _)
  | unwatch n => exact Nat.le_trans (show 2 ≤ 6 by decide) (Nat.le_refl _)
  | answer n v => exact Nat.le_trans (show 3 ≤ 6 by decide) (Nat.le_refl _)
  | gone n => exact Nat.le_trans (show 2 ≤ 6 by decide) (Nat.le_refl _)
theorem sig_ne (x : Sig) : Ha04.sigTold x ≠ [] := by
  cases x <;> exact fun e => by cases e
theorem sc_air : FnScope ["world", "letter"] ["world"] (defScope s_air) := ⟨rfl, rfl, rfl, by decide +kernel, rfl, by decide +kernel, by decide +kernel⟩
theorem ok_air {f fD : Addr} {fd fdD : FuncData} (F : Fun K "air" "air" s_air f fd) (T : Txt K mg Z) (G_counted : Cal P w K mg base 1 "counted" ["rows"] (spCount K) fD fdD) : FnOk P w K mg base CX0 2 f fd ["world"] (spAct Z 0 cAir) := by
  refine F.ok sc_air (fun vs H Q E h => ?_) (fun cdv A outer s0 H vs Q E hr h => ?_)
  · obtain ⟨H0, Hs, G, L, s, as, hl, rfl, _⟩ := h
    have e : as = [] := List.eq_nil_of_length_eq_zero hl
    subst e
    rfl
  · obtain ⟨H0, Hs, G, L, s, as, hl, rfl, W, g, hz, k⟩ := h
    have e : as = [] := List.eq_nil_of_length_eq_zero hl
    subst e
    refine ⟨_, (pss_one (ps_ret (pe_call G_counted.ok (hr.mono (by decide)) rfl G_counted.g G_counted.kp G_counted.b .nil pass0 (pa_cons (pe_lc (own := [("letter", 1)]) (g := gName 1) (te := tOp (rCatT K) (tTup (tCons (tFld K (tVar 1) "sender") (tCons (tFld K (tVar 1) "receiver") tNil))) (tFld K (tVar 1) "told")) rfl sc_air.nd (pi_list (pe_fld (pv 0) rfl)) (blkOk_by (own := [("letter", 1)]) (N := ["world", "letter"]) (sc := defScope s_air) (by decide +kernel)) (fun _ _ _ _ _ => pg_name (i := 1) sc_air.nd rfl (Or.inl rfl)) (fun _ _ _ _ _ => pts_nil) (fun _ _ _ _ _ => (pe_op op_catT (pe_tup (pa_cons (pe_fld (pv 1) rfl) (pa_cons (pe_fld (pv 1) rfl) pa_nil))) (pe_fld (pv 1) rfl)))) pa_nil)))), ?_⟩
    have ek : Ha04.step s (cAir []) = (s, Ha04.ints (s.air.length :: s.air.flatMap fun y => [y.1, y.2.1] ++ Ha04.sigTold y.2.2)) := rfl
    rw [ek, flatI_is] at k
    have k : Gives Z H0 Hs G (s, flatI (s.air.map lineOf)) Q := k
    have hal := sz_air (s := s)
    refine b_ret (b_call1 (b_lc (v_air T W (val_var rfl)) (SqL.of W.air) (fun A i H' => Same H H' ∧ ∃ rs, H' A = some (.lst (refs rs)) ∧ All2 (TupAt H') rs ((s.air.take i).map lineOf)) (fun A nA => ⟨Same.new nA, [], upd_same, trivial⟩) (fun A i H' _ e => SqL.of (e.1 _ _ W.air)) ?_ ?_))
    · rintro A nA i x H' hx ⟨s1, rs, hA, hall⟩
      obtain ⟨a, y, rfl, ha, hy, dx, t1, hl, ht⟩ := W.W.letter hx
      refine ⟨rfl, ?_⟩
      refine b_yes (A := fun H3 => tOp (rCatT K) (tTup (tCons (tFld K (tVar 1) "sender") (tCons (tFld K (tVar 1) "receiver") tNil))) (tFld K (tVar 1) "told") _ H3 _) ?_
      have hl1 := s1 _ _ hl
      have ht1 : TupAt H' t1 (Ha04.ints (Ha04.sigTold y.2.2)) := s1 _ _ ht
      refine b_op (va_tup (va_cons (v_sender T hl1 (val_var rfl)) (va_cons (v_receiver T hl1 (val_var rfl)) va_nil)) (by show 2 ≤ 1000; decide) fun t2 n2 => ?_)
      have s2 := Same.new (H := H') (o := .tup [.int y.1, .int y.2.1]) n2
      refine b_val (v_told T (s2 _ _ hl1) (val_var rfl)) ⟨t2, t1, _, _, rfl, rfl, SqT.of upd_same, SqT.of (s2 _ _ ht1), (fun e => by cases e), ?_, fun e => ?_, fun _ t3 n3 => ?_⟩
      · have h6 := sig_len y.2.2
        rw [List.length_map]
        unfold Ha04.ints
        rw [List.length_map]
        exact Nat.le_trans (show 2 + (Ha04.sigTold y.2.2).length ≤ 8 by omega) (by decide)
      · have e := congrArg List.length e
        unfold Ha04.ints at e
        rw [List.length_map, List.length_map] at e
        exact absurd (List.eq_nil_of_length_eq_zero e) (sig_ne _)
      · have s3 := s2.trans (Same.new (o := .tup ([.int y.1, .int y.2.1] ++ (Ha04.ints (Ha04.sigTold y.2.2)).map V.int)) n3)
        refine ⟨_, s3 _ _ hA, ?_, ?_, rs ++ [t3], ?_, ?_⟩
        · have hlen := hall.len
          rw [List.length_map, List.length_take] at hlen
          rw [refs_len]
          refine small ?_
          omega
        · exact fun b o e => by
            rw [upd_ne (ne_of_none e nA)]
            exact s3 _ _ (s1 _ _ e)
        · rw [upd_same, refs_snoc]
        · have keep : ∀ (b : Addr) (z : List Int), TupAt (upd (upd H' t2 (.tup [.int y.1, .int y.2.1])) t3 (.tup ([.int y.1, .int y.2.1] ++ (Ha04.ints (Ha04.sigTold y.2.2)).map V.int))) b z → TupAt (upd (upd (upd H' t2 (.tup [.int y.1, .int y.2.1])) t3 (.tup ([.int y.1, .int y.2.1] ++ (Ha04.ints (Ha04.sigTold y.2.2)).map V.int))) A (.lst (refs rs ++ [.ref t3]))) b z := fun b z hb => by
            have n : b ≠ A := fun e => by
              unfold TupAt at hb
              rw [e, s3 _ _ hA] at hb
              cases hb
            unfold TupAt
            rw [upd_ne n]
            exact hb
          rw [take_more hy, List.map_append]
          refine All2.snoc (keep _ _ ?_) (hall.mono fun b z hb => keep b z (s3 _ _ hb))
          show upd _ t3 _ t3 = some (HO.tup ((lineOf y).map V.int))
          rw [upd_same]
          rfl
    · rintro A nA H' ⟨s1, rs, hA, hall⟩
      rw [refs_len, W.W.lenAir, List.take_length] at hall
      refine ⟨A, rs, _, rfl, SqL.of hA, hall, ?_, fun p np => ?_⟩
      · have h8 := flat_len (k := 8) (ys := s.air.map lineOf) (fun y hy => by
          obtain ⟨z, _, rfl⟩ := List.mem_map.mp hy
          have h6 := sig_len z.2.2
          unfold lineOf Ha04.ints
          rw [List.length_map, List.length_append]
          show 2 + _ ≤ 8
          omega)
        rw [List.length_map] at h8
        omega
      · exact k _ L p ((W.mono s1).new np) ((W.mono s1).W.same.free np) upd_same
end
end AO

set_option Elab.async false
set_option maxRecDepth 100000
set_option maxHeartbeats 4000000
set_option linter.unusedVariables false
namespace AO
open PySem L2
open Ha04 (Req Sig Came)
/-! ### 23. Call by call -/
def spLook (Z : Cs) (K : PySem.W.Frag) : Sp := fun vs H Q _ => ∃ (H0 Hs : Hp) (G L : Lay) (s : Ha04.St) (c : Nat) (as : List Nat) (a : Addr) (x : Ha04.Call), vs = [.ref G.w, .int c, .ref a] ∧ 10 ≤ c ∧ Ha04Neutral.callIn [c :: as] = some x ∧ SqL K H a (as.map fun (n : Nat) => V.int n) ∧
  Go Z H0 Hs G H L (rep s) ∧ Good s ∧ sz s ≤ 400000 ∧ Gives Z H0 Hs G (Ha04.step s x) Q
theorem given_ok : ∀ p n : Nat, PyHa04.shape (p : Int) = some (n, 0) → givens[p]? = some (n : Int) := by
  intro p n h
  have hp := shape_given h
  have e : p = 0 ∨ p = 1 ∨ p = 2 ∨ p = 3 ∨ p = 4 ∨ p = 5 ∨ p = 6 ∨ p = 7 ∨ p = 8 ∨ p = 9 ∨ p = 10 ∨ p = 11 ∨ p = 12 ∨ p = 13 := by omega
  rcases e with rfl | rfl | rfl | rfl | rfl | rfl | rfl | rfl | rfl | rfl | rfl | rfl | rfl | rfl
  all_goals
    cases h
    rfl
section
variable {P : Program} {w : World} {K : PySem.W.Frag} {mg : Str → Option Value} {base : Heap} {Z : Cs}
theorem sc_look_at : FnScope ["world", "call", "given"] ["world", "call", "given"] (defScope s_look_at) := ⟨rfl, rfl, rfl, by decide +kernel, rfl, by decide +kernel, by decide +kernel⟩
theorem ok_look_at {f ff0 ff1 ff2 ff3 : Addr} {fd dd0 dd1 dd2 dd3 : FuncData} (F : Fun K "look_at" "look_at" s_look_at f fd) (T : Txt K mg Z)
    (G_came : Cal P w K mg base 2 "came" ["world", "c"] (spAct Z 1 cCame) ff0 dd0)
    (G_waits : Cal P w K mg base 1 "waits" ["world", "c"] (spAct Z 1 cWaits) ff1 dd1)
    (G_server : Cal P w K mg base 2 "server" ["world", "p"] (spAct Z 1 cServer) ff2 dd2)
    (G_air : Cal P w K mg base 2 "air" ["world"] (spAct Z 0 cAir) ff3 dd3)
    : FnOk P w K mg base CX0 3 f fd ["world", "call", "given"] (spLook Z K) := by
  refine F.ok sc_look_at (fun vs H Q E h => ?_) (fun cdv A outer s0 H vs Q E hr h => ?_)
  · obtain ⟨H0, Hs, G, L, s, c, as, a, x, rfl, _⟩ := h
    rfl
  · obtain ⟨H0, Hs, G, L, s, c, as, a, x, rfl, hten, hx, hl, W, g, hz, k⟩ := h
    refine ⟨_, (pss_cons (ps_if (pt_cmpR op_eq (pv 1) (pe_gi T.k_CALL_CAME rfl) (nomark _))
      (pss_one (ps_ret (pe_call G_came.ok (hr.mono (by decide)) rfl G_came.g G_came.kp G_came.b .nil pass0 (pa_cons (pv 0) (pa_cons (pe_ix ix_list (pv 2) pe_int (fun _ _ => rfl)) pa_nil)))))
      pss_nil)
    (pss_cons (ps_if (pt_cmpR op_eq (pv 1) (pe_gi T.k_CALL_WAITS rfl) (nomark _))
      (pss_one (ps_ret (pe_call G_waits.ok (hr.mono (by decide)) rfl G_waits.g G_waits.kp G_waits.b .nil pass0 (pa_cons (pv 0) (pa_cons (pe_ix ix_list (pv 2) pe_int (fun _ _ => rfl)) pa_nil)))))
      pss_nil)
    (pss_cons (ps_if (pt_cmpR op_eq (pv 1) (pe_gi T.k_CALL_SERVER rfl) (nomark _))
      (pss_one (ps_ret (pe_call G_server.ok (hr.mono (by decide)) rfl G_server.g G_server.kp G_server.b .nil pass0 (pa_cons (pv 0) (pa_cons (pe_ix ix_list (pv 2) pe_int (fun _ _ => rfl)) pa_nil)))))
      pss_nil)
    (pss_one (ps_ret (pe_call G_air.ok (hr.mono (by decide)) rfl G_air.g G_air.kp G_air.b .nil pass0 (pa_cons (pv 0) pa_nil))))))), ?_⟩
    rcases callIn_cases hx with ⟨rfl, hn, rfl⟩ | ⟨rfl, hn, rfl⟩ | ⟨rfl, hn, rfl⟩ | ⟨rfl, hn, rfl⟩ | ⟨rfl, hn, rfl⟩ | ⟨rfl, hn, rfl⟩ | ⟨rfl, hn, rfl⟩ | ⟨rfl, hn, rfl⟩ | ⟨rfl, hn, rfl⟩ | ⟨rfl, hn, rfl⟩ | ⟨rfl, hn, rfl⟩ | ⟨rfl, hn, rfl⟩ | ⟨rfl, hn, rfl⟩ | ⟨rfl, hn, rfl⟩
    · exact absurd hten (by decide)
    · exact absurd hten (by decide)
    · exact absurd hten (by decide)
    · exact absurd hten (by decide)
    · exact absurd hten (by decide)
    · exact absurd hten (by decide)
    · exact absurd hten (by decide)
    · exact absurd hten (by decide)
    · exact absurd hten (by decide)
    · exact absurd hten (by decide)
    · obtain ⟨b0, rfl⟩ := len1 hn
      exact st_seq (st_yes (Ans.to (a_eqI (val_var rfl) val_c) rfl) (b_ret (va_call (va_cons (val_var rfl) (va_cons (v_ixL (j := 0) (val_var rfl) hl val_c rfl) va_nil)) ⟨H0, Hs, G, L, s, [b0], rfl, rfl, W, g, hz, k⟩)))
    · obtain ⟨b0, rfl⟩ := len1 hn
      refine st_seq (st_no (Ans.to (a_eqI (val_var rfl) val_c) rfl) ?_)
      refine st_next ?_
      dsimp only
      exact st_seq (st_yes (Ans.to (a_eqI (val_var rfl) val_c) rfl) (b_ret (va_call (va_cons (val_var rfl) (va_cons (v_ixL (j := 0) (val_var rfl) hl val_c rfl) va_nil)) ⟨H0, Hs, G, L, s, [b0], rfl, rfl, W, g, hz, k⟩)))
    · obtain ⟨b0, rfl⟩ := len1 hn
      refine st_seq (st_no (Ans.to (a_eqI (val_var rfl) val_c) rfl) ?_)
      refine st_next ?_
      dsimp only
      refine st_seq (st_no (Ans.to (a_eqI (val_var rfl) val_c) rfl) ?_)
      refine st_next ?_
      dsimp only
      exact st_seq (st_yes (Ans.to (a_eqI (val_var rfl) val_c) rfl) (b_ret (va_call (va_cons (val_var rfl) (va_cons (v_ixL (j := 0) (val_var rfl) hl val_c rfl) va_nil)) ⟨H0, Hs, G, L, s, [b0], rfl, rfl, W, g, hz, k⟩)))
    · have ez := List.eq_nil_of_length_eq_zero hn
      subst ez
      refine st_seq (st_no (Ans.to (a_eqI (val_var rfl) val_c) rfl) ?_)
      refine st_next ?_
      dsimp only
      refine st_seq (st_no (Ans.to (a_eqI (val_var rfl) val_c) rfl) ?_)
      refine st_next ?_
      dsimp only
      refine st_seq (st_no (Ans.to (a_eqI (val_var rfl) val_c) rfl) ?_)
      refine st_next ?_
      dsimp only
      exact b_ret (va_call (va_cons (val_var rfl) va_nil) ⟨H0, Hs, G, L, s, [], rfl, rfl, W, g, hz, k⟩)
theorem sc_answer_to : FnScope ["world", "call", "given"] ["world", "call", "given"] (defScope s_answer_to) := ⟨rfl, rfl, rfl, by decide +kernel, rfl, by decide +kernel, by decide +kernel⟩
theorem ok_answer_to {f ff0 ff1 ff2 ff3 ff4 ff5 ff6 ff7 ff8 ff9 ff10 : Addr} {fd dd0 dd1 dd2 dd3 dd4 dd5 dd6 dd7 dd8 dd9 dd10 : FuncData} (F : Fun K "answer_to" "answer_to" s_answer_to f fd) (T : Txt K mg Z)
    (G_ask : Cal P w K mg base 5 "ask" ["world", "c", "p", "what", "much", "other", "ends", "ticks"] (spAct Z 7 cAsk) ff0 dd0)
    (G_tell : Cal P w K mg base 4 "tell" ["world", "c", "p", "much"] (spAct Z 3 cTell) ff1 dd1)
    (G_stop : Cal P w K mg base 5 "stop" ["world", "c"] (spAct Z 1 cStop) ff2 dd2)
    (G_deliver : Cal P w K mg base 7 "deliver" ["world", "p", "q"] (spAct Z 2 cDeliver) ff3 dd3)
    (G_work : Cal P w K mg base 7 "work" ["world", "p"] (spAct Z 1 cWork) ff4 dd4)
    (G_answer : Cal P w K mg base 4 "answer" ["world", "p", "k"] (spAct Z 2 cAnswer) ff5 dd5)
    (G_die : Cal P w K mg base 5 "die" ["world", "p"] (spAct Z 1 cDie) ff6 dd6)
    (G_start : Cal P w K mg base 2 "start" ["world", "p"] (spAct Z 1 cStart) ff7 dd7)
    (G_ticks : Cal P w K mg base 6 "ticks" ["world", "n"] (spAct Z 1 cTicks) ff8 dd8)
    (G_turns : Cal P w K mg base 8 "turns" ["world", "n"] (spAct Z 1 cTurns) ff9 dd9)
    (G_look_at : Cal P w K mg base 3 "look_at" ["world", "call", "given"] (spLook Z K) ff10 dd10)
    : FnOk P w K mg base CX0 9 f fd ["world", "call", "given"] (spTo Z K) := by
  refine F.ok sc_answer_to (fun vs H Q E h => ?_) (fun cdv A outer s0 H vs Q E hr h => ?_)
  · obtain ⟨H0, Hs, G, L, s, c, as, a, x, rfl, _⟩ := h
    rfl
  · obtain ⟨H0, Hs, G, L, s, c, as, a, x, rfl, hx, hl, W, g, hz, k⟩ := h
    refine ⟨_, (pss_cons (ps_if (pt_cmpR op_eq (pv 1) (pe_gi T.k_CALL_ASK rfl) (nomark _))
      (pss_one (ps_ret (pe_call G_ask.ok (hr.mono (by decide)) rfl G_ask.g G_ask.kp G_ask.b .nil pass0 (pa_cons (pv 0) (pa_cons (pe_ix ix_list (pv 2) pe_int (fun _ _ => rfl)) (pa_cons (pe_ix ix_list (pv 2) pe_int (fun _ _ => rfl)) (pa_cons (pe_ix ix_list (pv 2) pe_int (fun _ _ => rfl)) (pa_cons (pe_ix ix_list (pv 2) pe_int (fun _ _ => rfl)) (pa_cons (pe_ix ix_list (pv 2) pe_int (fun _ _ => rfl)) (pa_cons (pe_ix ix_list (pv 2) pe_int (fun _ _ => rfl)) (pa_cons (pe_ix ix_list (pv 2) pe_int (fun _ _ => rfl)) pa_nil)))))))))))
      pss_nil)
    (pss_cons (ps_if (pt_cmpR op_eq (pv 1) (pe_gi T.k_CALL_TELL rfl) (nomark _))
      (pss_one (ps_ret (pe_call G_tell.ok (hr.mono (by decide)) rfl G_tell.g G_tell.kp G_tell.b .nil pass0 (pa_cons (pv 0) (pa_cons (pe_ix ix_list (pv 2) pe_int (fun _ _ => rfl)) (pa_cons (pe_ix ix_list (pv 2) pe_int (fun _ _ => rfl)) (pa_cons (pe_ix ix_list (pv 2) pe_int (fun _ _ => rfl)) pa_nil)))))))
      pss_nil)
    (pss_cons (ps_if (pt_cmpR op_eq (pv 1) (pe_gi T.k_CALL_STOP rfl) (nomark _))
      (pss_one (ps_ret (pe_call G_stop.ok (hr.mono (by decide)) rfl G_stop.g G_stop.kp G_stop.b .nil pass0 (pa_cons (pv 0) (pa_cons (pe_ix ix_list (pv 2) pe_int (fun _ _ => rfl)) pa_nil)))))
      pss_nil)
    (pss_cons (ps_if (pt_cmpR op_eq (pv 1) (pe_gi T.k_CALL_DELIVER rfl) (nomark _))
      (pss_one (ps_ret (pe_call G_deliver.ok (hr.mono (by decide)) rfl G_deliver.g G_deliver.kp G_deliver.b .nil pass0 (pa_cons (pv 0) (pa_cons (pe_ix ix_list (pv 2) pe_int (fun _ _ => rfl)) (pa_cons (pe_ix ix_list (pv 2) pe_int (fun _ _ => rfl)) pa_nil))))))
      pss_nil)
    (pss_cons (ps_if (pt_cmpR op_eq (pv 1) (pe_gi T.k_CALL_WORK rfl) (nomark _))
      (pss_one (ps_ret (pe_call G_work.ok (hr.mono (by decide)) rfl G_work.g G_work.kp G_work.b .nil pass0 (pa_cons (pv 0) (pa_cons (pe_ix ix_list (pv 2) pe_int (fun _ _ => rfl)) pa_nil)))))
      pss_nil)
    (pss_cons (ps_if (pt_cmpR op_eq (pv 1) (pe_gi T.k_CALL_ANSWER rfl) (nomark _))
      (pss_one (ps_ret (pe_call G_answer.ok (hr.mono (by decide)) rfl G_answer.g G_answer.kp G_answer.b .nil pass0 (pa_cons (pv 0) (pa_cons (pe_ix ix_list (pv 2) pe_int (fun _ _ => rfl)) (pa_cons (pe_ix ix_list (pv 2) pe_int (fun _ _ => rfl)) pa_nil))))))
      pss_nil)
    (pss_cons (ps_if (pt_cmpR op_eq (pv 1) (pe_gi T.k_CALL_DIE rfl) (nomark _))
      (pss_one (ps_ret (pe_call G_die.ok (hr.mono (by decide)) rfl G_die.g G_die.kp G_die.b .nil pass0 (pa_cons (pv 0) (pa_cons (pe_ix ix_list (pv 2) pe_int (fun _ _ => rfl)) pa_nil)))))
      pss_nil)
    (pss_cons (ps_if (pt_cmpR op_eq (pv 1) (pe_gi T.k_CALL_START rfl) (nomark _))
      (pss_one (ps_ret (pe_call G_start.ok (hr.mono (by decide)) rfl G_start.g G_start.kp G_start.b .nil pass0 (pa_cons (pv 0) (pa_cons (pe_ix ix_list (pv 2) pe_int (fun _ _ => rfl)) pa_nil)))))
      pss_nil)
    (pss_cons (ps_if (pt_cmpR op_eq (pv 1) (pe_gi T.k_CALL_TICKS rfl) (nomark _))
      (pss_one (ps_ret (pe_call G_ticks.ok (hr.mono (by decide)) rfl G_ticks.g G_ticks.kp G_ticks.b .nil pass0 (pa_cons (pv 0) (pa_cons (pe_ix ix_list (pv 2) pe_int (fun _ _ => rfl)) pa_nil)))))
      pss_nil)
    (pss_cons (ps_if (pt_cmpR op_eq (pv 1) (pe_gi T.k_CALL_TURNS rfl) (nomark _))
      (pss_one (ps_ret (pe_call G_turns.ok (hr.mono (by decide)) rfl G_turns.g G_turns.kp G_turns.b .nil pass0 (pa_cons (pv 0) (pa_cons (pe_ix ix_list (pv 2) pe_int (fun _ _ => rfl)) pa_nil)))))
      pss_nil)
    (pss_one (ps_ret (pe_call G_look_at.ok (hr.mono (by decide)) rfl G_look_at.g G_look_at.kp G_look_at.b .nil pass0 (pa_cons (pv 0) (pa_cons (pv 1) (pa_cons (pv 2) pa_nil)))))))))))))))), ?_⟩
    rcases callIn_cases hx with ⟨rfl, hn, rfl⟩ | ⟨rfl, hn, rfl⟩ | ⟨rfl, hn, rfl⟩ | ⟨rfl, hn, rfl⟩ | ⟨rfl, hn, rfl⟩ | ⟨rfl, hn, rfl⟩ | ⟨rfl, hn, rfl⟩ | ⟨rfl, hn, rfl⟩ | ⟨rfl, hn, rfl⟩ | ⟨rfl, hn, rfl⟩ | ⟨rfl, hn, rfl⟩ | ⟨rfl, hn, rfl⟩ | ⟨rfl, hn, rfl⟩ | ⟨rfl, hn, rfl⟩
    · obtain ⟨b0, b1, b2, b3, b4, b5, b6, rfl⟩ := len7 hn
      exact st_seq (st_yes (Ans.to (a_eqI (val_var rfl) val_c) rfl) (b_ret (va_call (va_cons (val_var rfl) (va_cons (v_ixL (j := 0) (val_var rfl) hl val_c rfl) (va_cons (v_ixL (j := 1) (val_var rfl) hl val_c rfl) (va_cons (v_ixL (j := 2) (val_var rfl) hl val_c rfl) (va_cons (v_ixL (j := 3) (val_var rfl) hl val_c rfl) (va_cons (v_ixL (j := 4) (val_var rfl) hl val_c rfl) (va_cons (v_ixL (j := 5) (val_var rfl) hl val_c rfl) (va_cons (v_ixL (j := 6) (val_var rfl) hl val_c rfl) va_nil)))))))) ⟨H0, Hs, G, L, s, [b0, b1, b2, b3, b4, b5, b6], rfl, rfl, W, g, hz, k⟩)))
    · obtain ⟨b0, b1, b2, rfl⟩ := len3 hn
      refine st_seq (st_no (Ans.to (a_eqI (val_var rfl) val_c) rfl) ?_)
      refine st_next ?_
      dsimp only
      exact st_seq (st_yes (Ans.to (a_eqI (val_var rfl) val_c) rfl) (b_ret (va_call (va_cons (val_var rfl) (va_cons (v_ixL (j := 0) (val_var rfl) hl val_c rfl) (va_cons (v_ixL (j := 1) (val_var rfl) hl val_c rfl) (va_cons (v_ixL (j := 2) (val_var rfl) hl val_c rfl) va_nil)))) ⟨H0, Hs, G, L, s, [b0, b1, b2], rfl, rfl, W, g, hz, k⟩)))
    · obtain ⟨b0, rfl⟩ := len1 hn
      refine st_seq (st_no (Ans.to (a_eqI (val_var rfl) val_c) rfl) ?_)
      refine st_next ?_
      dsimp only
      refine st_seq (st_no (Ans.to (a_eqI (val_var rfl) val_c) rfl) ?_)
      refine st_next ?_
      dsimp only
      exact st_seq (st_yes (Ans.to (a_eqI (val_var rfl) val_c) rfl) (b_ret (va_call (va_cons (val_var rfl) (va_cons (v_ixL (j := 0) (val_var rfl) hl val_c rfl) va_nil)) ⟨H0, Hs, G, L, s, [b0], rfl, rfl, W, g, hz, k⟩)))
    · obtain ⟨b0, b1, rfl⟩ := len2 hn
      refine st_seq (st_no (Ans.to (a_eqI (val_var rfl) val_c) rfl) ?_)
      refine st_next ?_
      dsimp only
      refine st_seq (st_no (Ans.to (a_eqI (val_var rfl) val_c) rfl) ?_)
      refine st_next ?_
      dsimp only
      refine st_seq (st_no (Ans.to (a_eqI (val_var rfl) val_c) rfl) ?_)
      refine st_next ?_
      dsimp only
      exact st_seq (st_yes (Ans.to (a_eqI (val_var rfl) val_c) rfl) (b_ret (va_call (va_cons (val_var rfl) (va_cons (v_ixL (j := 0) (val_var rfl) hl val_c rfl) (va_cons (v_ixL (j := 1) (val_var rfl) hl val_c rfl) va_nil))) ⟨H0, Hs, G, L, s, [b0, b1], rfl, rfl, W, g, hz, k⟩)))
    · obtain ⟨b0, rfl⟩ := len1 hn
      refine st_seq (st_no (Ans.to (a_eqI (val_var rfl) val_c) rfl) ?_)
      refine st_next ?_
      dsimp only
      refine st_seq (st_no (Ans.to (a_eqI (val_var rfl) val_c) rfl) ?_)
      refine st_next ?_
      dsimp only
      refine st_seq (st_no (Ans.to (a_eqI (val_var rfl) val_c) rfl) ?_)
      refine st_next ?_
      dsimp only
      refine st_seq (st_no (Ans.to (a_eqI (val_var rfl) val_c) rfl) ?_)
      refine st_next ?_
      dsimp only
      exact st_seq (st_yes (Ans.to (a_eqI (val_var rfl) val_c) rfl) (b_ret (va_call (va_cons (val_var rfl) (va_cons (v_ixL (j := 0) (val_var rfl) hl val_c rfl) va_nil)) ⟨H0, Hs, G, L, s, [b0], rfl, rfl, W, g, hz, k⟩)))
    · obtain ⟨b0, b1, rfl⟩ := len2 hn
      refine st_seq (st_no (Ans.to (a_eqI (val_var rfl) val_c) rfl) ?_)
      refine st_next ?_
      dsimp only
      refine st_seq (st_no (Ans.to (a_eqI (val_var rfl) val_c) rfl) ?_)
      refine st_next ?_
      dsimp only
      refine st_seq (st_no (Ans.to (a_eqI (val_var rfl) val_c) rfl) ?_)
      refine st_next ?_
      dsimp only
      refine st_seq (st_no (Ans.to (a_eqI (val_var rfl) val_c) rfl) ?_)
      refine st_next ?_
      dsimp only
      refine st_seq (st_no (Ans.to (a_eqI (val_var rfl) val_c) rfl) ?_)
      refine st_next ?_
      dsimp only
      exact st_seq (st_yes (Ans.to (a_eqI (val_var rfl) val_c) rfl) (b_ret (va_call (va_cons (val_var rfl) (va_cons (v_ixL (j := 0) (val_var rfl) hl val_c rfl) (va_cons (v_ixL (j := 1) (val_var rfl) hl val_c rfl) va_nil))) ⟨H0, Hs, G, L, s, [b0, b1], rfl, rfl, W, g, hz, k⟩)))
    · obtain ⟨b0, rfl⟩ := len1 hn
      refine st_seq (st_no (Ans.to (a_eqI (val_var rfl) val_c) rfl) ?_)
      refine st_next ?_
      dsimp only
      refine st_seq (st_no (Ans.to (a_eqI (val_var rfl) val_c) rfl) ?_)
      refine st_next ?_
      dsimp only
      refine st_seq (st_no (Ans.to (a_eqI (val_var rfl) val_c) rfl) ?_)
      refine st_next ?_
      dsimp only
      refine st_seq (st_no (Ans.to (a_eqI (val_var rfl) val_c) rfl) ?_)
      refine st_next ?_
      dsimp only
      refine st_seq (st_no (Ans.to (a_eqI (val_var rfl) val_c) rfl) ?_)
      refine st_next ?_
      dsimp only
      refine st_seq (st_no (Ans.to (a_eqI (val_var rfl) val_c) rfl) ?_)
      refine st_next ?_
      dsimp only
      exact st_seq (st_yes (Ans.to (a_eqI (val_var rfl) val_c) rfl) (b_ret (va_call (va_cons (val_var rfl) (va_cons (v_ixL (j := 0) (val_var rfl) hl val_c rfl) va_nil)) ⟨H0, Hs, G, L, s, [b0], rfl, rfl, W, g, hz, k⟩)))
    · obtain ⟨b0, rfl⟩ := len1 hn
      refine st_seq (st_no (Ans.to (a_eqI (val_var rfl) val_c) rfl) ?_)
      refine st_next ?_
      dsimp only
      refine st_seq (st_no (Ans.to (a_eqI (val_var rfl) val_c) rfl) ?_)
      refine st_next ?_
      dsimp only
      refine st_seq (st_no (Ans.to (a_eqI (val_var rfl) val_c) rfl) ?_)
      refine st_next ?_
      dsimp only
      refine st_seq (st_no (Ans.to (a_eqI (val_var rfl) val_c) rfl) ?_)
      refine st_next ?_
      dsimp only
      refine st_seq (st_no (Ans.to (a_eqI (val_var rfl) val_c) rfl) ?_)
      refine st_next ?_
      dsimp only
      refine st_seq (st_no (Ans.to (a_eqI (val_var rfl) val_c) rfl) ?_)
      refine st_next ?_
      dsimp only
      refine st_seq (st_no (Ans.to (a_eqI (val_var rfl) val_c) rfl) ?_)
      refine st_next ?_
      dsimp only
      exact st_seq (st_yes (Ans.to (a_eqI (val_var rfl) val_c) rfl) (b_ret (va_call (va_cons (val_var rfl) (va_cons (v_ixL (j := 0) (val_var rfl) hl val_c rfl) va_nil)) ⟨H0, Hs, G, L, s, [b0], rfl, rfl, W, g, hz, k⟩)))
    · obtain ⟨b0, rfl⟩ := len1 hn
      refine st_seq (st_no (Ans.to (a_eqI (val_var rfl) val_c) rfl) ?_)
      refine st_next ?_
      dsimp only
      refine st_seq (st_no (Ans.to (a_eqI (val_var rfl) val_c) rfl) ?_)
      refine st_next ?_
      dsimp only
      refine st_seq (st_no (Ans.to (a_eqI (val_var rfl) val_c) rfl) ?_)
      refine st_next ?_
      dsimp only
      refine st_seq (st_no (Ans.to (a_eqI (val_var rfl) val_c) rfl) ?_)
      refine st_next ?_
      dsimp only
      refine st_seq (st_no (Ans.to (a_eqI (val_var rfl) val_c) rfl) ?_)
      refine st_next ?_
      dsimp only
      refine st_seq (st_no (Ans.to (a_eqI (val_var rfl) val_c) rfl) ?_)
      refine st_next ?_
      dsimp only
      refine st_seq (st_no (Ans.to (a_eqI (val_var rfl) val_c) rfl) ?_)
      refine st_next ?_
      dsimp only
      refine st_seq (st_no (Ans.to (a_eqI (val_var rfl) val_c) rfl) ?_)
      refine st_next ?_
      dsimp only
      exact st_seq (st_yes (Ans.to (a_eqI (val_var rfl) val_c) rfl) (b_ret (va_call (va_cons (val_var rfl) (va_cons (v_ixL (j := 0) (val_var rfl) hl val_c rfl) va_nil)) ⟨H0, Hs, G, L, s, [b0], rfl, rfl, W, g, hz, k⟩)))
    · obtain ⟨b0, rfl⟩ := len1 hn
      refine st_seq (st_no (Ans.to (a_eqI (val_var rfl) val_c) rfl) ?_)
      refine st_next ?_
      dsimp only
      refine st_seq (st_no (Ans.to (a_eqI (val_var rfl) val_c) rfl) ?_)
      refine st_next ?_
      dsimp only
      refine st_seq (st_no (Ans.to (a_eqI (val_var rfl) val_c) rfl) ?_)
      refine st_next ?_
      dsimp only
      refine st_seq (st_no (Ans.to (a_eqI (val_var rfl) val_c) rfl) ?_)
      refine st_next ?_
      dsimp only
      refine st_seq (st_no (Ans.to (a_eqI (val_var rfl) val_c) rfl) ?_)
      refine st_next ?_
      dsimp only
      refine st_seq (st_no (Ans.to (a_eqI (val_var rfl) val_c) rfl) ?_)
      refine st_next ?_
      dsimp only
      refine st_seq (st_no (Ans.to (a_eqI (val_var rfl) val_c) rfl) ?_)
      refine st_next ?_
      dsimp only
      refine st_seq (st_no (Ans.to (a_eqI (val_var rfl) val_c) rfl) ?_)
      refine st_next ?_
      dsimp only
      refine st_seq (st_no (Ans.to (a_eqI (val_var rfl) val_c) rfl) ?_)
      refine st_next ?_
      dsimp only
      exact st_seq (st_yes (Ans.to (a_eqI (val_var rfl) val_c) rfl) (b_ret (va_call (va_cons (val_var rfl) (va_cons (v_ixL (j := 0) (val_var rfl) hl val_c rfl) va_nil)) ⟨H0, Hs, G, L, s, [b0], rfl, rfl, W, g, hz, k⟩)))
    · skip
      refine st_seq (st_no (Ans.to (a_eqI (val_var rfl) val_c) rfl) ?_)
      refine st_next ?_
      dsimp only
      refine st_seq (st_no (Ans.to (a_eqI (val_var rfl) val_c) rfl) ?_)
      refine st_next ?_
      dsimp only
      refine st_seq (st_no (Ans.to (a_eqI (val_var rfl) val_c) rfl) ?_)
      refine st_next ?_
      dsimp only
      refine st_seq (st_no (Ans.to (a_eqI (val_var rfl) val_c) rfl) ?_)
      refine st_next ?_
      dsimp only
      refine st_seq (st_no (Ans.to (a_eqI (val_var rfl) val_c) rfl) ?_)
      refine st_next ?_
      dsimp only
      refine st_seq (st_no (Ans.to (a_eqI (val_var rfl) val_c) rfl) ?_)
      refine st_next ?_
      dsimp only
      refine st_seq (st_no (Ans.to (a_eqI (val_var rfl) val_c) rfl) ?_)
      refine st_next ?_
      dsimp only
      refine st_seq (st_no (Ans.to (a_eqI (val_var rfl) val_c) rfl) ?_)
      refine st_next ?_
      dsimp only
      refine st_seq (st_no (Ans.to (a_eqI (val_var rfl) val_c) rfl) ?_)
      refine st_next ?_
      dsimp only
      refine st_seq (st_no (Ans.to (a_eqI (val_var rfl) val_c) rfl) ?_)
      refine st_next ?_
      dsimp only
      exact b_ret (va_call (va_cons (val_var rfl) (va_cons (val_var rfl) (va_cons (val_var rfl) va_nil))) ⟨H0, Hs, G, L, s, 10, as, a, _, rfl, by decide, hx, hl, W, g, hz, k⟩)
    · skip
      refine st_seq (st_no (Ans.to (a_eqI (val_var rfl) val_c) rfl) ?_)
      refine st_next ?_
      dsimp only
      refine st_seq (st_no (Ans.to (a_eqI (val_var rfl) val_c) rfl) ?_)
      refine st_next ?_
      dsimp only
      refine st_seq (st_no (Ans.to (a_eqI (val_var rfl) val_c) rfl) ?_)
      refine st_next ?_
      dsimp only
      refine st_seq (st_no (Ans.to (a_eqI (val_var rfl) val_c) rfl) ?_)
      refine st_next ?_
      dsimp only
      refine st_seq (st_no (Ans.to (a_eqI (val_var rfl) val_c) rfl) ?_)
      refine st_next ?_
      dsimp only
      refine st_seq (st_no (Ans.to (a_eqI (val_var rfl) val_c) rfl) ?_)
      refine st_next ?_
      dsimp only
      refine st_seq (st_no (Ans.to (a_eqI (val_var rfl) val_c) rfl) ?_)
      refine st_next ?_
      dsimp only
      refine st_seq (st_no (Ans.to (a_eqI (val_var rfl) val_c) rfl) ?_)
      refine st_next ?_
      dsimp only
      refine st_seq (st_no (Ans.to (a_eqI (val_var rfl) val_c) rfl) ?_)
      refine st_next ?_
      dsimp only
      refine st_seq (st_no (Ans.to (a_eqI (val_var rfl) val_c) rfl) ?_)
      refine st_next ?_
      dsimp only
      exact b_ret (va_call (va_cons (val_var rfl) (va_cons (val_var rfl) (va_cons (val_var rfl) va_nil))) ⟨H0, Hs, G, L, s, 11, as, a, _, rfl, by decide, hx, hl, W, g, hz, k⟩)
    · skip
      refine st_seq (st_no (Ans.to (a_eqI (val_var rfl) val_c) rfl) ?_)
      refine st_next ?_
      dsimp only
      refine st_seq (st_no (Ans.to (a_eqI (val_var rfl) val_c) rfl) ?_)
      refine st_next ?_
      dsimp only
      refine st_seq (st_no (Ans.to (a_eqI (val_var rfl) val_c) rfl) ?_)
      refine st_next ?_
      dsimp only
      refine st_seq (st_no (Ans.to (a_eqI (val_var rfl) val_c) rfl) ?_)
      refine st_next ?_
      dsimp only
      refine st_seq (st_no (Ans.to (a_eqI (val_var rfl) val_c) rfl) ?_)
      refine st_next ?_
      dsimp only
      refine st_seq (st_no (Ans.to (a_eqI (val_var rfl) val_c) rfl) ?_)
      refine st_next ?_
      dsimp only
      refine st_seq (st_no (Ans.to (a_eqI (val_var rfl) val_c) rfl) ?_)
      refine st_next ?_
      dsimp only
      refine st_seq (st_no (Ans.to (a_eqI (val_var rfl) val_c) rfl) ?_)
      refine st_next ?_
      dsimp only
      refine st_seq (st_no (Ans.to (a_eqI (val_var rfl) val_c) rfl) ?_)
      refine st_next ?_
      dsimp only
      refine st_seq (st_no (Ans.to (a_eqI (val_var rfl) val_c) rfl) ?_)
      refine st_next ?_
      dsimp only
      exact b_ret (va_call (va_cons (val_var rfl) (va_cons (val_var rfl) (va_cons (val_var rfl) va_nil))) ⟨H0, Hs, G, L, s, 12, as, a, _, rfl, by decide, hx, hl, W, g, hz, k⟩)
    · skip
      refine st_seq (st_no (Ans.to (a_eqI (val_var rfl) val_c) rfl) ?_)
      refine st_next ?_
      dsimp only
      refine st_seq (st_no (Ans.to (a_eqI (val_var rfl) val_c) rfl) ?_)
      refine st_next ?_
      dsimp only
      refine st_seq (st_no (Ans.to (a_eqI (val_var rfl) val_c) rfl) ?_)
      refine st_next ?_
      dsimp only
      refine st_seq (st_no (Ans.to (a_eqI (val_var rfl) val_c) rfl) ?_)
      refine st_next ?_
      dsimp only
      refine st_seq (st_no (Ans.to (a_eqI (val_var rfl) val_c) rfl) ?_)
      refine st_next ?_
      dsimp only
      refine st_seq (st_no (Ans.to (a_eqI (val_var rfl) val_c) rfl) ?_)
      refine st_next ?_
      dsimp only
      refine st_seq (st_no (Ans.to (a_eqI (val_var rfl) val_c) rfl) ?_)
      refine st_next ?_
      dsimp only
      refine st_seq (st_no (Ans.to (a_eqI (val_var rfl) val_c) rfl) ?_)
      refine st_next ?_
      dsimp only
      refine st_seq (st_no (Ans.to (a_eqI (val_var rfl) val_c) rfl) ?_)
      refine st_next ?_
      dsimp only
      refine st_seq (st_no (Ans.to (a_eqI (val_var rfl) val_c) rfl) ?_)
      refine st_next ?_
      dsimp only
      exact b_ret (va_call (va_cons (val_var rfl) (va_cons (val_var rfl) (va_cons (val_var rfl) va_nil))) ⟨H0, Hs, G, L, s, 13, as, a, _, rfl, by decide, hx, hl, W, g, hz, k⟩)
end
end AO

set_option Elab.async false
set_option maxRecDepth 100000
set_option maxHeartbeats 4000000
set_option linter.unusedVariables false
namespace AO
open PySem L2
/-! ### 19. What the top has written, every address a letter -/
theorem all_mk {P : Program} {w : World} {K : PySem.W.Frag} {h : Heap} {mg : Str → Option Value} {fa : Addr} (X : K.In h) (G : h.Ns mainGlobals mg) (hfa : mg "answers" = some (.ref fa))
    {C_Wait f_Wait : Addr} {od_Wait an_Wait : Option Addr} {sl_Wait : Array (Option Value)} {oc_Wait kV_Wait dc_Wait pm_Wait cd_Wait ct_Wait : Value}
    {C_Caller f_Caller : Addr} {od_Caller an_Caller : Option Addr} {sl_Caller : Array (Option Value)} {oc_Caller kV_Caller dc_Caller pm_Caller cd_Caller ct_Caller : Value}
    {C_Server f_Server : Addr} {od_Server an_Server : Option Addr} {sl_Server : Array (Option Value)} {oc_Server kV_Server dc_Server pm_Server cd_Server ct_Server : Value}
    {C_Letter f_Letter : Addr} {od_Letter an_Letter : Option Addr} {sl_Letter : Array (Option Value)} {oc_Letter kV_Letter dc_Letter pm_Letter cd_Letter ct_Letter : Value}
    {C_World f_World : Addr} {od_World an_World : Option Addr} {sl_World : Array (Option Value)} {oc_World kV_World dc_World pm_World cd_World ct_World : Value}
    {f_send : Addr} {od_send an_send : Option Addr} {sl_send : Array (Option Value)} {oc_send kV_send dc_send pm_send cd_send ct_send : Value}
    {f_first_on_its_way : Addr} {od_first_on_its_way an_first_on_its_way : Option Addr} {sl_first_on_its_way : Array (Option Value)} {oc_first_on_its_way kV_first_on_its_way dc_first_on_its_way pm_first_on_its_way cd_first_on_its_way ct_first_on_its_way : Value}
    {f_comes_back : Addr} {od_comes_back an_comes_back : Option Addr} {sl_comes_back : Array (Option Value)} {oc_comes_back kV_comes_back dc_comes_back pm_comes_back cd_comes_back ct_comes_back : Value}
    {f_arrives : Addr} {od_arrives an_arrives : Option Addr} {sl_arrives : Array (Option Value)} {oc_arrives kV_arrives dc_arrives pm_arrives cd_arrives ct_arrives : Value}
    {f_arrives_at_server : Addr} {od_arrives_at_server an_arrives_at_server : Option Addr} {sl_arrives_at_server : Array (Option Value)} {oc_arrives_at_server kV_arrives_at_server dc_arrives_at_server pm_arrives_at_server cd_arrives_at_server ct_arrives_at_server : Value}
    {f_watch_arrives : Addr} {od_watch_arrives an_watch_arrives : Option Addr} {sl_watch_arrives : Array (Option Value)} {oc_watch_arrives kV_watch_arrives dc_watch_arrives pm_watch_arrives cd_watch_arrives ct_watch_arrives : Value}
    {f_arrives_at_caller : Addr} {od_arrives_at_caller an_arrives_at_caller : Option Addr} {sl_arrives_at_caller : Array (Option Value)} {oc_arrives_at_caller kV_arrives_at_caller dc_arrives_at_caller pm_arrives_at_caller cd_arrives_at_caller ct_arrives_at_caller : Value}
    {f_does_first : Addr} {od_does_first an_does_first : Option Addr} {sl_does_first : Array (Option Value)} {oc_does_first kV_does_first dc_does_first pm_does_first cd_does_first ct_does_first : Value}
    {f_adds : Addr} {od_adds an_adds : Option Addr} {sl_adds : Array (Option Value)} {oc_adds kV_adds dc_adds pm_adds cd_adds ct_adds : Value}
    {f_dies : Addr} {od_dies an_dies : Option Addr} {sl_dies : Array (Option Value)} {oc_dies kV_dies dc_dies pm_dies cd_dies ct_dies : Value}
    {f_lives_again : Addr} {od_lives_again an_lives_again : Option Addr} {sl_lives_again : Array (Option Value)} {oc_lives_again kV_lives_again dc_lives_again pm_lives_again cd_lives_again ct_lives_again : Value}
    {f_is_over : Addr} {od_is_over an_is_over : Option Addr} {sl_is_over : Array (Option Value)} {oc_is_over kV_is_over dc_is_over pm_is_over cd_is_over ct_is_over : Value}
    {f_time_passes : Addr} {od_time_passes an_time_passes : Option Addr} {sl_time_passes : Array (Option Value)} {oc_time_passes kV_time_passes dc_time_passes pm_time_passes cd_time_passes ct_time_passes : Value}
    {f_one_turn : Addr} {od_one_turn an_one_turn : Option Addr} {sl_one_turn : Array (Option Value)} {oc_one_turn kV_one_turn dc_one_turn pm_one_turn cd_one_turn ct_one_turn : Value}
    {f_asked_badly : Addr} {od_asked_badly an_asked_badly : Option Addr} {sl_asked_badly : Array (Option Value)} {oc_asked_badly kV_asked_badly dc_asked_badly pm_asked_badly cd_asked_badly ct_asked_badly : Value}
    {f_ask : Addr} {od_ask an_ask : Option Addr} {sl_ask : Array (Option Value)} {oc_ask kV_ask dc_ask pm_ask cd_ask ct_ask : Value}
    {f_tell : Addr} {od_tell an_tell : Option Addr} {sl_tell : Array (Option Value)} {oc_tell kV_tell dc_tell pm_tell cd_tell ct_tell : Value}
    {f_stop : Addr} {od_stop an_stop : Option Addr} {sl_stop : Array (Option Value)} {oc_stop kV_stop dc_stop pm_stop cd_stop ct_stop : Value}
    {f_deliver : Addr} {od_deliver an_deliver : Option Addr} {sl_deliver : Array (Option Value)} {oc_deliver kV_deliver dc_deliver pm_deliver cd_deliver ct_deliver : Value}
    {f_work : Addr} {od_work an_work : Option Addr} {sl_work : Array (Option Value)} {oc_work kV_work dc_work pm_work cd_work ct_work : Value}
    {f_answer : Addr} {od_answer an_answer : Option Addr} {sl_answer : Array (Option Value)} {oc_answer kV_answer dc_answer pm_answer cd_answer ct_answer : Value}
    {f_die : Addr} {od_die an_die : Option Addr} {sl_die : Array (Option Value)} {oc_die kV_die dc_die pm_die cd_die ct_die : Value}
    {f_start : Addr} {od_start an_start : Option Addr} {sl_start : Array (Option Value)} {oc_start kV_start dc_start pm_start cd_start ct_start : Value}
    {f_counted : Addr} {od_counted an_counted : Option Addr} {sl_counted : Array (Option Value)} {oc_counted kV_counted dc_counted pm_counted cd_counted ct_counted : Value}
    {f_came : Addr} {od_came an_came : Option Addr} {sl_came : Array (Option Value)} {oc_came kV_came dc_came pm_came cd_came ct_came : Value}
    {f_waits : Addr} {od_waits an_waits : Option Addr} {sl_waits : Array (Option Value)} {oc_waits kV_waits dc_waits pm_waits cd_waits ct_waits : Value}
    {f_server : Addr} {od_server an_server : Option Addr} {sl_server : Array (Option Value)} {oc_server kV_server dc_server pm_server cd_server ct_server : Value}
    {f_air : Addr} {od_air an_air : Option Addr} {sl_air : Array (Option Value)} {oc_air kV_air dc_air pm_air cd_air ct_air : Value}
    {f_ticks : Addr} {od_ticks an_ticks : Option Addr} {sl_ticks : Array (Option Value)} {oc_ticks kV_ticks dc_ticks pm_ticks cd_ticks ct_ticks : Value}
    {f_turns : Addr} {od_turns an_turns : Option Addr} {sl_turns : Array (Option Value)} {oc_turns kV_turns dc_turns pm_turns cd_turns ct_turns : Value}
    {f_answer_to : Addr} {od_answer_to an_answer_to : Option Addr} {sl_answer_to : Array (Option Value)} {oc_answer_to kV_answer_to dc_answer_to pm_answer_to cd_answer_to ct_answer_to : Value}
    {f_look_at : Addr} {od_look_at an_look_at : Option Addr} {sl_look_at : Array (Option Value)} {oc_look_at kV_look_at dc_look_at pm_look_at cd_look_at ct_look_at : Value}
    {f_answers : Addr} {od_answers an_answers : Option Addr} {sl_answers : Array (Option Value)} {oc_answers kV_answers dc_answers pm_answers cd_answers ct_answers : Value}
    {tk_ASKED : Tok}
    {tk_WATCH : Tok}
    {tk_UNWATCH : Tok}
    {tk_ANSWER : Tok}
    {tk_GONE : Tok}
    {tk_CAME_ANSWER : Tok}
    {tk_CAME_GONE : Tok}
    {tk_CAME_OVER : Tok}
    {tk_CAME_STOPPED : Tok}
    {tk_ADD : Tok}
    {tk_ADD_LATER : Tok}
    {tk_HAND_ON : Tok}
    {tk_DIE : Tok}
    {tk_ADD_AND_DIE : Tok}
    {tk_MODULUS : Tok}
    {tk_NOT_THERE : Tok}
    {tk_BAD_END : Tok}
    {tk_NOTHING : Tok}
    {tk_TOO_MANY : Tok}
    {tk_NOT_NOW : Tok}
    {tk_MOST_WHAT : Tok}
    {tk_MOST_MUCH : Tok}
    {tk_MOST_TICKS : Tok}
    {tk_MOST_TURNS : Tok}
    {tk_FULL_AIR : Tok}
    {tk_CALL_ASK : Tok}
    {tk_CALL_TELL : Tok}
    {tk_CALL_STOP : Tok}
    {tk_CALL_DELIVER : Tok}
    {tk_CALL_WORK : Tok}
    {tk_CALL_ANSWER : Tok}
    {tk_CALL_DIE : Tok}
    {tk_CALL_START : Tok}
    {tk_CALL_TICKS : Tok}
    {tk_CALL_TURNS : Tok}
    {tk_CALL_CAME : Tok}
    {tk_CALL_WAITS : Tok}
    {tk_CALL_SERVER : Tok}
    {gv : Addr} {gn : Nat} {gt0 : Tok} {gt1 : Tok} {gt2 : Tok} {gt3 : Tok} {gt4 : Tok} {gt5 : Tok} {gt6 : Tok} {gt7 : Tok} {gt8 : Tok} {gt9 : Tok} {gt10 : Tok} {gt11 : Tok} {gt12 : Tok} {gt13 : Tok}
    (aC_Wait : PySem.W.nsIn K mainGlobals "Wait" = some (some (.ref C_Wait)))
    (a_Wait : PySem.W.findIn K (.ref C_Wait) "__init__" = some (some (.ref f_Wait)))
    (i_Wait : PySem.W.isFn K (.ref f_Wait) = true)
    (l_Wait : K.lookup f_Wait = some ⟨oc_Wait, od_Wait, .func (PySem.W.fnOf "__init__" "Wait.__init__" (defArgs s_Wait) (defBody s_Wait) (defScope s_Wait) .none kV_Wait dc_Wait pm_Wait an_Wait cd_Wait ct_Wait), sl_Wait⟩)
    (c_Wait : PySem.W.codeIn K cd_Wait "Wait.__init__" = true)
    (k_Wait : PySem.W.keepIn K (.ref f_Wait) = true)
    (pg_Wait : PySem.W.plainGet K C_Wait Str.empty = true)
    (hd_Wait : PySem.W.hasDictIn K C_Wait = true)
    (po_Wait : PySem.W.plainOver K C_Wait = true)
    (sa_Wait : PySem.W.findIn K (.ref C_Wait) "__setattr__" = some (some (.builtin "object.__setattr__")))
    (mk_Wait : PySem.W.makesIn K C_Wait = true)
    (kc_Wait : PySem.W.keepIn K (.ref C_Wait) = true)
    (n_Wait_number : PySem.W.findIn K (.ref C_Wait) "number" = some none)
    (n_Wait_server : PySem.W.findIn K (.ref C_Wait) "server" = some none)
    (n_Wait_ends : PySem.W.findIn K (.ref C_Wait) "ends" = some none)
    (n_Wait_over : PySem.W.findIn K (.ref C_Wait) "over" = some none)
    (aC_Caller : PySem.W.nsIn K mainGlobals "Caller" = some (some (.ref C_Caller)))
    (a_Caller : PySem.W.findIn K (.ref C_Caller) "__init__" = some (some (.ref f_Caller)))
    (i_Caller : PySem.W.isFn K (.ref f_Caller) = true)
    (l_Caller : K.lookup f_Caller = some ⟨oc_Caller, od_Caller, .func (PySem.W.fnOf "__init__" "Caller.__init__" (defArgs s_Caller) (defBody s_Caller) (defScope s_Caller) .none kV_Caller dc_Caller pm_Caller an_Caller cd_Caller ct_Caller), sl_Caller⟩)
    (c_Caller : PySem.W.codeIn K cd_Caller "Caller.__init__" = true)
    (k_Caller : PySem.W.keepIn K (.ref f_Caller) = true)
    (pg_Caller : PySem.W.plainGet K C_Caller Str.empty = true)
    (hd_Caller : PySem.W.hasDictIn K C_Caller = true)
    (po_Caller : PySem.W.plainOver K C_Caller = true)
    (sa_Caller : PySem.W.findIn K (.ref C_Caller) "__setattr__" = some (some (.builtin "object.__setattr__")))
    (mk_Caller : PySem.W.makesIn K C_Caller = true)
    (kc_Caller : PySem.W.keepIn K (.ref C_Caller) = true)
    (n_Caller_waiting : PySem.W.findIn K (.ref C_Caller) "waiting" = some none)
    (n_Caller_came : PySem.W.findIn K (.ref C_Caller) "came" = some none)
    (aC_Server : PySem.W.nsIn K mainGlobals "Server" = some (some (.ref C_Server)))
    (a_Server : PySem.W.findIn K (.ref C_Server) "__init__" = some (some (.ref f_Server)))
    (i_Server : PySem.W.isFn K (.ref f_Server) = true)
    (l_Server : K.lookup f_Server = some ⟨oc_Server, od_Server, .func (PySem.W.fnOf "__init__" "Server.__init__" (defArgs s_Server) (defBody s_Server) (defScope s_Server) .none kV_Server dc_Server pm_Server an_Server cd_Server ct_Server), sl_Server⟩)
    (c_Server : PySem.W.codeIn K cd_Server "Server.__init__" = true)
    (k_Server : PySem.W.keepIn K (.ref f_Server) = true)
    (pg_Server : PySem.W.plainGet K C_Server Str.empty = true)
    (hd_Server : PySem.W.hasDictIn K C_Server = true)
    (po_Server : PySem.W.plainOver K C_Server = true)
    (sa_Server : PySem.W.findIn K (.ref C_Server) "__setattr__" = some (some (.builtin "object.__setattr__")))
    (mk_Server : PySem.W.makesIn K C_Server = true)
    (kc_Server : PySem.W.keepIn K (.ref C_Server) = true)
    (n_Server_alive : PySem.W.findIn K (.ref C_Server) "alive" = some none)
    (n_Server_lives : PySem.W.findIn K (.ref C_Server) "lives" = some none)
    (n_Server_total : PySem.W.findIn K (.ref C_Server) "total" = some none)
    (n_Server_asked : PySem.W.findIn K (.ref C_Server) "asked" = some none)
    (n_Server_later : PySem.W.findIn K (.ref C_Server) "later" = some none)
    (n_Server_watchers : PySem.W.findIn K (.ref C_Server) "watchers" = some none)
    (aC_Letter : PySem.W.nsIn K mainGlobals "Letter" = some (some (.ref C_Letter)))
    (a_Letter : PySem.W.findIn K (.ref C_Letter) "__init__" = some (some (.ref f_Letter)))
    (i_Letter : PySem.W.isFn K (.ref f_Letter) = true)
    (l_Letter : K.lookup f_Letter = some ⟨oc_Letter, od_Letter, .func (PySem.W.fnOf "__init__" "Letter.__init__" (defArgs s_Letter) (defBody s_Letter) (defScope s_Letter) .none kV_Letter dc_Letter pm_Letter an_Letter cd_Letter ct_Letter), sl_Letter⟩)
    (c_Letter : PySem.W.codeIn K cd_Letter "Letter.__init__" = true)
    (k_Letter : PySem.W.keepIn K (.ref f_Letter) = true)
    (pg_Letter : PySem.W.plainGet K C_Letter Str.empty = true)
    (hd_Letter : PySem.W.hasDictIn K C_Letter = true)
    (po_Letter : PySem.W.plainOver K C_Letter = true)
    (sa_Letter : PySem.W.findIn K (.ref C_Letter) "__setattr__" = some (some (.builtin "object.__setattr__")))
    (mk_Letter : PySem.W.makesIn K C_Letter = true)
    (kc_Letter : PySem.W.keepIn K (.ref C_Letter) = true)
    (n_Letter_sender : PySem.W.findIn K (.ref C_Letter) "sender" = some none)
    (n_Letter_receiver : PySem.W.findIn K (.ref C_Letter) "receiver" = some none)
    (n_Letter_told : PySem.W.findIn K (.ref C_Letter) "told" = some none)
    (aC_World : PySem.W.nsIn K mainGlobals "World" = some (some (.ref C_World)))
    (a_World : PySem.W.findIn K (.ref C_World) "__init__" = some (some (.ref f_World)))
    (i_World : PySem.W.isFn K (.ref f_World) = true)
    (l_World : K.lookup f_World = some ⟨oc_World, od_World, .func (PySem.W.fnOf "__init__" "World.__init__" (defArgs s_World) (defBody s_World) (defScope s_World) .none kV_World dc_World pm_World an_World cd_World ct_World), sl_World⟩)
    (c_World : PySem.W.codeIn K cd_World "World.__init__" = true)
    (k_World : PySem.W.keepIn K (.ref f_World) = true)
    (pg_World : PySem.W.plainGet K C_World Str.empty = true)
    (hd_World : PySem.W.hasDictIn K C_World = true)
    (po_World : PySem.W.plainOver K C_World = true)
    (sa_World : PySem.W.findIn K (.ref C_World) "__setattr__" = some (some (.builtin "object.__setattr__")))
    (mk_World : PySem.W.makesIn K C_World = true)
    (kc_World : PySem.W.keepIn K (.ref C_World) = true)
    (n_World_now : PySem.W.findIn K (.ref C_World) "now" = some none)
    (n_World_made : PySem.W.findIn K (.ref C_World) "made" = some none)
    (n_World_callers : PySem.W.findIn K (.ref C_World) "callers" = some none)
    (n_World_servers : PySem.W.findIn K (.ref C_World) "servers" = some none)
    (n_World_air : PySem.W.findIn K (.ref C_World) "air" = some none)
    (a_send : PySem.W.nsIn K mainGlobals "send" = some (some (.ref f_send)))
    (l_send : K.lookup f_send = some ⟨oc_send, od_send, .func (PySem.W.fnOf "send" "send" (defArgs s_send) (defBody s_send) (defScope s_send) .none kV_send dc_send pm_send an_send cd_send ct_send), sl_send⟩)
    (c_send : PySem.W.codeIn K cd_send "send" = true)
    (k_send : PySem.W.keepIn K (.ref f_send) = true)
    (a_first_on_its_way : PySem.W.nsIn K mainGlobals "first_on_its_way" = some (some (.ref f_first_on_its_way)))
    (l_first_on_its_way : K.lookup f_first_on_its_way = some ⟨oc_first_on_its_way, od_first_on_its_way, .func (PySem.W.fnOf "first_on_its_way" "first_on_its_way" (defArgs s_first_on_its_way) (defBody s_first_on_its_way) (defScope s_first_on_its_way) .none kV_first_on_its_way dc_first_on_its_way pm_first_on_its_way an_first_on_its_way cd_first_on_its_way ct_first_on_its_way), sl_first_on_its_way⟩)
    (c_first_on_its_way : PySem.W.codeIn K cd_first_on_its_way "first_on_its_way" = true)
    (k_first_on_its_way : PySem.W.keepIn K (.ref f_first_on_its_way) = true)
    (a_comes_back : PySem.W.nsIn K mainGlobals "comes_back" = some (some (.ref f_comes_back)))
    (l_comes_back : K.lookup f_comes_back = some ⟨oc_comes_back, od_comes_back, .func (PySem.W.fnOf "comes_back" "comes_back" (defArgs s_comes_back) (defBody s_comes_back) (defScope s_comes_back) .none kV_comes_back dc_comes_back pm_comes_back an_comes_back cd_comes_back ct_comes_back), sl_comes_back⟩)
    (c_comes_back : PySem.W.codeIn K cd_comes_back "comes_back" = true)
    (k_comes_back : PySem.W.keepIn K (.ref f_comes_back) = true)
    (a_arrives : PySem.W.nsIn K mainGlobals "arrives" = some (some (.ref f_arrives)))
    (l_arrives : K.lookup f_arrives = some ⟨oc_arrives, od_arrives, .func (PySem.W.fnOf "arrives" "arrives" (defArgs s_arrives) (defBody s_arrives) (defScope s_arrives) .none kV_arrives dc_arrives pm_arrives an_arrives cd_arrives ct_arrives), sl_arrives⟩)
    (c_arrives : PySem.W.codeIn K cd_arrives "arrives" = true)
    (k_arrives : PySem.W.keepIn K (.ref f_arrives) = true)
    (a_arrives_at_server : PySem.W.nsIn K mainGlobals "arrives_at_server" = some (some (.ref f_arrives_at_server)))
    (l_arrives_at_server : K.lookup f_arrives_at_server = some ⟨oc_arrives_at_server, od_arrives_at_server, .func (PySem.W.fnOf "arrives_at_server" "arrives_at_server" (defArgs s_arrives_at_server) (defBody s_arrives_at_server) (defScope s_arrives_at_server) .none kV_arrives_at_server dc_arrives_at_server pm_arrives_at_server an_arrives_at_server cd_arrives_at_server ct_arrives_at_server), sl_arrives_at_server⟩)
    (c_arrives_at_server : PySem.W.codeIn K cd_arrives_at_server "arrives_at_server" = true)
    (k_arrives_at_server : PySem.W.keepIn K (.ref f_arrives_at_server) = true)
    (a_watch_arrives : PySem.W.nsIn K mainGlobals "watch_arrives" = some (some (.ref f_watch_arrives)))
    (l_watch_arrives : K.lookup f_watch_arrives = some ⟨oc_watch_arrives, od_watch_arrives, .func (PySem.W.fnOf "watch_arrives" "watch_arrives" (defArgs s_watch_arrives) (defBody s_watch_arrives) (defScope s_watch_arrives) .none kV_watch_arrives dc_watch_arrives pm_watch_arrives an_watch_arrives cd_watch_arrives ct_watch_arrives), sl_watch_arrives⟩)
    (c_watch_arrives : PySem.W.codeIn K cd_watch_arrives "watch_arrives" = true)
    (k_watch_arrives : PySem.W.keepIn K (.ref f_watch_arrives) = true)
    (a_arrives_at_caller : PySem.W.nsIn K mainGlobals "arrives_at_caller" = some (some (.ref f_arrives_at_caller)))
    (l_arrives_at_caller : K.lookup f_arrives_at_caller = some ⟨oc_arrives_at_caller, od_arrives_at_caller, .func (PySem.W.fnOf "arrives_at_caller" "arrives_at_caller" (defArgs s_arrives_at_caller) (defBody s_arrives_at_caller) (defScope s_arrives_at_caller) .none kV_arrives_at_caller dc_arrives_at_caller pm_arrives_at_caller an_arrives_at_caller cd_arrives_at_caller ct_arrives_at_caller), sl_arrives_at_caller⟩)
    (c_arrives_at_caller : PySem.W.codeIn K cd_arrives_at_caller "arrives_at_caller" = true)
    (k_arrives_at_caller : PySem.W.keepIn K (.ref f_arrives_at_caller) = true)
    (a_does_first : PySem.W.nsIn K mainGlobals "does_first" = some (some (.ref f_does_first)))
    (l_does_first : K.lookup f_does_first = some ⟨oc_does_first, od_does_first, .func (PySem.W.fnOf "does_first" "does_first" (defArgs s_does_first) (defBody s_does_first) (defScope s_does_first) .none kV_does_first dc_does_first pm_does_first an_does_first cd_does_first ct_does_first), sl_does_first⟩)
    (c_does_first : PySem.W.codeIn K cd_does_first "does_first" = true)
    (k_does_first : PySem.W.keepIn K (.ref f_does_first) = true)
    (a_adds : PySem.W.nsIn K mainGlobals "adds" = some (some (.ref f_adds)))
    (l_adds : K.lookup f_adds = some ⟨oc_adds, od_adds, .func (PySem.W.fnOf "adds" "adds" (defArgs s_adds) (defBody s_adds) (defScope s_adds) .none kV_adds dc_adds pm_adds an_adds cd_adds ct_adds), sl_adds⟩)
    (c_adds : PySem.W.codeIn K cd_adds "adds" = true)
    (k_adds : PySem.W.keepIn K (.ref f_adds) = true)
    (a_dies : PySem.W.nsIn K mainGlobals "dies" = some (some (.ref f_dies)))
    (l_dies : K.lookup f_dies = some ⟨oc_dies, od_dies, .func (PySem.W.fnOf "dies" "dies" (defArgs s_dies) (defBody s_dies) (defScope s_dies) .none kV_dies dc_dies pm_dies an_dies cd_dies ct_dies), sl_dies⟩)
    (c_dies : PySem.W.codeIn K cd_dies "dies" = true)
    (k_dies : PySem.W.keepIn K (.ref f_dies) = true)
    (a_lives_again : PySem.W.nsIn K mainGlobals "lives_again" = some (some (.ref f_lives_again)))
    (l_lives_again : K.lookup f_lives_again = some ⟨oc_lives_again, od_lives_again, .func (PySem.W.fnOf "lives_again" "lives_again" (defArgs s_lives_again) (defBody s_lives_again) (defScope s_lives_again) .none kV_lives_again dc_lives_again pm_lives_again an_lives_again cd_lives_again ct_lives_again), sl_lives_again⟩)
    (c_lives_again : PySem.W.codeIn K cd_lives_again "lives_again" = true)
    (k_lives_again : PySem.W.keepIn K (.ref f_lives_again) = true)
    (a_is_over : PySem.W.nsIn K mainGlobals "is_over" = some (some (.ref f_is_over)))
    (l_is_over : K.lookup f_is_over = some ⟨oc_is_over, od_is_over, .func (PySem.W.fnOf "is_over" "is_over" (defArgs s_is_over) (defBody s_is_over) (defScope s_is_over) .none kV_is_over dc_is_over pm_is_over an_is_over cd_is_over ct_is_over), sl_is_over⟩)
    (c_is_over : PySem.W.codeIn K cd_is_over "is_over" = true)
    (k_is_over : PySem.W.keepIn K (.ref f_is_over) = true)
    (a_time_passes : PySem.W.nsIn K mainGlobals "time_passes" = some (some (.ref f_time_passes)))
    (l_time_passes : K.lookup f_time_passes = some ⟨oc_time_passes, od_time_passes, .func (PySem.W.fnOf "time_passes" "time_passes" (defArgs s_time_passes) (defBody s_time_passes) (defScope s_time_passes) .none kV_time_passes dc_time_passes pm_time_passes an_time_passes cd_time_passes ct_time_passes), sl_time_passes⟩)
    (c_time_passes : PySem.W.codeIn K cd_time_passes "time_passes" = true)
    (k_time_passes : PySem.W.keepIn K (.ref f_time_passes) = true)
    (a_one_turn : PySem.W.nsIn K mainGlobals "one_turn" = some (some (.ref f_one_turn)))
    (l_one_turn : K.lookup f_one_turn = some ⟨oc_one_turn, od_one_turn, .func (PySem.W.fnOf "one_turn" "one_turn" (defArgs s_one_turn) (defBody s_one_turn) (defScope s_one_turn) .none kV_one_turn dc_one_turn pm_one_turn an_one_turn cd_one_turn ct_one_turn), sl_one_turn⟩)
    (c_one_turn : PySem.W.codeIn K cd_one_turn "one_turn" = true)
    (k_one_turn : PySem.W.keepIn K (.ref f_one_turn) = true)
    (a_asked_badly : PySem.W.nsIn K mainGlobals "asked_badly" = some (some (.ref f_asked_badly)))
    (l_asked_badly : K.lookup f_asked_badly = some ⟨oc_asked_badly, od_asked_badly, .func (PySem.W.fnOf "asked_badly" "asked_badly" (defArgs s_asked_badly) (defBody s_asked_badly) (defScope s_asked_badly) .none kV_asked_badly dc_asked_badly pm_asked_badly an_asked_badly cd_asked_badly ct_asked_badly), sl_asked_badly⟩)
    (c_asked_badly : PySem.W.codeIn K cd_asked_badly "asked_badly" = true)
    (k_asked_badly : PySem.W.keepIn K (.ref f_asked_badly) = true)
    (a_ask : PySem.W.nsIn K mainGlobals "ask" = some (some (.ref f_ask)))
    (l_ask : K.lookup f_ask = some ⟨oc_ask, od_ask, .func (PySem.W.fnOf "ask" "ask" (defArgs s_ask) (defBody s_ask) (defScope s_ask) .none kV_ask dc_ask pm_ask an_ask cd_ask ct_ask), sl_ask⟩)
    (c_ask : PySem.W.codeIn K cd_ask "ask" = true)
    (k_ask : PySem.W.keepIn K (.ref f_ask) = true)
    (a_tell : PySem.W.nsIn K mainGlobals "tell" = some (some (.ref f_tell)))
    (l_tell : K.lookup f_tell = some ⟨oc_tell, od_tell, .func (PySem.W.fnOf "tell" "tell" (defArgs s_tell) (defBody s_tell) (defScope s_tell) .none kV_tell dc_tell pm_tell an_tell cd_tell ct_tell), sl_tell⟩)
    (c_tell : PySem.W.codeIn K cd_tell "tell" = true)
    (k_tell : PySem.W.keepIn K (.ref f_tell) = true)
    (a_stop : PySem.W.nsIn K mainGlobals "stop" = some (some (.ref f_stop)))
    (l_stop : K.lookup f_stop = some ⟨oc_stop, od_stop, .func (PySem.W.fnOf "stop" "stop" (defArgs s_stop) (defBody s_stop) (defScope s_stop) .none kV_stop dc_stop pm_stop an_stop cd_stop ct_stop), sl_stop⟩)
    (c_stop : PySem.W.codeIn K cd_stop "stop" = true)
    (k_stop : PySem.W.keepIn K (.ref f_stop) = true)
    (a_deliver : PySem.W.nsIn K mainGlobals "deliver" = some (some (.ref f_deliver)))
    (l_deliver : K.lookup f_deliver = some ⟨oc_deliver, od_deliver, .func (PySem.W.fnOf "deliver" "deliver" (defArgs s_deliver) (defBody s_deliver) (defScope s_deliver) .none kV_deliver dc_deliver pm_deliver an_deliver cd_deliver ct_deliver), sl_deliver⟩)
    (c_deliver : PySem.W.codeIn K cd_deliver "deliver" = true)
    (k_deliver : PySem.W.keepIn K (.ref f_deliver) = true)
    (a_work : PySem.W.nsIn K mainGlobals "work" = some (some (.ref f_work)))
    (l_work : K.lookup f_work = some ⟨oc_work, od_work, .func (PySem.W.fnOf "work" "work" (defArgs s_work) (defBody s_work) (defScope s_work) .none kV_work dc_work pm_work an_work cd_work ct_work), sl_work⟩)
    (c_work : PySem.W.codeIn K cd_work "work" = true)
    (k_work : PySem.W.keepIn K (.ref f_work) = true)
    (a_answer : PySem.W.nsIn K mainGlobals "answer" = some (some (.ref f_answer)))
    (l_answer : K.lookup f_answer = some ⟨oc_answer, od_answer, .func (PySem.W.fnOf "answer" "answer" (defArgs s_answer) (defBody s_answer) (defScope s_answer) .none kV_answer dc_answer pm_answer an_answer cd_answer ct_answer), sl_answer⟩)
    (c_answer : PySem.W.codeIn K cd_answer "answer" = true)
    (k_answer : PySem.W.keepIn K (.ref f_answer) = true)
    (a_die : PySem.W.nsIn K mainGlobals "die" = some (some (.ref f_die)))
    (l_die : K.lookup f_die = some ⟨oc_die, od_die, .func (PySem.W.fnOf "die" "die" (defArgs s_die) (defBody s_die) (defScope s_die) .none kV_die dc_die pm_die an_die cd_die ct_die), sl_die⟩)
    (c_die : PySem.W.codeIn K cd_die "die" = true)
    (k_die : PySem.W.keepIn K (.ref f_die) = true)
    (a_start : PySem.W.nsIn K mainGlobals "start" = some (some (.ref f_start)))
    (l_start : K.lookup f_start = some ⟨oc_start, od_start, .func (PySem.W.fnOf "start" "start" (defArgs s_start) (defBody s_start) (defScope s_start) .none kV_start dc_start pm_start an_start cd_start ct_start), sl_start⟩)
    (c_start : PySem.W.codeIn K cd_start "start" = true)
    (k_start : PySem.W.keepIn K (.ref f_start) = true)
    (a_counted : PySem.W.nsIn K mainGlobals "counted" = some (some (.ref f_counted)))
    (l_counted : K.lookup f_counted = some ⟨oc_counted, od_counted, .func (PySem.W.fnOf "counted" "counted" (defArgs s_counted) (defBody s_counted) (defScope s_counted) .none kV_counted dc_counted pm_counted an_counted cd_counted ct_counted), sl_counted⟩)
    (c_counted : PySem.W.codeIn K cd_counted "counted" = true)
    (k_counted : PySem.W.keepIn K (.ref f_counted) = true)
    (a_came : PySem.W.nsIn K mainGlobals "came" = some (some (.ref f_came)))
    (l_came : K.lookup f_came = some ⟨oc_came, od_came, .func (PySem.W.fnOf "came" "came" (defArgs s_came) (defBody s_came) (defScope s_came) .none kV_came dc_came pm_came an_came cd_came ct_came), sl_came⟩)
    (c_came : PySem.W.codeIn K cd_came "came" = true)
    (k_came : PySem.W.keepIn K (.ref f_came) = true)
    (a_waits : PySem.W.nsIn K mainGlobals "waits" = some (some (.ref f_waits)))
    (l_waits : K.lookup f_waits = some ⟨oc_waits, od_waits, .func (PySem.W.fnOf "waits" "waits" (defArgs s_waits) (defBody s_waits) (defScope s_waits) .none kV_waits dc_waits pm_waits an_waits cd_waits ct_waits), sl_waits⟩)
    (c_waits : PySem.W.codeIn K cd_waits "waits" = true)
    (k_waits : PySem.W.keepIn K (.ref f_waits) = true)
    (a_server : PySem.W.nsIn K mainGlobals "server" = some (some (.ref f_server)))
    (l_server : K.lookup f_server = some ⟨oc_server, od_server, .func (PySem.W.fnOf "server" "server" (defArgs s_server) (defBody s_server) (defScope s_server) .none kV_server dc_server pm_server an_server cd_server ct_server), sl_server⟩)
    (c_server : PySem.W.codeIn K cd_server "server" = true)
    (k_server : PySem.W.keepIn K (.ref f_server) = true)
    (a_air : PySem.W.nsIn K mainGlobals "air" = some (some (.ref f_air)))
    (l_air : K.lookup f_air = some ⟨oc_air, od_air, .func (PySem.W.fnOf "air" "air" (defArgs s_air) (defBody s_air) (defScope s_air) .none kV_air dc_air pm_air an_air cd_air ct_air), sl_air⟩)
    (c_air : PySem.W.codeIn K cd_air "air" = true)
    (k_air : PySem.W.keepIn K (.ref f_air) = true)
    (a_ticks : PySem.W.nsIn K mainGlobals "ticks" = some (some (.ref f_ticks)))
    (l_ticks : K.lookup f_ticks = some ⟨oc_ticks, od_ticks, .func (PySem.W.fnOf "ticks" "ticks" (defArgs s_ticks) (defBody s_ticks) (defScope s_ticks) .none kV_ticks dc_ticks pm_ticks an_ticks cd_ticks ct_ticks), sl_ticks⟩)
    (c_ticks : PySem.W.codeIn K cd_ticks "ticks" = true)
    (k_ticks : PySem.W.keepIn K (.ref f_ticks) = true)
    (a_turns : PySem.W.nsIn K mainGlobals "turns" = some (some (.ref f_turns)))
    (l_turns : K.lookup f_turns = some ⟨oc_turns, od_turns, .func (PySem.W.fnOf "turns" "turns" (defArgs s_turns) (defBody s_turns) (defScope s_turns) .none kV_turns dc_turns pm_turns an_turns cd_turns ct_turns), sl_turns⟩)
    (c_turns : PySem.W.codeIn K cd_turns "turns" = true)
    (k_turns : PySem.W.keepIn K (.ref f_turns) = true)
    (a_answer_to : PySem.W.nsIn K mainGlobals "answer_to" = some (some (.ref f_answer_to)))
    (l_answer_to : K.lookup f_answer_to = some ⟨oc_answer_to, od_answer_to, .func (PySem.W.fnOf "answer_to" "answer_to" (defArgs s_answer_to) (defBody s_answer_to) (defScope s_answer_to) .none kV_answer_to dc_answer_to pm_answer_to an_answer_to cd_answer_to ct_answer_to), sl_answer_to⟩)
    (c_answer_to : PySem.W.codeIn K cd_answer_to "answer_to" = true)
    (k_answer_to : PySem.W.keepIn K (.ref f_answer_to) = true)
    (a_look_at : PySem.W.nsIn K mainGlobals "look_at" = some (some (.ref f_look_at)))
    (l_look_at : K.lookup f_look_at = some ⟨oc_look_at, od_look_at, .func (PySem.W.fnOf "look_at" "look_at" (defArgs s_look_at) (defBody s_look_at) (defScope s_look_at) .none kV_look_at dc_look_at pm_look_at an_look_at cd_look_at ct_look_at), sl_look_at⟩)
    (c_look_at : PySem.W.codeIn K cd_look_at "look_at" = true)
    (k_look_at : PySem.W.keepIn K (.ref f_look_at) = true)
    (a_answers : PySem.W.nsIn K mainGlobals "answers" = some (some (.ref f_answers)))
    (l_answers : K.lookup f_answers = some ⟨oc_answers, od_answers, .func (PySem.W.fnOf "answers" "answers" (defArgs s_answers) (defBody s_answers) (defScope s_answers) .none kV_answers dc_answers pm_answers an_answers cd_answers ct_answers), sl_answers⟩)
    (c_answers : PySem.W.codeIn K cd_answers "answers" = true)
    (k_answers : PySem.W.keepIn K (.ref f_answers) = true)
    (z_len : PySem.W.nsIn K mainGlobals "len" = some none)
    (z_enumerate : PySem.W.nsIn K mainGlobals "enumerate" = some none)
    (z_list : PySem.W.nsIn K mainGlobals "list" = some none)
    (z_range : PySem.W.nsIn K mainGlobals "range" = some none)
    (z_sorted : PySem.W.nsIn K mainGlobals "sorted" = some none)
    (v_ASKED : PySem.W.nsIn K mainGlobals "ASKED" = some (some (.int (0) tk_ASKED)))
    (v_WATCH : PySem.W.nsIn K mainGlobals "WATCH" = some (some (.int (1) tk_WATCH)))
    (v_UNWATCH : PySem.W.nsIn K mainGlobals "UNWATCH" = some (some (.int (2) tk_UNWATCH)))
    (v_ANSWER : PySem.W.nsIn K mainGlobals "ANSWER" = some (some (.int (3) tk_ANSWER)))
    (v_GONE : PySem.W.nsIn K mainGlobals "GONE" = some (some (.int (4) tk_GONE)))
    (v_CAME_ANSWER : PySem.W.nsIn K mainGlobals "CAME_ANSWER" = some (some (.int (0) tk_CAME_ANSWER)))
    (v_CAME_GONE : PySem.W.nsIn K mainGlobals "CAME_GONE" = some (some (.int (1) tk_CAME_GONE)))
    (v_CAME_OVER : PySem.W.nsIn K mainGlobals "CAME_OVER" = some (some (.int (2) tk_CAME_OVER)))
    (v_CAME_STOPPED : PySem.W.nsIn K mainGlobals "CAME_STOPPED" = some (some (.int (3) tk_CAME_STOPPED)))
    (v_ADD : PySem.W.nsIn K mainGlobals "ADD" = some (some (.int (0) tk_ADD)))
    (v_ADD_LATER : PySem.W.nsIn K mainGlobals "ADD_LATER" = some (some (.int (1) tk_ADD_LATER)))
    (v_HAND_ON : PySem.W.nsIn K mainGlobals "HAND_ON" = some (some (.int (2) tk_HAND_ON)))
    (v_DIE : PySem.W.nsIn K mainGlobals "DIE" = some (some (.int (3) tk_DIE)))
    (v_ADD_AND_DIE : PySem.W.nsIn K mainGlobals "ADD_AND_DIE" = some (some (.int (4) tk_ADD_AND_DIE)))
    (v_MODULUS : PySem.W.nsIn K mainGlobals "MODULUS" = some (some (.int (1000003) tk_MODULUS)))
    (v_NOT_THERE : PySem.W.nsIn K mainGlobals "NOT_THERE" = some (some (.int (-1) tk_NOT_THERE)))
    (v_BAD_END : PySem.W.nsIn K mainGlobals "BAD_END" = some (some (.int (-2) tk_BAD_END)))
    (v_NOTHING : PySem.W.nsIn K mainGlobals "NOTHING" = some (some (.int (-5) tk_NOTHING)))
    (v_TOO_MANY : PySem.W.nsIn K mainGlobals "TOO_MANY" = some (some (.int (-6) tk_TOO_MANY)))
    (v_NOT_NOW : PySem.W.nsIn K mainGlobals "NOT_NOW" = some (some (.int (-8) tk_NOT_NOW)))
    (v_MOST_WHAT : PySem.W.nsIn K mainGlobals "MOST_WHAT" = some (some (.int (4) tk_MOST_WHAT)))
    (v_MOST_MUCH : PySem.W.nsIn K mainGlobals "MOST_MUCH" = some (some (.int (1000) tk_MOST_MUCH)))
    (v_MOST_TICKS : PySem.W.nsIn K mainGlobals "MOST_TICKS" = some (some (.int (10000) tk_MOST_TICKS)))
    (v_MOST_TURNS : PySem.W.nsIn K mainGlobals "MOST_TURNS" = some (some (.int (500) tk_MOST_TURNS)))
    (v_FULL_AIR : PySem.W.nsIn K mainGlobals "FULL_AIR" = some (some (.int (150) tk_FULL_AIR)))
    (v_CALL_ASK : PySem.W.nsIn K mainGlobals "CALL_ASK" = some (some (.int (0) tk_CALL_ASK)))
    (v_CALL_TELL : PySem.W.nsIn K mainGlobals "CALL_TELL" = some (some (.int (1) tk_CALL_TELL)))
    (v_CALL_STOP : PySem.W.nsIn K mainGlobals "CALL_STOP" = some (some (.int (2) tk_CALL_STOP)))
    (v_CALL_DELIVER : PySem.W.nsIn K mainGlobals "CALL_DELIVER" = some (some (.int (3) tk_CALL_DELIVER)))
    (v_CALL_WORK : PySem.W.nsIn K mainGlobals "CALL_WORK" = some (some (.int (4) tk_CALL_WORK)))
    (v_CALL_ANSWER : PySem.W.nsIn K mainGlobals "CALL_ANSWER" = some (some (.int (5) tk_CALL_ANSWER)))
    (v_CALL_DIE : PySem.W.nsIn K mainGlobals "CALL_DIE" = some (some (.int (6) tk_CALL_DIE)))
    (v_CALL_START : PySem.W.nsIn K mainGlobals "CALL_START" = some (some (.int (7) tk_CALL_START)))
    (v_CALL_TICKS : PySem.W.nsIn K mainGlobals "CALL_TICKS" = some (some (.int (8) tk_CALL_TICKS)))
    (v_CALL_TURNS : PySem.W.nsIn K mainGlobals "CALL_TURNS" = some (some (.int (9) tk_CALL_TURNS)))
    (v_CALL_CAME : PySem.W.nsIn K mainGlobals "CALL_CAME" = some (some (.int (10) tk_CALL_CAME)))
    (v_CALL_WAITS : PySem.W.nsIn K mainGlobals "CALL_WAITS" = some (some (.int (11) tk_CALL_WAITS)))
    (v_CALL_SERVER : PySem.W.nsIn K mainGlobals "CALL_SERVER" = some (some (.int (12) tk_CALL_SERVER)))
    (v_GIVEN : PySem.W.nsIn K mainGlobals "GIVEN" = some (some (.ref gv)))
    (g_GIVEN : K.lookup gv = some { cls := .type "tuple", data := .seq #[.int 7 gt0, .int 3 gt1, .int 1 gt2, .int 2 gt3, .int 1 gt4, .int 2 gt5, .int 1 gt6, .int 1 gt7, .int 1 gt8, .int 1 gt9, .int 1 gt10, .int 1 gt11, .int 1 gt12, .int 0 gt13] gn })
    : ∃ fd : FuncData, (∀ (s : Shared) (us : List Value), us.length = (["calls"] : List Str).length → BindsTo s fd ⟨us, []⟩ ((["calls"] : List Str).zip us)) ∧ ∀ base : Heap, K.In base → base.Ns mainGlobals mg → FnOk P w K mg base CX0 10 fa fd ["calls"] (spAns K) := by
  have e := hfa.symm.trans (PySem.W.mg_of X G a_answers)
  cases e
  obtain ⟨Z, eZ⟩ : ∃ Z : Cs, Z = ⟨C_World, C_Caller, C_Server, C_Letter, C_Wait, gv⟩ := ⟨_, rfl⟩
  have T : Txt K mg Z := by
    rw [eZ]
    exact ⟨⟨pg_World, hd_World, po_World, sa_World⟩, n_World_now, n_World_made, n_World_callers, n_World_servers, n_World_air, ⟨pg_Caller, hd_Caller, po_Caller, sa_Caller⟩, n_Caller_waiting, n_Caller_came, ⟨pg_Server, hd_Server, po_Server, sa_Server⟩, n_Server_alive, n_Server_lives, n_Server_total, n_Server_asked, n_Server_later, n_Server_watchers, ⟨pg_Letter, hd_Letter, po_Letter, sa_Letter⟩, n_Letter_sender, n_Letter_receiver, n_Letter_told, ⟨pg_Wait, hd_Wait, po_Wait, sa_Wait⟩, n_Wait_number, n_Wait_server, n_Wait_ends, n_Wait_over, PySem.W.mg_none_of X G z_len, PySem.W.mg_none_of X G z_enumerate, PySem.W.mg_none_of X G z_list, PySem.W.mg_none_of X G z_range, PySem.W.mg_none_of X G z_sorted, ⟨_, PySem.W.mg_of X G v_ASKED⟩, ⟨_, PySem.W.mg_of X G v_WATCH⟩, ⟨_, PySem.W.mg_of X G v_UNWATCH⟩, ⟨_, PySem.W.mg_of X G v_ANSWER⟩, ⟨_, PySem.W.mg_of X G v_GONE⟩, ⟨_, PySem.W.mg_of X G v_CAME_ANSWER⟩, ⟨_, PySem.W.mg_of X G v_CAME_GONE⟩, ⟨_, PySem.W.mg_of X G v_CAME_OVER⟩, ⟨_, PySem.W.mg_of X G v_CAME_STOPPED⟩, ⟨_, PySem.W.mg_of X G v_ADD⟩, ⟨_, PySem.W.mg_of X G v_ADD_LATER⟩, ⟨_, PySem.W.mg_of X G v_HAND_ON⟩, ⟨_, PySem.W.mg_of X G v_DIE⟩, ⟨_, PySem.W.mg_of X G v_ADD_AND_DIE⟩, ⟨_, PySem.W.mg_of X G v_MODULUS⟩, ⟨_, PySem.W.mg_of X G v_NOT_THERE⟩, ⟨_, PySem.W.mg_of X G v_BAD_END⟩, ⟨_, PySem.W.mg_of X G v_NOTHING⟩, ⟨_, PySem.W.mg_of X G v_TOO_MANY⟩, ⟨_, PySem.W.mg_of X G v_NOT_NOW⟩, ⟨_, PySem.W.mg_of X G v_MOST_WHAT⟩, ⟨_, PySem.W.mg_of X G v_MOST_MUCH⟩, ⟨_, PySem.W.mg_of X G v_MOST_TICKS⟩, ⟨_, PySem.W.mg_of X G v_MOST_TURNS⟩, ⟨_, PySem.W.mg_of X G v_FULL_AIR⟩, ⟨_, PySem.W.mg_of X G v_CALL_ASK⟩, ⟨_, PySem.W.mg_of X G v_CALL_TELL⟩, ⟨_, PySem.W.mg_of X G v_CALL_STOP⟩, ⟨_, PySem.W.mg_of X G v_CALL_DELIVER⟩, ⟨_, PySem.W.mg_of X G v_CALL_WORK⟩, ⟨_, PySem.W.mg_of X G v_CALL_ANSWER⟩, ⟨_, PySem.W.mg_of X G v_CALL_DIE⟩, ⟨_, PySem.W.mg_of X G v_CALL_START⟩, ⟨_, PySem.W.mg_of X G v_CALL_TICKS⟩, ⟨_, PySem.W.mg_of X G v_CALL_TURNS⟩, ⟨_, PySem.W.mg_of X G v_CALL_CAME⟩, ⟨_, PySem.W.mg_of X G v_CALL_WAITS⟩, ⟨_, PySem.W.mg_of X G v_CALL_SERVER⟩, PySem.W.mg_of X G v_GIVEN, fun H => .inr ⟨_, _, _, g_GIVEN, rfl, rfl, (by show 14 ≤ sizeLine; decide), (.cons ⟨_, rfl⟩ (.cons ⟨_, rfl⟩ (.cons ⟨_, rfl⟩ (.cons ⟨_, rfl⟩ (.cons ⟨_, rfl⟩ (.cons ⟨_, rfl⟩ (.cons ⟨_, rfl⟩ (.cons ⟨_, rfl⟩ (.cons ⟨_, rfl⟩ (.cons ⟨_, rfl⟩ (.cons ⟨_, rfl⟩ (.cons ⟨_, rfl⟩ (.cons ⟨_, rfl⟩ (.cons ⟨_, rfl⟩ .nil))))))))))))))⟩⟩
  have cW : C_World = Z.W := by rw [eZ]
  have cC : C_Caller = Z.C := by rw [eZ]
  have cS : C_Server = Z.S := by rw [eZ]
  have cL : C_Letter = Z.L := by rw [eZ]
  have cT : C_Wait = Z.T := by rw [eZ]
  have F_Wait := fun_mk (st := s_Wait) l_Wait c_Wait k_Wait
  have b_Wait := F_Wait.binds (ps := ["self", "number", "server", "ends", "over"]) fun _ _ _ _ _ _ us hl => match us, hl with | [_, _, _, _, _], _ => rfl
  have F_Caller := fun_mk (st := s_Caller) l_Caller c_Caller k_Caller
  have b_Caller := F_Caller.binds (ps := ["self"]) fun _ _ _ _ _ _ us hl => match us, hl with | [_], _ => rfl
  have F_Server := fun_mk (st := s_Server) l_Server c_Server k_Server
  have b_Server := F_Server.binds (ps := ["self"]) fun _ _ _ _ _ _ us hl => match us, hl with | [_], _ => rfl
  have F_Letter := fun_mk (st := s_Letter) l_Letter c_Letter k_Letter
  have b_Letter := F_Letter.binds (ps := ["self", "sender", "receiver", "told"]) fun _ _ _ _ _ _ us hl => match us, hl with | [_, _, _, _], _ => rfl
  have F_World := fun_mk (st := s_World) l_World c_World k_World
  have b_World := F_World.binds (ps := ["self"]) fun _ _ _ _ _ _ us hl => match us, hl with | [_], _ => rfl
  have F_send := fun_mk (st := s_send) l_send c_send k_send
  have b_send := F_send.binds (ps := ["world", "sender", "receiver", "told"]) fun _ _ _ _ _ _ us hl => match us, hl with | [_, _, _, _], _ => rfl
  have F_first_on_its_way := fun_mk (st := s_first_on_its_way) l_first_on_its_way c_first_on_its_way k_first_on_its_way
  have b_first_on_its_way := F_first_on_its_way.binds (ps := ["world", "sender", "receiver"]) fun _ _ _ _ _ _ us hl => match us, hl with | [_, _, _], _ => rfl
  have F_comes_back := fun_mk (st := s_comes_back) l_comes_back c_comes_back k_comes_back
  have b_comes_back := F_comes_back.binds (ps := ["world", "c", "how", "answer"]) fun _ _ _ _ _ _ us hl => match us, hl with | [_, _, _, _], _ => rfl
  have F_arrives := fun_mk (st := s_arrives) l_arrives c_arrives k_arrives
  have b_arrives := F_arrives.binds (ps := ["world", "letter"]) fun _ _ _ _ _ _ us hl => match us, hl with | [_, _], _ => rfl
  have F_arrives_at_server := fun_mk (st := s_arrives_at_server) l_arrives_at_server c_arrives_at_server k_arrives_at_server
  have b_arrives_at_server := F_arrives_at_server.binds (ps := ["world", "letter"]) fun _ _ _ _ _ _ us hl => match us, hl with | [_, _], _ => rfl
  have F_watch_arrives := fun_mk (st := s_watch_arrives) l_watch_arrives c_watch_arrives k_watch_arrives
  have b_watch_arrives := F_watch_arrives.binds (ps := ["world", "letter"]) fun _ _ _ _ _ _ us hl => match us, hl with | [_, _], _ => rfl
  have F_arrives_at_caller := fun_mk (st := s_arrives_at_caller) l_arrives_at_caller c_arrives_at_caller k_arrives_at_caller
  have b_arrives_at_caller := F_arrives_at_caller.binds (ps := ["world", "letter"]) fun _ _ _ _ _ _ us hl => match us, hl with | [_, _], _ => rfl
  have F_does_first := fun_mk (st := s_does_first) l_does_first c_does_first k_does_first
  have b_does_first := F_does_first.binds (ps := ["world", "p"]) fun _ _ _ _ _ _ us hl => match us, hl with | [_, _], _ => rfl
  have F_adds := fun_mk (st := s_adds) l_adds c_adds k_adds
  have b_adds := F_adds.binds (ps := ["world", "p", "asked"]) fun _ _ _ _ _ _ us hl => match us, hl with | [_, _, _], _ => rfl
  have F_dies := fun_mk (st := s_dies) l_dies c_dies k_dies
  have b_dies := F_dies.binds (ps := ["world", "p"]) fun _ _ _ _ _ _ us hl => match us, hl with | [_, _], _ => rfl
  have F_lives_again := fun_mk (st := s_lives_again) l_lives_again c_lives_again k_lives_again
  have b_lives_again := F_lives_again.binds (ps := ["world", "p"]) fun _ _ _ _ _ _ us hl => match us, hl with | [_, _], _ => rfl
  have F_is_over := fun_mk (st := s_is_over) l_is_over c_is_over k_is_over
  have b_is_over := F_is_over.binds (ps := ["world", "wait"]) fun _ _ _ _ _ _ us hl => match us, hl with | [_, _], _ => rfl
  have F_time_passes := fun_mk (st := s_time_passes) l_time_passes c_time_passes k_time_passes
  have b_time_passes := F_time_passes.binds (ps := ["world", "n"]) fun _ _ _ _ _ _ us hl => match us, hl with | [_, _], _ => rfl
  have F_one_turn := fun_mk (st := s_one_turn) l_one_turn c_one_turn k_one_turn
  have b_one_turn := F_one_turn.binds (ps := ["world"]) fun _ _ _ _ _ _ us hl => match us, hl with | [_], _ => rfl
  have F_asked_badly := fun_mk (st := s_asked_badly) l_asked_badly c_asked_badly k_asked_badly
  have b_asked_badly := F_asked_badly.binds (ps := ["world", "c", "p", "what", "much", "other"]) fun _ _ _ _ _ _ us hl => match us, hl with | [_, _, _, _, _, _], _ => rfl
  have F_ask := fun_mk (st := s_ask) l_ask c_ask k_ask
  have b_ask := F_ask.binds (ps := ["world", "c", "p", "what", "much", "other", "ends", "ticks"]) fun _ _ _ _ _ _ us hl => match us, hl with | [_, _, _, _, _, _, _, _], _ => rfl
  have F_tell := fun_mk (st := s_tell) l_tell c_tell k_tell
  have b_tell := F_tell.binds (ps := ["world", "c", "p", "much"]) fun _ _ _ _ _ _ us hl => match us, hl with | [_, _, _, _], _ => rfl
  have F_stop := fun_mk (st := s_stop) l_stop c_stop k_stop
  have b_stop := F_stop.binds (ps := ["world", "c"]) fun _ _ _ _ _ _ us hl => match us, hl with | [_, _], _ => rfl
  have F_deliver := fun_mk (st := s_deliver) l_deliver c_deliver k_deliver
  have b_deliver := F_deliver.binds (ps := ["world", "p", "q"]) fun _ _ _ _ _ _ us hl => match us, hl with | [_, _, _], _ => rfl
  have F_work := fun_mk (st := s_work) l_work c_work k_work
  have b_work := F_work.binds (ps := ["world", "p"]) fun _ _ _ _ _ _ us hl => match us, hl with | [_, _], _ => rfl
  have F_answer := fun_mk (st := s_answer) l_answer c_answer k_answer
  have b_answer := F_answer.binds (ps := ["world", "p", "k"]) fun _ _ _ _ _ _ us hl => match us, hl with | [_, _, _], _ => rfl
  have F_die := fun_mk (st := s_die) l_die c_die k_die
  have b_die := F_die.binds (ps := ["world", "p"]) fun _ _ _ _ _ _ us hl => match us, hl with | [_, _], _ => rfl
  have F_start := fun_mk (st := s_start) l_start c_start k_start
  have b_start := F_start.binds (ps := ["world", "p"]) fun _ _ _ _ _ _ us hl => match us, hl with | [_, _], _ => rfl
  have F_counted := fun_mk (st := s_counted) l_counted c_counted k_counted
  have b_counted := F_counted.binds (ps := ["rows"]) fun _ _ _ _ _ _ us hl => match us, hl with | [_], _ => rfl
  have F_came := fun_mk (st := s_came) l_came c_came k_came
  have b_came := F_came.binds (ps := ["world", "c"]) fun _ _ _ _ _ _ us hl => match us, hl with | [_, _], _ => rfl
  have F_waits := fun_mk (st := s_waits) l_waits c_waits k_waits
  have b_waits := F_waits.binds (ps := ["world", "c"]) fun _ _ _ _ _ _ us hl => match us, hl with | [_, _], _ => rfl
  have F_server := fun_mk (st := s_server) l_server c_server k_server
  have b_server := F_server.binds (ps := ["world", "p"]) fun _ _ _ _ _ _ us hl => match us, hl with | [_, _], _ => rfl
  have F_air := fun_mk (st := s_air) l_air c_air k_air
  have b_air := F_air.binds (ps := ["world"]) fun _ _ _ _ _ _ us hl => match us, hl with | [_], _ => rfl
  have F_ticks := fun_mk (st := s_ticks) l_ticks c_ticks k_ticks
  have b_ticks := F_ticks.binds (ps := ["world", "n"]) fun _ _ _ _ _ _ us hl => match us, hl with | [_, _], _ => rfl
  have F_turns := fun_mk (st := s_turns) l_turns c_turns k_turns
  have b_turns := F_turns.binds (ps := ["world", "n"]) fun _ _ _ _ _ _ us hl => match us, hl with | [_, _], _ => rfl
  have F_answer_to := fun_mk (st := s_answer_to) l_answer_to c_answer_to k_answer_to
  have b_answer_to := F_answer_to.binds (ps := ["world", "call", "given"]) fun _ _ _ _ _ _ us hl => match us, hl with | [_, _, _], _ => rfl
  have F_look_at := fun_mk (st := s_look_at) l_look_at c_look_at k_look_at
  have b_look_at := F_look_at.binds (ps := ["world", "call", "given"]) fun _ _ _ _ _ _ us hl => match us, hl with | [_, _, _], _ => rfl
  have F_answers := fun_mk (st := s_answers) l_answers c_answers k_answers
  have b_answers := F_answers.binds (ps := ["calls"]) fun _ _ _ _ _ _ us hl => match us, hl with | [_], _ => rfl
  refine ⟨PySem.W.fnOf "answers" "answers" (defArgs s_answers) (defBody s_answers) (defScope s_answers) .none kV_answers dc_answers pm_answers an_answers cd_answers ct_answers, fun s us hu => match us, hu with | [_], _ => .of_eq rfl, fun base _ _ => ?_⟩
  have C_Letter1 : Mak P w K mg base 1 "Letter" ["self", "sender", "receiver", "told"] (spLetter Z) Z.L f_Letter _ := ⟨ok_Letter F_Letter T, by rw [← cL]; exact ⟨mk_Letter, a_Letter, i_Letter, kc_Letter⟩, by rw [← cL]; exact PySem.W.mg_of X G aC_Letter, b_Letter⟩
  have C_Wait1 : Mak P w K mg base 1 "Wait" ["self", "number", "server", "ends", "over"] (spWait Z) Z.T f_Wait _ := ⟨ok_Wait F_Wait T, by rw [← cT]; exact ⟨mk_Wait, a_Wait, i_Wait, kc_Wait⟩, by rw [← cT]; exact PySem.W.mg_of X G aC_Wait, b_Wait⟩
  have C_Caller1 : Mak P w K mg base 1 "Caller" ["self"] (spCaller Z) Z.C f_Caller _ := ⟨ok_Caller F_Caller T, by rw [← cC]; exact ⟨mk_Caller, a_Caller, i_Caller, kc_Caller⟩, by rw [← cC]; exact PySem.W.mg_of X G aC_Caller, b_Caller⟩
  have C_Server1 : Mak P w K mg base 1 "Server" ["self"] (spServer Z) Z.S f_Server _ := ⟨ok_Server F_Server T, by rw [← cS]; exact ⟨mk_Server, a_Server, i_Server, kc_Server⟩, by rw [← cS]; exact PySem.W.mg_of X G aC_Server, b_Server⟩
  have C_World1 : Mak P w K mg base 3 "World" ["self"] (spWorld Z) Z.W f_World _ := ⟨ok_World F_World T C_Caller1 C_Server1, by rw [← cW]; exact ⟨mk_World, a_World, i_World, kc_World⟩, by rw [← cW]; exact PySem.W.mg_of X G aC_World, b_World⟩
  have G_send : Cal P w K mg base 3 "send" ["world", "sender", "receiver", "told"] (spSend Z) f_send _ := ⟨ok_send F_send T C_Letter1, PySem.W.mg_of X G a_send, k_send, b_send⟩
  have G_first_on_its_way : Cal P w K mg base 1 "first_on_its_way" ["world", "sender", "receiver"] (spFirst Z) f_first_on_its_way _ := ⟨ok_first F_first_on_its_way T, PySem.W.mg_of X G a_first_on_its_way, k_first_on_its_way, b_first_on_its_way⟩
  have G_comes_back : Cal P w K mg base 4 "comes_back" ["world", "c", "how", "answer"] (spComes Z) f_comes_back _ := ⟨ok_comes F_comes_back T G_send, PySem.W.mg_of X G a_comes_back, k_comes_back, b_comes_back⟩
  have G_dies : Cal P w K mg base 4 "dies" ["world", "p"] (spDies Z) f_dies _ := ⟨ok_dies F_dies T G_send, PySem.W.mg_of X G a_dies, k_dies, b_dies⟩
  have G_watch_arrives : Cal P w K mg base 4 "watch_arrives" ["world", "letter"] (spArr Z isWatch) f_watch_arrives _ := ⟨ok_watch F_watch_arrives T G_send, PySem.W.mg_of X G a_watch_arrives, k_watch_arrives, b_watch_arrives⟩
  have G_arrives_at_server : Cal P w K mg base 5 "arrives_at_server" ["world", "letter"] (spArr Z fun q _ => isS q) f_arrives_at_server _ := ⟨ok_arrS F_arrives_at_server T G_watch_arrives, PySem.W.mg_of X G a_arrives_at_server, k_arrives_at_server, b_arrives_at_server⟩
  have G_arrives_at_caller : Cal P w K mg base 5 "arrives_at_caller" ["world", "letter"] (spArr Z fun q _ => isC q) f_arrives_at_caller _ := ⟨ok_arrC F_arrives_at_caller T G_comes_back, PySem.W.mg_of X G a_arrives_at_caller, k_arrives_at_caller, b_arrives_at_caller⟩
  have G_arrives : Cal P w K mg base 6 "arrives" ["world", "letter"] (spArr Z fun _ _ => True) f_arrives _ := ⟨ok_arrives F_arrives T G_arrives_at_server G_arrives_at_caller, PySem.W.mg_of X G a_arrives, k_arrives, b_arrives⟩
  have G_adds : Cal P w K mg base 5 "adds" ["world", "p", "asked"] (spAdds Z) f_adds _ := ⟨ok_adds F_adds T G_send G_dies, PySem.W.mg_of X G a_adds, k_adds, b_adds⟩
  have G_does_first : Cal P w K mg base 6 "does_first" ["world", "p"] (spDoes Z) f_does_first _ := ⟨ok_does F_does_first T G_send G_dies G_adds, PySem.W.mg_of X G a_does_first, k_does_first, b_does_first⟩
  have G_asked_badly : Cal P w K mg base 1 "asked_badly" ["world", "c", "p", "what", "much", "other"] (spBad Z) f_asked_badly _ := ⟨ok_bad F_asked_badly T, PySem.W.mg_of X G a_asked_badly, k_asked_badly, b_asked_badly⟩
  have G_ask : Cal P w K mg base 5 "ask" ["world", "c", "p", "what", "much", "other", "ends", "ticks"] (spAct Z 7 cAsk) f_ask _ := ⟨ok_ask F_ask T G_send G_asked_badly G_comes_back C_Wait1, PySem.W.mg_of X G a_ask, k_ask, b_ask⟩
  have G_tell : Cal P w K mg base 4 "tell" ["world", "c", "p", "much"] (spAct Z 3 cTell) f_tell _ := ⟨ok_tell F_tell T G_send G_asked_badly, PySem.W.mg_of X G a_tell, k_tell, b_tell⟩
  have G_stop : Cal P w K mg base 5 "stop" ["world", "c"] (spAct Z 1 cStop) f_stop _ := ⟨ok_stop F_stop T G_comes_back, PySem.W.mg_of X G a_stop, k_stop, b_stop⟩
  have G_deliver : Cal P w K mg base 7 "deliver" ["world", "p", "q"] (spAct Z 2 cDeliver) f_deliver _ := ⟨ok_deliver F_deliver T G_first_on_its_way G_arrives, PySem.W.mg_of X G a_deliver, k_deliver, b_deliver⟩
  have G_work : Cal P w K mg base 7 "work" ["world", "p"] (spAct Z 1 cWork) f_work _ := ⟨ok_work F_work T G_does_first, PySem.W.mg_of X G a_work, k_work, b_work⟩
  have G_answer : Cal P w K mg base 4 "answer" ["world", "p", "k"] (spAct Z 2 cAnswer) f_answer _ := ⟨ok_answer F_answer T G_send, PySem.W.mg_of X G a_answer, k_answer, b_answer⟩
  have G_die : Cal P w K mg base 5 "die" ["world", "p"] (spAct Z 1 cDie) f_die _ := ⟨ok_die F_die T G_dies, PySem.W.mg_of X G a_die, k_die, b_die⟩
  have G_lives_again : Cal P w K mg base 1 "lives_again" ["world", "p"] (spLives Z) f_lives_again _ := ⟨ok_lives F_lives_again T, PySem.W.mg_of X G a_lives_again, k_lives_again, b_lives_again⟩
  have G_start : Cal P w K mg base 2 "start" ["world", "p"] (spAct Z 1 cStart) f_start _ := ⟨ok_start F_start T G_lives_again, PySem.W.mg_of X G a_start, k_start, b_start⟩
  have G_is_over : Cal P w K mg base 1 "is_over" ["world", "wait"] (spOver Z) f_is_over _ := ⟨ok_over F_is_over T, PySem.W.mg_of X G a_is_over, k_is_over, b_is_over⟩
  have G_time_passes : Cal P w K mg base 5 "time_passes" ["world", "n"] (spPass Z) f_time_passes _ := ⟨ok_pass F_time_passes T G_comes_back G_is_over, PySem.W.mg_of X G a_time_passes, k_time_passes, b_time_passes⟩
  have G_ticks : Cal P w K mg base 6 "ticks" ["world", "n"] (spAct Z 1 cTicks) f_ticks _ := ⟨ok_ticks F_ticks T G_time_passes, PySem.W.mg_of X G a_ticks, k_ticks, b_ticks⟩
  have G_one_turn : Cal P w K mg base 7 "one_turn" ["world"] (spTurn Z) f_one_turn _ := ⟨ok_turn F_one_turn T G_arrives G_does_first, PySem.W.mg_of X G a_one_turn, k_one_turn, b_one_turn⟩
  have G_turns : Cal P w K mg base 8 "turns" ["world", "n"] (spAct Z 1 cTurns) f_turns _ := ⟨ok_turns F_turns T G_one_turn, PySem.W.mg_of X G a_turns, k_turns, b_turns⟩
  have G_counted : Cal P w K mg base 1 "counted" ["rows"] (spCount K) f_counted _ := ⟨ok_counted F_counted T, PySem.W.mg_of X G a_counted, k_counted, b_counted⟩
  have G_came : Cal P w K mg base 2 "came" ["world", "c"] (spAct Z 1 cCame) f_came _ := ⟨ok_came F_came T G_counted, PySem.W.mg_of X G a_came, k_came, b_came⟩
  have G_waits : Cal P w K mg base 1 "waits" ["world", "c"] (spAct Z 1 cWaits) f_waits _ := ⟨ok_waits F_waits T, PySem.W.mg_of X G a_waits, k_waits, b_waits⟩
  have G_server : Cal P w K mg base 2 "server" ["world", "p"] (spAct Z 1 cServer) f_server _ := ⟨ok_server F_server T G_counted, PySem.W.mg_of X G a_server, k_server, b_server⟩
  have G_air : Cal P w K mg base 2 "air" ["world"] (spAct Z 0 cAir) f_air _ := ⟨ok_air F_air T G_counted, PySem.W.mg_of X G a_air, k_air, b_air⟩
  have G_look_at : Cal P w K mg base 3 "look_at" ["world", "call", "given"] (spLook Z K) f_look_at _ := ⟨ok_look_at F_look_at T G_came G_waits G_server G_air, PySem.W.mg_of X G a_look_at, k_look_at, b_look_at⟩
  have G_answer_to : Cal P w K mg base 9 "answer_to" ["world", "call", "given"] (spTo Z K) f_answer_to _ := ⟨ok_answer_to F_answer_to T G_ask G_tell G_stop G_deliver G_work G_answer G_die G_start G_ticks G_turns G_look_at, PySem.W.mg_of X G a_answer_to, k_answer_to, b_answer_to⟩
  exact ok_answers F_answers T given_ok C_World1 G_answer_to
end AO
open PySem PySem.W PyProof.Rows
set_option maxRecDepth 100000 in
set_option maxHeartbeats 8000000 in
theorem PySem.Challenge.cw_answeredonce_s01_answers_holds : PySem.Challenge.rw_answeredonce_s01_answers.Holds := by
  w_on; k_headS; (case hw => exact ⟨[.list [.int 13]], by decide +kernel, by decide +kernel⟩)
  k_fillS
  refine L2.walk_specK (r := PySem.Challenge.rw_answeredonce_s01_answers) (k := 10) (CX := L2.CX0) (ps := ["calls"]) (sp := AO.spAns) (by decide +kernel) rfl rfl ⟨rfl, by decide, by decide⟩ (fun w h Y => PySem.W.kIn_of Y) ?F ?S (fun _ _ _ _ z => z)
  case F =>
    intro w mg fa h Y KX G hmg
    refine' AO.all_mk KX G hmg ?aC_Wait ?a_Wait ?i_Wait ?l_Wait ?c_Wait ?k_Wait ?pg_Wait ?hd_Wait ?po_Wait ?sa_Wait ?mk_Wait ?kc_Wait ?n_Wait_number ?n_Wait_server ?n_Wait_ends ?n_Wait_over ?aC_Caller ?a_Caller ?i_Caller ?l_Caller ?c_Caller ?k_Caller ?pg_Caller ?hd_Caller ?po_Caller ?sa_Caller ?mk_Caller ?kc_Caller ?n_Caller_waiting ?n_Caller_came ?aC_Server ?a_Server ?i_Server ?l_Server ?c_Server ?k_Server ?pg_Server ?hd_Server ?po_Server ?sa_Server ?mk_Server ?kc_Server ?n_Server_alive ?n_Server_lives ?n_Server_total ?n_Server_asked ?n_Server_later ?n_Server_watchers ?aC_Letter ?a_Letter ?i_Letter ?l_Letter ?c_Letter ?k_Letter ?pg_Letter ?hd_Letter ?po_Letter ?sa_Letter ?mk_Letter ?kc_Letter ?n_Letter_sender ?n_Letter_receiver ?n_Letter_told ?aC_World ?a_World ?i_World ?l_World ?c_World ?k_World ?pg_World ?hd_World ?po_World ?sa_World ?mk_World ?kc_World ?n_World_now ?n_World_made ?n_World_callers ?n_World_servers ?n_World_air ?a_send ?l_send ?c_send ?k_send ?a_first_on_its_way ?l_first_on_its_way ?c_first_on_its_way ?k_first_on_its_way ?a_comes_back ?l_comes_back ?c_comes_back ?k_comes_back ?a_arrives ?l_arrives ?c_arrives ?k_arrives ?a_arrives_at_server ?l_arrives_at_server ?c_arrives_at_server ?k_arrives_at_server ?a_watch_arrives ?l_watch_arrives ?c_watch_arrives ?k_watch_arrives ?a_arrives_at_caller ?l_arrives_at_caller ?c_arrives_at_caller ?k_arrives_at_caller ?a_does_first ?l_does_first ?c_does_first ?k_does_first ?a_adds ?l_adds ?c_adds ?k_adds ?a_dies ?l_dies ?c_dies ?k_dies ?a_lives_again ?l_lives_again ?c_lives_again ?k_lives_again ?a_is_over ?l_is_over ?c_is_over ?k_is_over ?a_time_passes ?l_time_passes ?c_time_passes ?k_time_passes ?a_one_turn ?l_one_turn ?c_one_turn ?k_one_turn ?a_asked_badly ?l_asked_badly ?c_asked_badly ?k_asked_badly ?a_ask ?l_ask ?c_ask ?k_ask ?a_tell ?l_tell ?c_tell ?k_tell ?a_stop ?l_stop ?c_stop ?k_stop ?a_deliver ?l_deliver ?c_deliver ?k_deliver ?a_work ?l_work ?c_work ?k_work ?a_answer ?l_answer ?c_answer ?k_answer ?a_die ?l_die ?c_die ?k_die ?a_start ?l_start ?c_start ?k_start ?a_counted ?l_counted ?c_counted ?k_counted ?a_came ?l_came ?c_came ?k_came ?a_waits ?l_waits ?c_waits ?k_waits ?a_server ?l_server ?c_server ?k_server ?a_air ?l_air ?c_air ?k_air ?a_ticks ?l_ticks ?c_ticks ?k_ticks ?a_turns ?l_turns ?c_turns ?k_turns ?a_answer_to ?l_answer_to ?c_answer_to ?k_answer_to ?a_look_at ?l_look_at ?c_look_at ?k_look_at ?a_answers ?l_answers ?c_answers ?k_answers ?z_len ?z_enumerate ?z_list ?z_range ?z_sorted ?v_ASKED ?v_WATCH ?v_UNWATCH ?v_ANSWER ?v_GONE ?v_CAME_ANSWER ?v_CAME_GONE ?v_CAME_OVER ?v_CAME_STOPPED ?v_ADD ?v_ADD_LATER ?v_HAND_ON ?v_DIE ?v_ADD_AND_DIE ?v_MODULUS ?v_NOT_THERE ?v_BAD_END ?v_NOTHING ?v_TOO_MANY ?v_NOT_NOW ?v_MOST_WHAT ?v_MOST_MUCH ?v_MOST_TICKS ?v_MOST_TURNS ?v_FULL_AIR ?v_CALL_ASK ?v_CALL_TELL ?v_CALL_STOP ?v_CALL_DELIVER ?v_CALL_WORK ?v_CALL_ANSWER ?v_CALL_DIE ?v_CALL_START ?v_CALL_TICKS ?v_CALL_TURNS ?v_CALL_CAME ?v_CALL_WAITS ?v_CALL_SERVER ?v_GIVEN ?g_GIVEN
    (case aC_Wait => k_is)
    (case a_Wait => k_is)
    (case i_Wait => k_is)
    (case l_Wait => k_is)
    (case c_Wait => k_is)
    (case k_Wait => k_is)
    (case pg_Wait => k_is)
    (case hd_Wait => k_is)
    (case po_Wait => k_is)
    (case sa_Wait => k_is)
    (case mk_Wait => k_is)
    (case kc_Wait => k_is)
    (case n_Wait_number => k_is)
    (case n_Wait_server => k_is)
    (case n_Wait_ends => k_is)
    (case n_Wait_over => k_is)
    (case aC_Caller => k_is)
    (case a_Caller => k_is)
    (case i_Caller => k_is)
    (case l_Caller => k_is)
    (case c_Caller => k_is)
    (case k_Caller => k_is)
    (case pg_Caller => k_is)
    (case hd_Caller => k_is)
    (case po_Caller => k_is)
    (case sa_Caller => k_is)
    (case mk_Caller => k_is)
    (case kc_Caller => k_is)
    (case n_Caller_waiting => k_is)
    (case n_Caller_came => k_is)
    (case aC_Server => k_is)
    (case a_Server => k_is)
    (case i_Server => k_is)
    (case l_Server => k_is)
    (case c_Server => k_is)
    (case k_Server => k_is)
    (case pg_Server => k_is)
    (case hd_Server => k_is)
    (case po_Server => k_is)
    (case sa_Server => k_is)
    (case mk_Server => k_is)
    (case kc_Server => k_is)
    (case n_Server_alive => k_is)
    (case n_Server_lives => k_is)
    (case n_Server_total => k_is)
    (case n_Server_asked => k_is)
    (case n_Server_later => k_is)
    (case n_Server_watchers => k_is)
    (case aC_Letter => k_is)
    (case a_Letter => k_is)
    (case i_Letter => k_is)
    (case l_Letter => k_is)
    (case c_Letter => k_is)
    (case k_Letter => k_is)
    (case pg_Letter => k_is)
    (case hd_Letter => k_is)
    (case po_Letter => k_is)
    (case sa_Letter => k_is)
    (case mk_Letter => k_is)
    (case kc_Letter => k_is)
    (case n_Letter_sender => k_is)
    (case n_Letter_receiver => k_is)
    (case n_Letter_told => k_is)
    (case aC_World => k_is)
    (case a_World => k_is)
    (case i_World => k_is)
    (case l_World => k_is)
    (case c_World => k_is)
    (case k_World => k_is)
    (case pg_World => k_is)
    (case hd_World => k_is)
    (case po_World => k_is)
    (case sa_World => k_is)
    (case mk_World => k_is)
    (case kc_World => k_is)
    (case n_World_now => k_is)
    (case n_World_made => k_is)
    (case n_World_callers => k_is)
    (case n_World_servers => k_is)
    (case n_World_air => k_is)
    (case a_send => k_is)
    (case l_send => k_is)
    (case c_send => k_is)
    (case k_send => k_is)
    (case a_first_on_its_way => k_is)
    (case l_first_on_its_way => k_is)
    (case c_first_on_its_way => k_is)
    (case k_first_on_its_way => k_is)
    (case a_comes_back => k_is)
    (case l_comes_back => k_is)
    (case c_comes_back => k_is)
    (case k_comes_back => k_is)
    (case a_arrives => k_is)
    (case l_arrives => k_is)
    (case c_arrives => k_is)
    (case k_arrives => k_is)
    (case a_arrives_at_server => k_is)
    (case l_arrives_at_server => k_is)
    (case c_arrives_at_server => k_is)
    (case k_arrives_at_server => k_is)
    (case a_watch_arrives => k_is)
    (case l_watch_arrives => k_is)
    (case c_watch_arrives => k_is)
    (case k_watch_arrives => k_is)
    (case a_arrives_at_caller => k_is)
    (case l_arrives_at_caller => k_is)
    (case c_arrives_at_caller => k_is)
    (case k_arrives_at_caller => k_is)
    (case a_does_first => k_is)
    (case l_does_first => k_is)
    (case c_does_first => k_is)
    (case k_does_first => k_is)
    (case a_adds => k_is)
    (case l_adds => k_is)
    (case c_adds => k_is)
    (case k_adds => k_is)
    (case a_dies => k_is)
    (case l_dies => k_is)
    (case c_dies => k_is)
    (case k_dies => k_is)
    (case a_lives_again => k_is)
    (case l_lives_again => k_is)
    (case c_lives_again => k_is)
    (case k_lives_again => k_is)
    (case a_is_over => k_is)
    (case l_is_over => k_is)
    (case c_is_over => k_is)
    (case k_is_over => k_is)
    (case a_time_passes => k_is)
    (case l_time_passes => k_is)
    (case c_time_passes => k_is)
    (case k_time_passes => k_is)
    (case a_one_turn => k_is)
    (case l_one_turn => k_is)
    (case c_one_turn => k_is)
    (case k_one_turn => k_is)
    (case a_asked_badly => k_is)
    (case l_asked_badly => k_is)
    (case c_asked_badly => k_is)
    (case k_asked_badly => k_is)
    (case a_ask => k_is)
    (case l_ask => k_is)
    (case c_ask => k_is)
    (case k_ask => k_is)
    (case a_tell => k_is)
    (case l_tell => k_is)
    (case c_tell => k_is)
    (case k_tell => k_is)
    (case a_stop => k_is)
    (case l_stop => k_is)
    (case c_stop => k_is)
    (case k_stop => k_is)
    (case a_deliver => k_is)
    (case l_deliver => k_is)
    (case c_deliver => k_is)
    (case k_deliver => k_is)
    (case a_work => k_is)
    (case l_work => k_is)
    (case c_work => k_is)
    (case k_work => k_is)
    (case a_answer => k_is)
    (case l_answer => k_is)
    (case c_answer => k_is)
    (case k_answer => k_is)
    (case a_die => k_is)
    (case l_die => k_is)
    (case c_die => k_is)
    (case k_die => k_is)
    (case a_start => k_is)
    (case l_start => k_is)
    (case c_start => k_is)
    (case k_start => k_is)
    (case a_counted => k_is)
    (case l_counted => k_is)
    (case c_counted => k_is)
    (case k_counted => k_is)
    (case a_came => k_is)
    (case l_came => k_is)
    (case c_came => k_is)
    (case k_came => k_is)
    (case a_waits => k_is)
    (case l_waits => k_is)
    (case c_waits => k_is)
    (case k_waits => k_is)
    (case a_server => k_is)
    (case l_server => k_is)
    (case c_server => k_is)
    (case k_server => k_is)
    (case a_air => k_is)
    (case l_air => k_is)
    (case c_air => k_is)
    (case k_air => k_is)
    (case a_ticks => k_is)
    (case l_ticks => k_is)
    (case c_ticks => k_is)
    (case k_ticks => k_is)
    (case a_turns => k_is)
    (case l_turns => k_is)
    (case c_turns => k_is)
    (case k_turns => k_is)
    (case a_answer_to => k_is)
    (case l_answer_to => k_is)
    (case c_answer_to => k_is)
    (case k_answer_to => k_is)
    (case a_look_at => k_is)
    (case l_look_at => k_is)
    (case c_look_at => k_is)
    (case k_look_at => k_is)
    (case a_answers => k_is)
    (case l_answers => k_is)
    (case c_answers => k_is)
    (case k_answers => k_is)
    (case z_len => k_is)
    (case z_enumerate => k_is)
    (case z_list => k_is)
    (case z_range => k_is)
    (case z_sorted => k_is)
    (case v_ASKED => k_is)
    (case v_WATCH => k_is)
    (case v_UNWATCH => k_is)
    (case v_ANSWER => k_is)
    (case v_GONE => k_is)
    (case v_CAME_ANSWER => k_is)
    (case v_CAME_GONE => k_is)
    (case v_CAME_OVER => k_is)
    (case v_CAME_STOPPED => k_is)
    (case v_ADD => k_is)
    (case v_ADD_LATER => k_is)
    (case v_HAND_ON => k_is)
    (case v_DIE => k_is)
    (case v_ADD_AND_DIE => k_is)
    (case v_MODULUS => k_is)
    (case v_NOT_THERE => k_is)
    (case v_BAD_END => k_is)
    (case v_NOTHING => k_is)
    (case v_TOO_MANY => k_is)
    (case v_NOT_NOW => k_is)
    (case v_MOST_WHAT => k_is)
    (case v_MOST_MUCH => k_is)
    (case v_MOST_TICKS => k_is)
    (case v_MOST_TURNS => k_is)
    (case v_FULL_AIR => k_is)
    (case v_CALL_ASK => k_is)
    (case v_CALL_TELL => k_is)
    (case v_CALL_STOP => k_is)
    (case v_CALL_DELIVER => k_is)
    (case v_CALL_WORK => k_is)
    (case v_CALL_ANSWER => k_is)
    (case v_CALL_DIE => k_is)
    (case v_CALL_START => k_is)
    (case v_CALL_TICKS => k_is)
    (case v_CALL_TURNS => k_is)
    (case v_CALL_CAME => k_is)
    (case v_CALL_WAITS => k_is)
    (case v_CALL_SERVER => k_is)
    (case v_GIVEN => k_is)
    (case g_GIVEN => k_is)
  case S =>
    intro K H xs a hO hwi hask hx
    cases hx with
    | cons h1 h2 =>
      cases h2
      cases h1 with
      | lst hs ha =>
        have e := L2.ints_dw a.1 _ ha
        subst e
        have q : ((Codec.inLen 0 800 a.1 && a.1.all (Codec.inInt 0 4294967295)) && true) = true := hwi
        rw [Bool.and_eq_true, Bool.and_eq_true] at q
        refine ⟨_, a.1, rfl, hs, (Codec.inNat_iff.mp q.1.1).2, fun x hx => ?_, hask, fun H' p hp => .lst (L2.SqL.of hp) (L2.dw_ints _)⟩
        have q2 := List.all_eq_true.mp q.1.2 x hx
        exact Codec.inInt_iff.mp q2

